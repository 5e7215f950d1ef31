import PyProof.Rows.All
import Wide.All
import OpenK.AllK
import Wide.FinOn
import Lean
import PyProof.EqAt
import PyProof.EqKinds
import PyProof.TupleCall
import PySem.Challenge.RW_onceround_k60_whole_least_ring
set_option genSizeOfSpec false
set_option bootstrap.genMatcherCode false
-- CHANGE: your row's module here, as the last of these rows
set_option Elab.async false
set_option linter.all false
set_option maxRecDepth 100000
namespace L2
open PySem PySem.Spec PyProof.Rows

noncomputable abbrev Key := Sum Int Str
noncomputable def keyIs : Key → Value → Bool
  | .inl k, v => Value.isInt k v
  | .inr x, v => Value.isStrOf x v
noncomputable def keyH (w : World) : Key → Int
  | .inl k => hashInt k
  | .inr x => hashStr w x
theorem keyIs_shape : ∀ {k : Key} {v : Value}, keyIs k v = true → (∃ i t, k = Sum.inl i ∧ v = Value.int i t) ∨ (∃ x t, k = Sum.inr x ∧ v = Value.str x t)
  | .inl i, v, h => by
    obtain ⟨t, e⟩ := Value.isInt_shape (k := i) (v := v) h
    exact .inl ⟨i, t, rfl, e⟩
  | .inr x, v, h => by
    obtain ⟨t, e⟩ := Value.isStrOf_shape (x := x) (v := v) h
    exact .inr ⟨x, t, rfl, e⟩
theorem keyIs_int (i : Int) (t : Tok) : keyIs (.inl i) (.int i t) = true := by simp [keyIs, Value.isInt]
theorem keyIs_str (x : Str) (t : Tok) : keyIs (.inr x) (.str x t) = true := by simp [keyIs, Value.isStrOf]
theorem key_ll (a b : Int) : decide ((Sum.inl a : Key) = Sum.inl b) = (a == b) := by
  by_cases e : a = b
  · subst e; simp
  · have h : ¬ (Sum.inl a : Key) = Sum.inl b := fun q => e (Sum.inl.inj q)
    rw [decide_eq_false h]
    exact (beq_eq_false_iff_ne.mpr e).symm
theorem key_rr (a b : Str) : decide ((Sum.inr a : Key) = Sum.inr b) = decide (a = b) := by
  by_cases e : a = b
  · subst e; simp
  · have h : ¬ (Sum.inr a : Key) = Sum.inr b := fun q => e (Sum.inr.inj q)
    rw [decide_eq_false h, decide_eq_false e]
theorem key_lr (a : Int) (b : Str) : decide ((Sum.inl a : Key) = Sum.inr b) = false := decide_eq_false (fun q => nomatch q)
theorem key_rl (a : Str) (b : Int) : decide ((Sum.inr a : Key) = Sum.inl b) = false := decide_eq_false (fun q => nomatch q)

noncomputable def mixKind (prog : Program) (w : World) : PySem.KeyKind prog w Key where
  is := keyIs
  hash := keyH w
  inj := fun v a b ha hb => by
    rcases keyIs_shape ha with ⟨i, t, rfl, rfl⟩ | ⟨x, t, rfl, rfl⟩
    · rcases keyIs_shape hb with ⟨j, u, rfl, e⟩ | ⟨y, u, rfl, e⟩
      · injection e with e1 _; rw [e1]
      · exact nomatch e
    · rcases keyIs_shape hb with ⟨j, u, rfl, e⟩ | ⟨y, u, rfl, e⟩
      · exact nomatch e
      · injection e with e1 _; rw [e1]
  byValue := fun k v h => by
    rcases keyIs_shape h with ⟨i, t, rfl, rfl⟩ | ⟨x, t, rfl, rfl⟩ <;> rfl
  pyHash := fun hv h => by
    rcases keyIs_shape hv with ⟨i, t, rfl, rfl⟩ | ⟨x, t, rfl, rfl⟩
    · exact wpAny_pyHash_int h
    · exact wpAny_pyHash_str h
  eqBool := fun hu hv h => by
    rcases keyIs_shape hu with ⟨i, t, rfl, rfl⟩ | ⟨x, t, rfl, rfl⟩
    · rcases keyIs_shape hv with ⟨j, u, rfl, rfl⟩ | ⟨y, u, rfl, rfl⟩
      · rw [key_ll] at h; exact wpAny_eqBool_int h
      · rw [key_lr] at h; exact SeqAt.EqAt.int_str i t y u _ _ _ _ h
    · rcases keyIs_shape hv with ⟨j, u, rfl, rfl⟩ | ⟨y, u, rfl, rfl⟩
      · rw [key_rl] at h; exact SeqAt.EqAt.str_int x t j u _ _ _ _ h
      · rw [key_rr] at h; exact wpAny_eqBool_str h
  «strs» := fun k x t v h => by
    rcases keyIs_shape h with ⟨i, u, rfl, e⟩ | ⟨y, u, rfl, e⟩
    · exact nomatch e
    · injection e with e1 _
      subst e1
      cases v <;> rfl

theorem mixKind_int (prog : Program) (w : World) (i : Int) (t : Tok) : (mixKind prog w).is (.inl i) (.int i t) = true := keyIs_int i t
theorem mixKind_str (prog : Program) (w : World) (x : Str) (t : Tok) : (mixKind prog w).is (.inr x) (.str x t) = true := keyIs_str x t
end L2

namespace L2
open PySem PySem.Spec PyProof.Rows

inductive V where
  | non | bl (b : Bool) | int (i : Int) | str (x : Str) | byt (b : Array UInt8) | flt (b : UInt64) | ref (a : Addr) | ty (n : String)
  deriving DecidableEq

noncomputable def RelV : V → Value → Prop
  | .non, u => u = Value.none
  | .bl b, u => u = Value.bool b
  | .int i, u => ∃ t, u = Value.int i t
  | .str x, u => ∃ t, u = Value.str x t
  | .byt b, u => ∃ t, u = Value.bytes b t
  | .flt b, u => ∃ t, u = Value.float b t
  | .ref a, u => u = Value.ref a
  | .ty n, u => u = Value.type n

noncomputable abbrev Vals : List V → List Value → Prop := Paired RelV
theorem Vals.length {xs : List V} {us : List Value} (r : Vals xs us) : xs.length = us.length := Paired.length r
theorem Vals.get : ∀ {xs : List V} {us : List Value} {i : Nat} {x : V}, Vals xs us → xs[i]? = some x → ∃ u, us[i]? = some u ∧ RelV x u
  | _, _, _, _, .nil, e => by simp at e
  | _, _, 0, _, .cons r _, e => by simp at e; subst e; exact ⟨_, rfl, r⟩
  | _, _, i + 1, x, .cons _ t, e => by
    obtain ⟨u, h1, h2⟩ := Vals.get (i := i) (x := x) t (by simpa using e)
    exact ⟨u, by simpa using h1, h2⟩
theorem Vals.append : ∀ {xs ys : List V} {us ws : List Value}, Vals xs us → Vals ys ws → Vals (xs ++ ys) (us ++ ws)
  | _, _, _, _, .nil, s => s
  | _, _, _, _, .cons r t, s => .cons r (Vals.append t s)
theorem Vals.take : ∀ {xs : List V} {us : List Value} (n : Nat), Vals xs us → Vals (xs.take n) (us.take n)
  | _, _, 0, _ => .nil
  | _, _, _ + 1, .nil => .nil
  | _, _, n + 1, .cons r t => .cons r (Vals.take n t)
theorem Vals.drop : ∀ {xs : List V} {us : List Value} (n : Nat), Vals xs us → Vals (xs.drop n) (us.drop n)
  | _, _, 0, r => r
  | _, _, _ + 1, .nil => .nil
  | _, _, n + 1, .cons _ t => Vals.drop n t
noncomputable def RelO : Option V → Option Value → Prop
  | some v, some u => RelV v u
  | none, none => True
  | _, _ => False
noncomputable def KV {κ : Type} : List (κ × V) → List (κ × Value) → Prop := Paired fun (p : κ × V) (q : κ × Value) => p.1 = q.1 ∧ RelV p.2 q.2

noncomputable def kV : Key → V
  | .inl i => .int i
  | .inr x => .str x

inductive HO where
    | lst (xs : List V)
    | tup (xs : List V)
    | dK (kvs : List (Key × V)) | dT (kvs : List (List Key × V))
    | set (S : Int → Bool) (n : Nat)
    | ins (C dx : Addr) (fs : List (Str × V))
    | own (x : Addr)
    | xd (fs : List (Str × V))
    | met (f x : Addr)
    | rng (lo hi : Int)
    | frz (o : Obj) (u : HO)
    | tbl (ps : Array Value)
    | ext (φ : Heap → Prop)

noncomputable abbrev Hp := Addr → Option HO
noncomputable def upd (H : Hp) (a : Addr) (o : HO) : Hp := fun b => if b = a then some o else H b
theorem upd_same {H : Hp} {a : Addr} {o : HO} : upd H a o a = some o := by unfold upd; rw [if_pos rfl]
theorem upd_ne {H : Hp} {a b : Addr} {o : HO} (h : b ≠ a) : upd H a o b = H b := by unfold upd; rw [if_neg h]
theorem upd_upd {H : Hp} {a : Addr} {o u : HO} : upd (upd H a o) a u = upd H a u := by
  funext b; unfold upd; split <;> rfl
theorem ne_of {H : Hp} {a b : Addr} {o u : HO} (h : H a = some o) (h' : H b = some u) (d : o ≠ u) : a ≠ b := by
  intro e; subst e; rw [h] at h'; exact d (Option.some.inj h')
theorem ne_of_none {H : Hp} {a b : Addr} {o : HO} (h : H a = some o) (h' : H b = none) : a ≠ b := by
  intro e; subst e; rw [h] at h'; cases h'

section
variable (P : Program) (w : World)
noncomputable def ObjOk (H : Hp) (h : Heap) (a : Addr) : HO → Prop
  | .lst xs => xs.length ≤ sizeLine ∧ ∃ (its : List Value) (n : Nat), Vals xs its ∧ h.get? a = some { cls := .type "list", data := .seq its.toArray n }
  | .tup xs => xs.length ≤ sizeLine ∧ ∃ its : List Value, Vals xs its ∧ IsTup h a its.toArray
  | .dK kvs => kvs.length ≤ sizeLine ∧ (a == sysModules) = false ∧ ∃ vs, KV kvs vs ∧ h.DictOf (mixKind P w) a vs
  | .dT kvs => kvs.length ≤ sizeLine ∧ (a == sysModules) = false ∧ ∃ xs : List (List Key × Addr × Value),
      Paired (fun (p : List Key × V) (q : List Key × Addr × Value) => p.1 = q.1 ∧ H q.2.1 = some (.tup (p.1.map kV)) ∧ RelV p.2 q.2.2) kvs xs ∧
      ∃ o es ep, h.get? a = some o ∧ o.ExactDict ∧ o.data = .dict es ep ∧ es.toList = xs.map (entryOfKey (tupleKind (mixKind P w))) ∧ (xs.map (·.1)).Nodup
  | .set S n => h.SetOf (intKind P w) a S n
  | .ins C dx fs => H dx = some (.own a) ∧ fs.length ≤ 1000 ∧ dx ≠ a ∧ h.get? a = some (PySem.W.instObj C dx) ∧
      ∃ mA, h.Ns1 dx mA ∧ (∀ f, RelO (fs.lookup f) (mA f)) ∧ PySem.Within mA (fs.map (·.1))
  | .own _ => ∃ o, h.get? a = some o
  | .xd fs => ∃ mA, h.Ns1 a mA ∧ ∀ f, RelO (fs.lookup f) (mA f)
  | .rng lo hi => ∃ t u v, h.get? a = some { cls := .type "range", data := .fields #[.int lo t, .int hi u, .int 1 v] }
  | .frz o u => h.get? a = some o ∧ ObjOk H h a u
  | .tbl ps => h.get? a = some { cls := .none, data := .fields ps }
  | .met f x => h.get? a = some (PySem.W.methodObj (.ref f) (.ref x))
  | .ext φ => φ h ∧ (∃ o, h.get? a = some o) ∧ ∀ h1 h2 : Heap, φ h1 → (∀ o, h1.get? a = some o → h2.get? a = some o) → φ h2
noncomputable def HOk (H : Hp) (h : Heap) : Prop := ∀ a o, H a = some o → ObjOk P w H h a o
end

section
variable {P : Program} {w : World} {H H' : Hp} {h h' : Heap} {a : Addr} {o : HO}
theorem ObjOk.lt (x : ObjOk P w H h a o) : a < h.objs.size := by
  cases o with
  | lst xs => obtain ⟨_, _, _, _, e⟩ := x; exact Heap.lt_size e
  | tup xs => obtain ⟨_, _, _, p⟩ := x; exact p.lt
  | dK kvs => obtain ⟨_, _, _, _, o, _, _, e, _⟩ := x; exact Heap.lt_size e
  | dT kvs => obtain ⟨_, _, _, _, o, _, _, e, _⟩ := x; exact Heap.lt_size e
  | set S n => obtain ⟨o, _, _, _, e, _⟩ := x; exact Heap.lt_size e
  | ins C dx fs => obtain ⟨_, _, _, e, _⟩ := x; exact Heap.lt_size e
  | own y => obtain ⟨_, e⟩ := x; exact Heap.lt_size e
  | xd fs => obtain ⟨_, ⟨_, _, _, e, _⟩, _⟩ := x; exact Heap.lt_size e
  | rng lo hi => obtain ⟨_, _, _, e⟩ := x; exact Heap.lt_size e
  | frz ob u => obtain ⟨e, _⟩ := x; exact Heap.lt_size e
  | tbl ps => exact Heap.lt_size (show h.get? a = some _ from x)
  | met f y => exact Heap.lt_size (show h.get? a = some _ from x)
  | ext φ => obtain ⟨_, ⟨_, e⟩, _⟩ := x; exact Heap.lt_size e
theorem Paired.mapP {α β : Type} {F G : α → β → Prop} : ∀ {l₁ : List α} {l₂ : List β}, Paired F l₁ l₂ → (∀ a b, F a b → G a b) → Paired G l₁ l₂
  | _, _, .nil, _ => .nil
  | _, _, .cons r t, f => .cons (f _ _ r) (Paired.mapP t f)
theorem ObjOk.stay (x : ObjOk P w H h a o) (k : ∀ b u, (b = a ∨ H b = some (.own a)) → h.get? b = some u → h'.get? b = some u)
    (ho : ∀ b, H b = some (.own a) → H' b = some (.own a)) (ht : ∀ b xs, H b = some (.tup xs) → H' b = some (.tup xs)) : ObjOk P w H' h' a o := by
  induction o with
  | lst xs => obtain ⟨z, its, n, r, e⟩ := x; exact ⟨z, its, n, r, k _ _ (.inl rfl) e⟩
  | tup xs => obtain ⟨z, its, r, ob, e, c⟩ := x; exact ⟨z, its, r, ob, k _ _ (.inl rfl) e, c⟩
  | dK kvs => obtain ⟨z, y, vs, r, ob, es, ep, e, c⟩ := x; exact ⟨z, y, vs, r, ob, es, ep, k _ _ (.inl rfl) e, c⟩
  | dT kvs =>
    obtain ⟨z, y, xs, r, ob, es, ep, e, c⟩ := x
    exact ⟨z, y, xs, Paired.mapP r fun p q z => ⟨z.1, ht _ _ z.2.1, z.2.2⟩, ob, es, ep, k _ _ (.inl rfl) e, c⟩
  | set S n => obtain ⟨ob, es, ep, t, e, c⟩ := x; exact ⟨ob, es, ep, t, k _ _ (.inl rfl) e, c⟩
  | ins C dx fs =>
    obtain ⟨d, z, ne, e, mA, ⟨od, es, ep, e2, c⟩, r⟩ := x
    exact ⟨ho _ d, z, ne, k _ _ (.inl rfl) e, mA, ⟨od, es, ep, k _ _ (.inr d) e2, c⟩, r⟩
  | own y => obtain ⟨ob, e⟩ := x; exact ⟨ob, k _ _ (.inl rfl) e⟩
  | xd fs => obtain ⟨mA, ⟨od, es, ep, e, c⟩, r⟩ := x; exact ⟨mA, ⟨od, es, ep, k _ _ (.inl rfl) e, c⟩, r⟩
  | rng lo hi => obtain ⟨t, u, v, e⟩ := x; exact ⟨t, u, v, k _ _ (.inl rfl) e⟩
  | frz ob u ih => obtain ⟨e, q⟩ := x; exact ⟨k _ _ (.inl rfl) e, ih q⟩
  | tbl ps =>
    have e : h.get? a = some { cls := .none, data := .fields ps } := x
    show h'.get? a = some { cls := .none, data := .fields ps }
    exact k a _ (.inl rfl) e
  | met f y =>
    have e : h.get? a = some (PySem.W.methodObj (.ref f) (.ref y)) := x
    show h'.get? a = some (PySem.W.methodObj (.ref f) (.ref y))
    exact k a _ (.inl rfl) e
  | ext φ => obtain ⟨p, ⟨o, e⟩, st⟩ := x; exact ⟨st _ _ p fun o q => k _ _ (.inl rfl) q, ⟨o, k _ _ (.inl rfl) e⟩, st⟩
theorem HOk.lt (x : HOk P w H h) (e : H a = some o) : a < h.objs.size := (x a o e).lt
theorem HOk.fresh (x : HOk P w H h) (e : h.objs.size ≤ a) : H a = none := by
  cases q : H a with
  | none => rfl
  | some u => exact absurd (Nat.lt_of_lt_of_le (x.lt q) e) (Nat.lt_irrefl _)
theorem HOk.kept (x : HOk P w H h) (k : ∀ b u, h.get? b = some u → h'.get? b = some u) : HOk P w H h' := fun a o e =>
  (x a o e).stay (fun b u _ q => k b u q) (fun _ q => q) fun _ _ q => q
theorem HOk.laid (x : HOk P w H h) (k : ∀ b u, h.get? b = some u → h'.get? b = some u) (hp : h.objs.size ≤ a) (new : ObjOk P w (upd H a o) h' a o) : HOk P w (upd H a o) h' := fun b u e => by
  have hn := x.fresh hp
  by_cases hb : b = a
  · subst hb; rw [upd_same] at e; cases e; exact new
  · rw [upd_ne hb] at e
    exact (x b u e).stay (fun c v _ q => k c v q) (fun c q => by rw [upd_ne (ne_of_none q hn)]; exact q) fun c xs q => by rw [upd_ne (ne_of_none q hn)]; exact q
end

noncomputable def Rd (H : Hp) (a : Addr) (u : HO) : Prop := H a = some u ∨ ∃ o, H a = some (.frz o u)
theorem Rd.ok {P : Program} {w : World} {H : Hp} {h : Heap} {a : Addr} {u : HO} (r : Rd H a u) (x : HOk P w H h) : ObjOk P w H h a u := by
  rcases r with r | ⟨o, r⟩
  · exact x a u r
  · obtain ⟨_, q⟩ := x a _ r
    exact q
noncomputable def Mut : Option HO → Prop
  | some (.lst _) => True
  | some (.dK _) => True
  | some (.dT _) => True
  | some (.set _ _) => True
  | some (.ins _ _ _) => True
  | some (.ext _) => True
  | _ => False
section
variable {P : Program} {w : World} {H : Hp} {h h' : Heap} {x e : Addr} {o' : HO}
theorem HOk.write (ok : HOk P w H h) (mu : Mut (H x)) (he : e = x ∨ H e = some (.own x)) (k : ∀ b u, b ≠ e → h.get? b = some u → h'.get? b = some u) (heo : ∃ u, h'.get? e = some u)
    (new : ObjOk P w (upd H x o') h' x o') : HOk P w (upd H x o') h' := fun b u q => by
  have nown : ∀ c y, H c = some (.own y) → c ≠ x := fun c y r z => by subst z; rw [r] at mu; exact mu
  have ntup : ∀ c xs, H c = some (.tup xs) → c ≠ x := fun c xs r z => by subst z; rw [r] at mu; exact mu
  by_cases hb : b = x
  · subst hb; rw [upd_same] at q; cases q; exact new
  · rw [upd_ne hb] at q
    by_cases hbe : b = e
    · have q' : H b = some (.own x) := by
        rcases he with z | z
        · exact absurd (hbe.trans z) hb
        · rw [hbe]; exact z
      rw [q] at q'; cases q'
      obtain ⟨v, hv⟩ := heo
      exact ⟨v, by rw [hbe]; exact hv⟩
    · refine (ok b u q).stay (fun c v hc r => k c v ?_ r) (fun c r => by rw [upd_ne (nown c b r)]; exact r) fun c xs r => by rw [upd_ne (ntup c xs r)]; exact r
      rcases hc with rfl | hc
      · exact hbe
      · rintro rfl
        rcases he with z | z
        · exact nown c b hc z
        · rw [hc] at z; cases z; exact hb rfl
end

set_option genInjectivity false in
structure Un (fs ex : List Addr) (H H' : Hp) (h h' : Heap) : Prop where
  keep : ∀ b o, h.get? b = some o → H b = none → b ∉ fs → b ∉ ex → h'.get? b = some o
  slot : ∀ b o, h.get? b = some o → H b = none → b ∈ fs → b ∉ ex → ∃ sl, h'.get? b = some { o with slots := sl }
  free : ∀ b o, h.get? b = some o → H b = none → b ∉ ex → H' b = none
  there : ∀ b o, h.get? b = some o → b ∉ ex → ∃ o', h'.get? b = some o'
  tups : ∀ b xs, H b = some (.tup xs) → H' b = some (.tup xs)
  frzs : ∀ b o u, H b = some (.frz o u) → H' b = some (.frz o u)
  tbls : ∀ b ps, H b = some (.tbl ps) → ∃ more, H' b = some (.tbl (ps ++ more))
section
variable {fs fs' ex ex' : List Addr} {H H1 H2 : Hp} {h h1 h2 h' : Heap} {a x e : Addr} {o : HO}
theorem Un.any (u : Un fs ex H H1 h h1) {b : Addr} {ob : Obj} (q : h.get? b = some ob) (n : H b = none) (hx : b ∉ ex) : ∃ sl, h1.get? b = some { ob with slots := sl } := by
  by_cases hb : b ∈ fs
  · exact u.slot b ob q n hb hx
  · exact ⟨ob.slots, u.keep b ob q n hb hx⟩
theorem Un.kept (k : ∀ b u, h.get? b = some u → h'.get? b = some u) : Un fs ex H H h h' :=
  ⟨fun b ob q _ _ _ => k b ob q, fun b ob q _ _ _ => ⟨ob.slots, k b ob q⟩, fun _ _ _ n _ => n, fun b ob q _ => ⟨ob, k b ob q⟩, fun _ _ q => q, fun _ _ _ q => q, fun _ ps q => ⟨#[], by rw [q]; simp⟩⟩
theorem Un.refl : Un fs ex H H h h := Un.kept fun _ _ q => q
theorem Un.laid (k : ∀ b u, h.get? b = some u → h'.get? b = some u) (hp : h.objs.size ≤ a) (hn : H a = none) : Un fs ex H (upd H a o) h h' where
  keep := fun b u q _ _ _ => k b u q
  slot := fun b u q _ _ _ => ⟨u.slots, k b u q⟩
  free := fun b u q n _ => by rw [upd_ne (Nat.ne_of_lt (Nat.lt_of_lt_of_le (Heap.lt_size q) hp))]; exact n
  there := fun b u q _ => ⟨u, k b u q⟩
  tups := fun b xs q => by rw [upd_ne (ne_of_none q hn)]; exact q
  frzs := fun b u xs q => by rw [upd_ne (ne_of_none q hn)]; exact q
  tbls := fun b ps q => ⟨#[], by rw [upd_ne (ne_of_none q hn), q]; simp⟩
theorem Un.write (mu : Mut (H x)) (he : e = x ∨ H e = some (.own x)) (k : ∀ b u, b ≠ e → h.get? b = some u → h'.get? b = some u) (heo : ∃ u, h'.get? e = some u) : Un fs ex H (upd H x o) h h' := by
  have hx : ∀ b, H b = none → b ≠ x := fun b n z => by subst z; rw [n] at mu; exact mu
  have hb : ∀ b, H b = none → b ≠ e := fun b n z => by
    subst z
    rcases he with r | r
    · exact hx b n r
    · rw [n] at r; cases r
  have hm : ∀ b u, H b = some u → ¬ Mut (some u) → b ≠ x := fun b u q nm z => by subst z; rw [q] at mu; exact nm mu
  refine ⟨fun b u q n _ _ => k b u (hb b n) q, fun b u q n _ _ => ⟨u.slots, k b u (hb b n) q⟩, fun b u q n _ => by rw [upd_ne (hx b n)]; exact n, fun b u q _ => ?_,
    fun b xs q => by rw [upd_ne (hm b _ q fun z => z)]; exact q, fun b u xs q => by rw [upd_ne (hm b _ q fun z => z)]; exact q, fun b ps q => ⟨#[], by rw [upd_ne (hm b _ q fun z => z), q]; simp⟩⟩
  by_cases hbe : b = e
  · subst hbe; exact heo
  · exact ⟨u, k b u hbe q⟩
end

noncomputable def trk (h : Heap) (H : Hp) : List Addr := (List.range h.objs.size).filter fun a => (H a).isSome
noncomputable def hidT (h : Heap) (H : Hp) : Heap := PySem.W.hideAll h (trk h H)
theorem hidT_size (h : Heap) (H : Hp) : (hidT h H).objs.size = h.objs.size := PySem.W.hideAll_size _ _
theorem hidT_get {h : Heap} {H : Hp} {b : Addr} {o : Obj} (e : h.get? b = some o) (n : H b = none) : (hidT h H).get? b = some o :=
  PySem.W.hideAll_get _ e fun hm => by
    have q : (H b).isSome = true := (List.mem_filter.mp hm).2
    rw [n] at q; simp at q
theorem of_hidT {h : Heap} {H : Hp} {b : Addr} {o : Obj} (e : (hidT h H).get? b = some o) : h.get? b = some o ∧ H b = none := by
  have e' : h.get? b = some o := PySem.W.of_hideAll (trk h H) e
  refine ⟨e', ?_⟩
  cases q : H b with
  | none => rfl
  | some x =>
    have hm : b ∈ trk h H := List.mem_filter.mpr ⟨List.mem_range.mpr (Heap.lt_size e'), by simp [q]⟩
    have z : (hidT h H).get? b = none := PySem.W.hideAll_none (trk h H) hm
    rw [z] at e; cases e

noncomputable def allNews (g h : Heap) (L : Addr) : List (Addr × Obj) := (List.range h.objs.size).filterMap fun a => if a = L ∨ (g.get? a).isSome = true then none else (h.get? a).map fun o => (a, o)
noncomputable def rest (g h : Heap) (L d : Addr) : List (Addr × Obj) := (allNews g h L).filter fun p => decide (p.1 ≠ d)
end L2

namespace L2
open PySem PySem.Spec PyProof.Rows

set_option genInjectivity false in
structure Mod (K : PySem.W.Frag) (mg : Str → Option Value) (base : Heap) : Prop where
  kin : K.In base
  glob : base.Ns mainGlobals mg
  blt : ∃ mb, base.Ns builtinsNs mb ∧ ∀ x : Str, x ≠ "__name__" → mb x = bootBuiltins x
  nolimit : base.NoLimit

set_option genInjectivity false in
structure Cx where
  prog : Program
  w : World
  K : PySem.W.Frag
  mg : Str → Option Value
  base : Heap
  A : Around
  N : List Str
  s₀ : Shared
  H₀ : Hp
  env : Env
  outer : List Env
  stack : List Env
  ex : List Addr
  fn : Str → Bool
  calm : Bool
  pn : List (Addr × Obj)
  xe : Value → Shared → Prop
noncomputable def frs (l : List Env) : List Addr := l.filterMap (·.frame)
noncomputable abbrev Cx.fs (X : Cx) : List Addr := frs X.outer

noncomputable def Vis (sc : Scope) (x : Str) : Prop := sc.names.lookup x = some .local ∨ sc.names.lookup x = some .cell ∨ sc.names.lookup x = some .free
noncomputable def Loc (sc : Scope) (x : Str) : Prop := sc.names.lookup x = some .local ∨ sc.names.lookup x = some .cell
noncomputable def Look (env : Env) (h : Heap) (m : Str → Option Value) (x : Str) (u : Value) : Prop :=
  (env.kindOf x = some .local ∧ m x = some u) ∨ ((env.kindOf x = some .cell ∨ env.kindOf x = some .free) ∧ ∃ c, env.cells.lookup x = some c ∧ h.IsCell c (some u))

set_option genInjectivity false in
structure Cx.Ok (X : Cx) : Prop where
  mod : Mod X.K X.mg X.base
  kind : X.env.scope.kind = .function
  glob : X.env.globals = mainGlobals
  blt : X.env.builtins = builtinsNs
  above : X.s₀.heap.objs.size ≤ X.env.locals
  inj : ∀ x y c, X.env.cells.lookup x = some c → X.env.cells.lookup y = some c → x = y
  has : ∀ x, (X.env.kindOf x = some .cell ∨ X.env.kindOf x = some .free) → ∃ c, X.env.cells.lookup x = some c
  cab : ∀ x c, X.fn x = true → X.env.cells.lookup x = some c → X.s₀.heap.objs.size ≤ c
  hd : X.calm = true → X.A.handled = none
  frames : X.A.frames = some X.stack
  stk : X.stack = X.outer ∨ (X.stack = X.env :: X.outer ∧ X.env.frame = some X.env.locals)
  exf : ∀ b ∈ X.ex, b ≠ X.env.locals ∧ ∀ x c, X.env.cells.lookup x = some c → c ≠ b
  bs : ∀ b o, X.base.get? b = some o → X.s₀.heap.get? b = some o ∧ X.H₀ b = none
  bsz : X.base.objs.size ≤ X.s₀.heap.objs.size
  noex : ∀ b o, X.base.get? b = some o → b ∉ X.ex
  exfs : ∀ b ∈ X.ex, b ∉ X.fs
  funs : X.s₀.heap.FunFrames X.base X.outer
  frf : ∀ b ∈ X.fs, X.H₀ b = none

set_option genInjectivity false in
structure Inv (X : Cx) (pins : List (Addr × Obj)) (σ : List (Option V)) (H : Hp) (s : Shared) : Prop where
  ok : X.Ok
  os : s.os = X.s₀.os
  bare : AllBare s.gens
  base : Un X.fs X.ex X.H₀ H X.s₀.heap s.heap
  loc : ∃ m, s.heap.Ns X.env.locals m ∧ ∀ (i : Nat) (x : Str) (v : V), X.N[i]? = some x → σ[i]? = some (some v) → Vis X.env.scope x → ∃ u, RelV v u ∧ Look X.env s.heap m x u
  cell : ∀ x c, X.env.cells.lookup x = some c → ∃ v, s.heap.IsCell c v
  free : H X.env.locals = none
  freeC : ∀ x c, X.env.cells.lookup x = some c → H c = none
  pin : ∀ p ∈ X.pn ++ pins, s.heap.get? p.1 = some p.2 ∧ H p.1 = none ∧ p.1 ≠ X.env.locals ∧ p.1 ∉ X.fs ∧ ∀ v, p.2.data ≠ .cell v
  hok : HOk X.prog X.w H s.heap
  len : σ.length = X.N.length

section
variable {X : Cx} {pins : List (Addr × Obj)} {σ : List (Option V)} {H H' : Hp} {s : Shared} {h' : Heap}

theorem Cx.Ok.nofr (ok : X.Ok) {b : Addr} {o : Obj} (e : X.base.get? b = some o) : b ∉ X.fs := fun hb => by
  have := (ok.funs.mem hb).1
  rw [e] at this; cases this
theorem Inv.bs (I : Inv X pins σ H s) : ∀ b o, X.base.get? b = some o → s.heap.get? b = some o ∧ H b = none := fun b o e =>
  ⟨I.base.keep b o (I.ok.bs b o e).1 (I.ok.bs b o e).2 (I.ok.nofr e) (I.ok.noex b o e), I.base.free b o (I.ok.bs b o e).1 (I.ok.bs b o e).2 (I.ok.noex b o e)⟩
theorem Inv.bk (I : Inv X pins σ H s) : ∀ b o, X.base.get? b = some o → s.heap.get? b = some o := fun b o e => (I.bs b o e).1
theorem Inv.mod (I : Inv X pins σ H s) : Mod X.K X.mg X.base := I.ok.mod
theorem Inv.kIn (I : Inv X pins σ H s) : X.K.In s.heap := I.ok.mod.kin.keeps I.bk
theorem Inv.lt (I : Inv X pins σ H s) : X.env.locals < s.heap.objs.size := let ⟨_, hn, _⟩ := I.loc; hn.lt
theorem Inv.sz (I : Inv X pins σ H s) : X.s₀.heap.objs.size ≤ s.heap.objs.size := Nat.le_trans I.ok.above (Nat.le_of_lt I.lt)
theorem Inv.nofs (I : Inv X pins σ H s) {a : Addr} (h : s.heap.objs.size ≤ a) : a ∉ X.fs := fun hb => by
  obtain ⟨_, o, ho, _⟩ := I.ok.funs.mem hb
  exact absurd (Nat.lt_of_lt_of_le (Heap.lt_size ho) (Nat.le_trans I.sz h)) (Nat.lt_irrefl _)
theorem Inv.cne (I : Inv X pins σ H s) : ∀ x c, X.env.cells.lookup x = some c → c ≠ X.env.locals := fun x c e z => by
  obtain ⟨v, o, ho, hd⟩ := I.cell x c e
  obtain ⟨m, ⟨o', es, ep, ho', hd', _⟩, _⟩ := I.loc
  rw [z, ho'] at ho; cases ho; rw [hd'] at hd; cases hd
theorem Inv.funs (I : Inv X pins σ H s) : s.heap.FunFrames X.base X.outer := by
  have all : ∀ (l : List Env), (∀ b ∈ frs l, b ∈ X.fs) → X.s₀.heap.FunFrames X.base l → s.heap.FunFrames X.base l := by
    intro l
    induction l with
    | nil => intro _ _; trivial
    | cons env r ih =>
      intro hs hl
      obtain ⟨hk, ⟨L, o, hf, hn, ho, hd⟩, hr⟩ := hl
      have hL : L ∈ X.fs := hs L (by unfold frs; rw [List.filterMap_cons, hf]; exact List.mem_cons_self)
      obtain ⟨sl, e⟩ := I.base.slot L o ho (I.ok.frf L hL) hL fun z => I.ok.exfs L z hL
      exact ⟨hk, ⟨L, _, hf, hn, e, hd⟩, ih (fun b hb => hs b (by unfold frs; rw [List.filterMap_cons, hf]; exact List.mem_cons_of_mem _ hb)) hr⟩
  exact all X.outer (fun _ hb => hb) I.ok.funs

theorem Inv.stack (I : Inv X pins σ H s) : s.heap.FunFrames X.base X.stack := by
  rcases I.ok.stk with e | ⟨e, hf⟩
  · rw [e]; exact I.funs
  · rw [e]
    obtain ⟨m, hn, _⟩ := I.loc
    refine .cons (by rw [I.ok.kind]; decide) hf hn ?_ I.funs
    exact Heap.get?_none_of_le (Nat.le_trans I.ok.bsz I.ok.above)
theorem Inv.stkSub (I : Inv X pins σ H s) : ∀ b ∈ frs X.stack, b ∈ X.env.locals :: X.fs := fun b hb => by
  rcases I.ok.stk with e | ⟨e, hf⟩
  · rw [e] at hb; exact List.mem_cons_of_mem _ hb
  · rw [e] at hb
    unfold frs at hb
    rw [List.filterMap_cons, hf] at hb
    exact hb
theorem Inv.stkFree (I : Inv X pins σ H s) : ∀ b ∈ frs X.stack, H b = none := fun b hb => by
  rcases List.mem_cons.mp (I.stkSub b hb) with e | hb
  · rw [e]; exact I.free
  · obtain ⟨_, o, ho, _⟩ := I.ok.funs.mem hb
    exact I.base.free b o ho (I.ok.frf b hb) fun z => I.ok.exfs b z hb

theorem Inv.step {g' : Array GenState} {t' : Nat} {d' : Drawn} {ch : List Addr} (I : Inv X pins σ H s)
    (hch : ∀ b ∈ ch, (b ∈ X.ex ∨ X.s₀.heap.objs.size ≤ b) ∧ b ≠ X.env.locals ∧ (∀ x c, X.env.cells.lookup x = some c → c ≠ b) ∧ ∀ p ∈ X.pn ++ pins, p.1 ≠ b)
    (keep : ∀ b o, b ≠ X.env.locals → b ∉ X.fs → b ∉ ch → s.heap.get? b = some o → H b = none → h'.get? b = some o)
    (slot : ∀ b o, b ≠ X.env.locals → b ∈ X.fs → b ∉ ch → s.heap.get? b = some o → H b = none → ∃ sl, h'.get? b = some { o with slots := sl }) (free : ∀ b o, b ∉ ch → s.heap.get? b = some o → H b = none → H' b = none)
    (there : ∀ b o, b ∉ ch → s.heap.get? b = some o → ∃ o', h'.get? b = some o')
    (tups : ∀ b xs, H b = some (.tup xs) → H' b = some (.tup xs)) (frzs : ∀ b o u, H b = some (.frz o u) → H' b = some (.frz o u)) (tbls : ∀ b ps, H b = some (.tbl ps) → ∃ more, H' b = some (.tbl (ps ++ more)))
    (ns : ∀ m, s.heap.Ns X.env.locals m → h'.Ns X.env.locals m) (hok : HOk X.prog X.w H' h') (hg : AllBare g') :
    Inv X pins σ H' { s with heap := h', gens := g', drawn := d', toks := t' } := by
  have neL : ∀ b o, X.s₀.heap.get? b = some o → b ≠ X.env.locals := fun b o e => Nat.ne_of_lt (Nat.lt_of_lt_of_le (Heap.lt_size e) I.ok.above)
  have neC : ∀ b o, X.s₀.heap.get? b = some o → b ∉ X.ex → b ∉ ch := fun b o e hx hb => by
    rcases (hch b hb).1 with z | z
    · exact hx z
    · exact absurd (Nat.lt_of_lt_of_le (Heap.lt_size e) z) (Nat.lt_irrefl _)
  have cellK : ∀ x c, X.env.cells.lookup x = some c → ∀ v, s.heap.IsCell c v → h'.IsCell c v := fun x c e v ⟨o, ho, hd⟩ => by
    have nch : c ∉ ch := fun z => (hch c z).2.2.1 x c e rfl
    by_cases hc : c ∈ X.fs
    · obtain ⟨sl, q⟩ := slot c o (I.cne x c e) hc nch ho (I.freeC x c e)
      exact ⟨_, q, hd⟩
    · exact ⟨o, keep c o (I.cne x c e) hc nch ho (I.freeC x c e), hd⟩
  refine ⟨I.ok, I.os, hg, ⟨fun b o e n hb hx => ?_, fun b o e n hb hx => ?_, fun b o e n hx => ?_, fun b o e hx => ?_, fun b xs e => tups b xs (I.base.tups b xs e), fun b o xs e => frzs b o xs (I.base.frzs b o xs e), fun b ps e => ?_⟩, ?_, fun x c e => ?_, ?_, fun x c e => ?_, fun p hp => ?_, hok, I.len⟩
  · exact keep b o (neL b o e) hb (neC b o e hx) (I.base.keep b o e n hb hx) (I.base.free b o e n hx)
  · obtain ⟨sl, e1⟩ := I.base.slot b o e n hb hx
    obtain ⟨sl', e2⟩ := slot b _ (neL b o e) hb (neC b o e hx) e1 (I.base.free b o e n hx)
    exact ⟨sl', e2⟩
  · obtain ⟨o', e1⟩ := I.base.there b o e hx
    exact free b o' (neC b o e hx) e1 (I.base.free b o e n hx)
  · obtain ⟨o', e1⟩ := I.base.there b o e hx
    exact there b o' (neC b o e hx) e1
  · obtain ⟨m1, e1⟩ := I.base.tbls b ps e
    obtain ⟨m2, e2⟩ := tbls b _ e1
    exact ⟨m1 ++ m2, by rw [e2, Array.append_assoc]⟩
  · obtain ⟨m, hn, hl⟩ := I.loc
    refine ⟨m, ns m hn, fun i x v e1 e2 e3 => ?_⟩
    obtain ⟨u, r, l⟩ := hl i x v e1 e2 e3
    refine ⟨u, r, ?_⟩
    rcases l with l | ⟨k, c, e, z⟩
    · exact .inl l
    · exact .inr ⟨k, c, e, cellK x c e _ z⟩
  · obtain ⟨v, z⟩ := I.cell x c e
    exact ⟨v, cellK x c e v z⟩
  · obtain ⟨m, ⟨o, _, _, ho, _⟩, _⟩ := I.loc
    exact free _ o (fun z => (hch _ z).2.1 rfl) ho I.free
  · obtain ⟨v, o, ho, hd⟩ := I.cell x c e
    exact free c o (fun z => (hch c z).2.2.1 x c e rfl) ho (I.freeC x c e)
  · obtain ⟨e, n, ne, nf, d⟩ := I.pin p hp
    have nch : p.1 ∉ ch := fun z => (hch p.1 z).2.2.2 p hp rfl
    exact ⟨keep p.1 p.2 ne nf nch e n, free p.1 p.2 nch e n, ne, nf, d⟩
theorem Inv.un {t' : Nat} (I : Inv X pins σ H s) (u : Un X.fs [] H H' s.heap h') (hok : HOk X.prog X.w H' h') : Inv X pins σ H' { s with heap := h', toks := t' } := by
  obtain ⟨m, ⟨o, es, ep, ho, r⟩, _⟩ := id I.loc
  obtain ⟨sl, hL⟩ := u.any ho I.free (by simp)
  exact I.step (g' := s.gens) (d' := s.drawn) (ch := []) (fun _ z => nomatch z) (fun b o _ hb _ e n => u.keep b o e n hb (by simp)) (fun b o _ hb _ e n => u.slot b o e n hb (by simp)) (fun b o _ e n => u.free b o e n (by simp)) (fun b o _ e => u.there b o e (by simp)) u.tups u.frzs u.tbls (fun m' hm => by
    obtain ⟨o', es', ep', ho', r'⟩ := hm
    rw [ho] at ho'; cases ho'
    exact ⟨_, es', ep', hL, r'⟩) hok I.bare
theorem Inv.call {g' : Array GenState} {t' : Nat} {d' : Drawn} {ch : List Addr} (I : Inv X pins σ H s) (u : Un (frs X.stack) ch H H' s.heap h') (hok : HOk X.prog X.w H' h') (hg : AllBare g')
    (hch : ∀ b ∈ ch, (b ∈ X.ex ∨ X.s₀.heap.objs.size ≤ b) ∧ b ≠ X.env.locals ∧ (∀ x c, X.env.cells.lookup x = some c → c ≠ b) ∧ ∀ p ∈ X.pn ++ pins, p.1 ≠ b) :
    Inv X pins σ H' { s with heap := h', gens := g', drawn := d', toks := t' } := by
  obtain ⟨m, ⟨o, es, ep, ho, r⟩, _⟩ := id I.loc
  obtain ⟨sl, hL⟩ := u.any ho I.free fun z => (hch _ z).2.1 rfl
  exact I.step (ch := ch) hch (fun b o hL hb hc e n => u.keep b o e n (fun z => (List.mem_cons.mp (I.stkSub b z)).elim hL hb) hc) (fun b o _ _ hc e n => u.any e n hc) (fun b o hc e n => u.free b o e n hc) (fun b o hc e => u.there b o e hc) u.tups u.frzs u.tbls (fun m' hm => by
    obtain ⟨o', es', ep', ho', r'⟩ := hm
    rw [ho] at ho'; cases ho'
    exact ⟨_, es', ep', hL, r'⟩) hok hg
theorem Inv.turned {t' : Nat} {it : Addr} (I : Inv X pins σ H s) (k : ∀ b o, b ≠ it → s.heap.get? b = some o → h'.get? b = some o) (hn : H it = none) (hL : it ≠ X.env.locals)
    (h1 : it ∈ X.ex ∨ X.s₀.heap.objs.size ≤ it) (h2 : ∀ x c, X.env.cells.lookup x = some c → c ≠ it) (h3 : ∀ p ∈ X.pn ++ pins, p.1 ≠ it) : Inv X pins σ H { s with heap := h', toks := t' } := by
  have nit : ∀ b u, H b = some u → b ≠ it := fun b u e z => by rw [z, hn] at e; cases e
  refine I.step (g' := s.gens) (d' := s.drawn) (ch := [it]) (fun b hb => ?_) (fun b o _ _ hc e _ => k b o (fun z => hc (by simp [z])) e) (fun b o _ _ hc e _ => ⟨o.slots, k b o (fun z => hc (by simp [z])) e⟩) (fun _ _ _ _ n => n)
    (fun b o hc e => ⟨o, k b o (fun z => hc (by simp [z])) e⟩) (fun _ _ e => e) (fun _ _ _ e => e) (fun b ps e => ⟨#[], by rw [e]; simp⟩) (fun m hm => ?_) (fun b u e => ?_) I.bare
  · have e : b = it := by simpa using hb
    subst e
    exact ⟨h1, hL, h2, h3⟩
  · obtain ⟨o, es, ep, ho, r⟩ := hm
    exact ⟨o, es, ep, k _ o (Ne.symm hL) ho, r⟩
  · refine (I.hok b u e).stay (fun c v hc q => k c v ?_ q) (fun _ q => q) fun _ _ q => q
    rcases hc with z | z
    · rw [z]; exact nit b u e
    · exact nit c _ z
theorem Inv.tok (I : Inv X pins σ H s) (t : Nat) : Inv X pins σ H { s with toks := t } := I.un (h' := s.heap) (t' := t) Un.refl I.hok
theorem Inv.kept {t' : Nat} (I : Inv X pins σ H s) (k : ∀ b u, s.heap.get? b = some u → h'.get? b = some u) : Inv X pins σ H { s with heap := h', toks := t' } := I.un (Un.kept k) (I.hok.kept k)
theorem Inv.laid {a : Addr} {o : HO} {t' : Nat} (I : Inv X pins σ H s) (k : ∀ b u, s.heap.get? b = some u → h'.get? b = some u) (hp : s.heap.objs.size ≤ a) (new : ObjOk X.prog X.w (upd H a o) h' a o) :
    Inv X pins σ (upd H a o) { s with heap := h', toks := t' } := I.un (Un.laid k hp (I.hok.fresh hp)) (I.hok.laid k hp new)
theorem Inv.write {x e : Addr} {o : HO} {t' : Nat} (I : Inv X pins σ H s) (mu : Mut (H x)) (he : e = x ∨ H e = some (.own x)) (k : ∀ b u, b ≠ e → s.heap.get? b = some u → h'.get? b = some u) (heo : ∃ u, h'.get? e = some u)
    (new : ObjOk X.prog X.w (upd H x o) h' x o) : Inv X pins σ (upd H x o) { s with heap := h', toks := t' } := I.un (Un.write mu he k heo) (I.hok.write mu he k heo new)
theorem Inv.pins_of {pins' : List (Addr × Obj)} (I : Inv X pins σ H s) (h : ∀ p ∈ pins', s.heap.get? p.1 = some p.2 ∧ H p.1 = none ∧ p.1 ≠ X.env.locals ∧ p.1 ∉ X.fs ∧ ∀ v, p.2.data ≠ .cell v) : Inv X pins' σ H s :=
  ⟨I.ok, I.os, I.bare, I.base, I.loc, I.cell, I.free, I.freeC, fun p hp => (List.mem_append.mp hp).elim (fun z => I.pin p (List.mem_append_left _ z)) (h p), I.hok, I.len⟩

theorem nodup_ix {N : List Str} (hN : N.Nodup) {i j : Nat} {x : Str} (a : N[i]? = some x) (b : N[j]? = some x) : i = j := by
  obtain ⟨h1, e1⟩ := List.getElem?_eq_some_iff.mp a
  obtain ⟨h2, e2⟩ := List.getElem?_eq_some_iff.mp b
  exact (List.getElem_inj hN).mp (e1.trans e2.symm)

theorem store_ok2 {M : Model} {A : Around} {E : Value → Shared → Prop} {i : Nat} {x : Str} {v : V} {u : Value} {Q : Unit → Shared → Prop} (I : Inv X pins σ H s) (hN : X.N.Nodup) (hi : X.N[i]? = some x) (hx : Loc X.env.scope x) (r : RelV v u)
    (h : ∀ s', Inv X pins (σ.set i (some v)) H s' → (∃ a, Heap.SameBut a s.heap s'.heap ∧ (a = X.env.locals ∨ X.env.cells.lookup x = some a)) → Q () s') (hf : X.fn x = true ∨ X.env.scope.names.lookup x = some .local := by first | exact .inl rfl | exact .inr rfl | assumption) : wpAny M A (storeName X.env x u) Q E s := by
  obtain ⟨m, hn, hl⟩ := id I.loc
  have hcls : (X.env.scope.kind == .class || (X.env.scope.kind == .module && X.env.locals != X.env.globals)) = false := by rw [I.ok.kind]; rfl
  have hiσ : i < σ.length := by rw [I.len]; exact (List.getElem?_eq_some_iff.mp hi).1
  have cne := I.cne
  have tracked : ∀ {a : Addr} {h' : Heap}, (∃ o, s.heap.get? a = some o ∧ H a = none) → Heap.SameBut a s.heap h' → HOk X.prog X.w H h' := fun {a h'} ha hs b ob e => by
    obtain ⟨_, _, hfree⟩ := ha
    refine (I.hok b ob e).stay (fun c w' hc q => (hs.2 c ?_).trans q) (fun _ q => q) fun _ _ q => q
    rintro rfl
    rcases hc with rfl | hc
    · rw [hfree] at e; cases e
    · rw [hfree] at hc; cases hc
  rcases hx with hk | hk
  · refine wpAny_storeName_local hk hn (fun h' hn' hs => ?_) hcls
    obtain ⟨oL, _, _, hoL, _⟩ := id hn
    refine h _ ⟨I.ok, I.os, I.bare, ⟨fun b o e n hb hx => ?_, fun b o e n hb hx => ?_, I.base.free, fun b o e hx => ?_, I.base.tups, I.base.frzs, I.base.tbls⟩, ⟨_, hn', fun j y v' e1 e2 e3 => ?_⟩, fun y c e => ?_, I.free, I.freeC, fun p hp => ?_, tracked ⟨oL, hoL, I.free⟩ hs, by simpa using I.len⟩ ⟨_, hs, .inl rfl⟩
    · exact (hs.2 b (Nat.ne_of_lt (Nat.lt_of_lt_of_le (Heap.lt_size e) I.ok.above))).trans (I.base.keep b o e n hb hx)
    · obtain ⟨sl, e1⟩ := I.base.slot b o e n hb hx
      exact ⟨sl, (hs.2 b (Nat.ne_of_lt (Nat.lt_of_lt_of_le (Heap.lt_size e) I.ok.above))).trans e1⟩
    · obtain ⟨o', e1⟩ := I.base.there b o e hx
      exact ⟨o', (hs.2 b (Nat.ne_of_lt (Nat.lt_of_lt_of_le (Heap.lt_size e) I.ok.above))).trans e1⟩
    · by_cases hj : j = i
      · subst hj
        rw [hi] at e1; cases e1
        rw [List.getElem?_set_self hiσ] at e2
        cases e2
        exact ⟨u, r, .inl ⟨hk, by simp⟩⟩
      · rw [List.getElem?_set_ne (Ne.symm hj)] at e2
        obtain ⟨u', r', q⟩ := hl j y v' e1 e2 e3
        refine ⟨u', r', ?_⟩
        rcases q with ⟨k, e⟩ | ⟨k, c, e, z⟩
        · refine .inl ⟨k, ?_⟩
          have : y ≠ x := fun e => hj (nodup_ix hN e1 (e ▸ hi))
          simp [this, e]
        · exact .inr ⟨k, c, e, z.sameBut hs (cne y c e)⟩
    · obtain ⟨w', z⟩ := I.cell y c e
      exact ⟨w', z.sameBut hs (cne y c e)⟩
    · obtain ⟨e, n, ne, nf, d⟩ := I.pin p hp
      exact ⟨(hs.2 p.1 ne).trans e, n, ne, nf, d⟩
  · have hfn : X.fn x = true := by
      rcases hf with z | z
      · exact z
      · rw [z] at hk; cases hk
    obtain ⟨c, hc⟩ := I.ok.has x (.inl hk)
    obtain ⟨w', z⟩ := I.cell x c hc
    refine wpAny_storeName_cell I.ok.kind hk hc z (fun h' hc' hs => ?_)
    obtain ⟨oc, hoc, hocd⟩ := id z
    refine h { s with heap := h' } ⟨I.ok, I.os, I.bare, ⟨fun b o e n hb hx => ?_, fun b o e n hb hx => ?_, I.base.free, fun b o e hx => ?_, I.base.tups, I.base.frzs, I.base.tbls⟩, ⟨m, hn.sameBut hs (Ne.symm (cne x c hc)), fun j y v' e1 e2 e3 => ?_⟩, fun y c' e => ?_, I.free, I.freeC, fun p hp => ?_, tracked ⟨oc, hoc, I.freeC x c hc⟩ hs, by simpa using I.len⟩ ⟨c, hs, .inr hc⟩
    · exact (hs.2 b (Nat.ne_of_lt (Nat.lt_of_lt_of_le (Heap.lt_size e) (I.ok.cab x c hfn hc)))).trans (I.base.keep b o e n hb hx)
    · obtain ⟨sl, e1⟩ := I.base.slot b o e n hb hx
      exact ⟨sl, (hs.2 b (Nat.ne_of_lt (Nat.lt_of_lt_of_le (Heap.lt_size e) (I.ok.cab x c hfn hc)))).trans e1⟩
    · obtain ⟨o', e1⟩ := I.base.there b o e hx
      exact ⟨o', (hs.2 b (Nat.ne_of_lt (Nat.lt_of_lt_of_le (Heap.lt_size e) (I.ok.cab x c hfn hc)))).trans e1⟩
    · by_cases hj : j = i
      · subst hj
        rw [hi] at e1; cases e1
        rw [List.getElem?_set_self hiσ] at e2
        cases e2
        exact ⟨u, r, .inr ⟨.inl hk, c, hc, hc'⟩⟩
      · rw [List.getElem?_set_ne (Ne.symm hj)] at e2
        obtain ⟨u', r', q⟩ := hl j y v' e1 e2 e3
        refine ⟨u', r', ?_⟩
        rcases q with q | ⟨k, c', e, z'⟩
        · exact .inl q
        · refine .inr ⟨k, c', e, z'.sameBut hs ?_⟩
          rintro rfl
          exact hj (nodup_ix hN e1 (I.ok.inj _ _ _ e hc ▸ hi))
    · by_cases hcc : c' = c
      · subst hcc; exact ⟨_, hc'⟩
      · obtain ⟨w2, z2⟩ := I.cell y c' e
        exact ⟨w2, z2.sameBut hs hcc⟩
    · obtain ⟨e, n, ne, nf, d⟩ := I.pin p hp
      refine ⟨(hs.2 p.1 ?_).trans e, n, ne, nf, d⟩
      intro q
      rw [q, hoc] at e
      have q' : oc = p.2 := Option.some.inj e
      exact d w' (by rw [← q']; exact hocd)
theorem store_ok {M : Model} {A : Around} {E : Value → Shared → Prop} {i : Nat} {x : Str} {v : V} {u : Value} {Q : Unit → Shared → Prop} (I : Inv X pins σ H s) (hN : X.N.Nodup) (hi : X.N[i]? = some x) (hx : Loc X.env.scope x) (r : RelV v u)
    (h : ∀ s', Inv X pins (σ.set i (some v)) H s' → Q () s') (hf : X.fn x = true ∨ X.env.scope.names.lookup x = some .local := by first | exact .inl rfl | exact .inr rfl | assumption) : wpAny M A (storeName X.env x u) Q E s :=
  store_ok2 I hN hi hx r (fun s' I' _ => h s' I') hf
theorem Inv.call' {s' : Shared} {ch : List Addr} (I : Inv X pins σ H s) (ho : s'.os = s.os) (u : Un (frs X.stack) ch H H' s.heap s'.heap) (hok : HOk X.prog X.w H' s'.heap) (hg : AllBare s'.gens)
    (hch : ∀ b ∈ ch, (b ∈ X.ex ∨ X.s₀.heap.objs.size ≤ b) ∧ b ≠ X.env.locals ∧ (∀ x c, X.env.cells.lookup x = some c → c ≠ b) ∧ ∀ p ∈ X.pn ++ pins, p.1 ≠ b) : Inv X pins σ H' s' := by
  obtain ⟨h', g', d', t', o'⟩ := s'
  have e : o' = s.os := ho
  subst e
  exact I.call (g' := g') (t' := t') (d' := d') u hok hg hch
end

noncomputable abbrev XK := Value → Option Addr → Hp → Prop
noncomputable abbrev St := List (Option V)
noncomputable abbrev VK := V → Hp → Prop
noncomputable abbrev TE := St → Hp → VK → Prop
noncomputable abbrev TT := St → Hp → (Bool → Hp → Prop) → Prop
noncomputable abbrev TA := St → Hp → (List V → Hp → Prop) → Prop
set_option genInjectivity false in
structure Ends where
  nx : St → Hp → Prop
  rt : VK
  bk : St → Hp → Prop := fun _ _ => False
  ct : St → Hp → Prop := fun _ _ => False
noncomputable abbrev TS := Ends → St → Hp → Prop

noncomputable def EP (X : Cx) (pins : List (Addr × Obj)) (σ : St) (Q : VK) (u : Value) (s' : Shared) : Prop := ∃ v H', Inv X pins σ H' s' ∧ RelV v u ∧ Q v H'
noncomputable def TP (X : Cx) (pins : List (Addr × Obj)) (σ : St) (Q : Bool → Hp → Prop) (b : Bool) (s' : Shared) : Prop := ∃ H', Inv X pins σ H' s' ∧ Q b H'
noncomputable def AP (X : Cx) (pins : List (Addr × Obj)) (σ : St) (Q : List V → Hp → Prop) (us : List Value) (s' : Shared) : Prop := ∃ vs H', Inv X pins σ H' s' ∧ Vals vs us ∧ Q vs H'
noncomputable def SP (X : Cx) (pins : List (Addr × Obj)) (D : Ends) (f : Flow) (s' : Shared) : Prop :=
  match f with
  | .next => ∃ σ' H', Inv X pins σ' H' s' ∧ D.nx σ' H'
  | .brk => ∃ σ' H', Inv X pins σ' H' s' ∧ D.bk σ' H'
  | .cont => ∃ σ' H', Inv X pins σ' H' s' ∧ D.ct σ' H'
  | .ret u => ∃ v σ' H', Inv X pins σ' H' s' ∧ RelV v u ∧ D.rt v H'

noncomputable def PE (X : Cx) (e : Expr) (t : TE) : Prop :=
  ∀ (pins : List (Addr × Obj)) (s : Shared) (σ : St) (H : Hp) (Q : VK), Inv X pins σ H s → t σ H Q → wpAny (model X.prog X.w) X.A (eval e X.env) (EP X pins σ Q) X.xe s
noncomputable def PT (X : Cx) (e : Expr) (t : TT) : Prop :=
  ∀ (pins : List (Addr × Obj)) (s : Shared) (σ : St) (H : Hp) (Q : Bool → Hp → Prop), Inv X pins σ H s → t σ H Q → wpAny (model X.prog X.w) X.A (isTrue e X.env (eval e X.env)) (TP X pins σ Q) X.xe s
noncomputable def PW (X : Cx) (e : Expr) (t : TT) : Prop :=
  ∀ (whole : Sem Value) (pins : List (Addr × Obj)) (s : Shared) (σ : St) (H : Hp) (Q : Bool → Hp → Prop), Inv X pins σ H s → t σ H Q → wpAny (model X.prog X.w) X.A (isTrue e X.env whole) (TP X pins σ Q) X.xe s
theorem PW.pt {X : Cx} {e : Expr} {t : TT} (h : PW X e t) : PT X e t := h _
noncomputable def PA (X : Cx) (es : List Expr) (t : TA) : Prop :=
  ∀ (pos : Pos) (pins : List (Addr × Obj)) (s : Shared) (σ : St) (H : Hp) (Q : List V → Hp → Prop), Inv X pins σ H s → t σ H Q → wpAny (model X.prog X.w) X.A (spliced (backTo pos (starEach es X.env))) (AP X pins σ Q) X.xe s
noncomputable def PS (X : Cx) (st : Stmt) (t : TS) : Prop :=
  ∀ (pins : List (Addr × Obj)) (s : Shared) (σ : St) (H : Hp) (D : Ends), Inv X pins σ H s → t D σ H → wpAny (model X.prog X.w) X.A (exec st X.env) (SP X pins D) X.xe s
noncomputable def PSs (X : Cx) (st : List Stmt) (t : TS) : Prop :=
  ∀ (pins : List (Addr × Obj)) (s : Shared) (σ : St) (H : Hp) (D : Ends), Inv X pins σ H s → t D σ H → wpAny (model X.prog X.w) X.A (execs st X.env) (SP X pins D) X.xe s
theorem thn {α : Type} {t : Sem α} {Q Q' : α → Shared → Prop} {M : Model} {A : Around} {E : Value → Shared → Prop} {s : Shared} (h : wpAny M A t Q E s) (hQ : ∀ a s, Q a s → Q' a s) : wpAny M A t Q' E s := wpAny_mono h hQ fun _ _ x => x
end L2

namespace L2
open PySem PySem.Spec PyProof.Rows
section
variable {X : Cx}

noncomputable def tVar (i : Nat) : TE := fun σ H Q => ∃ v, σ[i]? = some (some v) ∧ Q v H
noncomputable def tC (v : V) : TE := fun _ H Q => Q v H
theorem pe_var {i : Nat} {x : Str} {pos : Pos} (hN : X.N[i]? = some x) (hv : Vis X.env.scope x) (hd : (x == ("__debug__" : Str)) = false := by decide) (hcd : (x == ("__classdict__" : Str)) = false := by decide) : PE X (.Name x pos) (tVar i) := by
  intro pins s σ H Q I h
  obtain ⟨v, e, h⟩ := h
  obtain ⟨m, hn, hl⟩ := I.loc
  obtain ⟨u, r, l⟩ := hl i x v hN e hv
  have fin : EP X pins σ Q u s := ⟨v, H, I, r, h⟩
  rcases l with ⟨hk, hm⟩ | ⟨hk, c, hc, hcell⟩
  · exact wpAny_Name (wpAny_loadName_local I.ok.kind hk hn hm fin) hd
  · rcases hk with hk | hk
    · exact wpAny_Name (wpAny_loadName_cell I.ok.kind hk hc hcell fin) hd
    · exact wpAny_Name (wpAny_loadName_free I.ok.kind hk hc hcell fin hcd) hd
theorem pe_int {i j pos} : PE X (.Constant (.int i) j pos) (tC (.int i)) := fun _ _ _ H _ I h => wpAny_Constant_int ⟨.int i, H, I.tok _, ⟨_, rfl⟩, h⟩
theorem pe_bl {b j pos} : PE X (.Constant (.bool b) j pos) (tC (.bl b)) := fun _ _ _ H _ I h => Constant_bool ⟨.bl b, H, I, rfl, h⟩
theorem pe_non {j pos} : PE X (.Constant .none j pos) (tC .non) := fun _ _ _ H _ I h => Constant_none ⟨.non, H, I, rfl, h⟩
theorem pe_str {x j pos} : PE X (.Constant (.str x) j pos) (tC (.str x)) := fun _ _ _ H _ I h => Calls.Constant_str ⟨.str x, H, I.tok _, ⟨_, rfl⟩, h⟩

noncomputable def Gl (X : Cx) (x : Str) : Prop := X.env.kindOf x = some .globalImplicit
theorem ld_glob {E : Value → Shared → Prop} {pins : List (Addr × Obj)} {s : Shared} {σ : St} {H : Hp} {x : Str} {u : Value} {pos : Pos} {Q : Value → Shared → Prop} (I : Inv X pins σ H s) (hg : Gl X x) (hm : X.mg x = some u) (h : Q u s)
    (hd : (x == ("__debug__" : Str)) = false := by decide) : wpAny (model X.prog X.w) X.A (eval (.Name x pos) X.env) Q E s :=
  Calls.Name_function_global I.ok.kind hg (Calls.loadGlobal_global (by rw [I.ok.glob]; exact I.mod.glob.keeps I.bk) hm h) hd
theorem ld_blt {E : Value → Shared → Prop} {pins : List (Addr × Obj)} {s : Shared} {σ : St} {H : Hp} {x : Str} {u : Value} {pos : Pos} {Q : Value → Shared → Prop} (I : Inv X pins σ H s) (hg : Gl X x) (hm : X.mg x = none) (hv : bootBuiltins x = some u) (h : Q u s)
    (hn : x ≠ "__name__" := by decide) (hd : (x == ("__debug__" : Str)) = false := by decide) : wpAny (model X.prog X.w) X.A (eval (.Name x pos) X.env) Q E s := by
  obtain ⟨mb, h1, h2⟩ := I.mod.blt
  exact Calls.Name_function_global I.ok.kind hg (Calls.loadGlobal_builtin (by rw [I.ok.glob]; exact I.mod.glob.keeps I.bk) hm (by rw [I.ok.blt]; exact h1.keeps I.bk) ((h2 x hn).trans hv) h) hd
theorem pe_glob {x : Str} {v : V} {u : Value} {pos : Pos} (hg : Gl X x) (hm : X.mg x = some u) (r : RelV v u) (hd : (x == ("__debug__" : Str)) = false := by decide) : PE X (.Name x pos) (tC v) :=
  fun _ _ _ H _ I h => ld_glob I hg hm ⟨v, H, I, r, h⟩ hd
variable {a b : Expr} {ta tb : TE} {pos : Pos}
noncomputable def PC (X : Cx) (op : CmpOp) (a b : Expr) (t : TE) : Prop :=
  ∀ (pins : List (Addr × Obj)) (s : Shared) (σ : St) (H : Hp) (Q : VK), Inv X pins σ H s → t σ H Q →
    wpAny (model X.prog X.w) X.A (eval a X.env) (fun v s₁ => wpAny (model X.prog X.w) X.A (eval b X.env) (fun u s₂ => wpAny (model X.prog X.w) X.A (compareOp op v u) (EP X pins σ Q) X.xe s₂) X.xe s₁) X.xe s
theorem nobehind (b : Expr) {op : CmpOp} (h : op ≠ .In) (h2 : op ≠ .NotIn) : behindInMarks op b = false := by
  have e1 : (op == CmpOp.In) = false := by cases op <;> first | rfl | exact absurd rfl h
  have e2 : (op == CmpOp.NotIn) = false := by cases op <;> first | rfl | exact absurd rfl h2
  cases b <;> simp [behindInMarks, e1, e2]
noncomputable def tIsN (ta : TE) : TE := fun σ H Q => ta σ H fun x H1 => Q (.bl (decide (x = .non))) H1
noncomputable def tNotN (ta : TE) : TE := fun σ H Q => ta σ H fun x H1 => Q (.bl (!decide (x = .non))) H1
theorem RelV.none_iff {x : V} {v : Value} (r : RelV x v) : (v == Value.none) = decide (x = .non) := by
  cases x with
  | non => cases r; rfl
  | bl _ => cases r; rfl
  | int _ => obtain ⟨t, rfl⟩ := r; rfl
  | str _ => obtain ⟨t, rfl⟩ := r; rfl
  | byt _ => obtain ⟨t, rfl⟩ := r; rfl
  | flt _ => obtain ⟨t, rfl⟩ := r; rfl
  | ref _ => cases r; rfl
  | ty _ => cases r; rfl
theorem pc_isN {j pos'} (ha : PE X a ta) : PC X .Is a (.Constant .none j pos') (tIsN ta) := by
  intro pins s σ H Q I h
  refine thn (ha pins s σ H _ I h) fun v s1 ⟨x, H1, I1, r1, q1⟩ => ?_
  exact Constant_none (is_none_gen ⟨.bl _, H1, I1, by rw [r1.none_iff]; rfl, q1⟩)
theorem pc_notN {j pos'} (ha : PE X a ta) : PC X .IsNot a (.Constant .none j pos') (tNotN ta) := by
  intro pins s σ H Q I h
  refine thn (ha pins s σ H _ I h) fun v s1 ⟨x, H1, I1, r1, q1⟩ => ?_
  exact Constant_none (isnot_none_gen ⟨.bl _, H1, I1, by rw [r1.none_iff]; rfl, q1⟩)
noncomputable def tB (t : TE) : TT := fun σ H Q => t σ H fun x H1 => ∃ c, x = .bl c ∧ Q c H1
theorem pe_cmp {op : CmpOp} {t : TE} (h : PC X op a b t) (h1 : behindInMarks op b = false := by first | exact nobehind _ (by decide) (by decide) | rfl) : PE X (.Compare a [op] [b] pos) t := fun pins s σ H Q I hw => wpAny_Compare1 (h pins s σ H Q I hw) h1
theorem pt_cmp {op : CmpOp} {t : TE} (h : PC X op a b t) (h1 : behindInMarks op b = false := by first | exact nobehind _ (by decide) (by decide) | rfl) : PT X (.Compare a [op] [b] pos) (tB t) := by
  intro pins s σ H Q I hw
  refine wpAny_isTrue_Compare1 (thn (h pins s σ H _ I hw) fun v s1 h1 => thn h1 fun u s2 h2 => thn h2 fun c s3 ⟨x, H1, I1, r1, q1⟩ => ?_) h1
  obtain ⟨d, rfl, q⟩ := q1
  cases r1
  exact wpAny_truthy_bool ⟨H1, I1, q⟩
theorem pt_val {e : Expr} {t : TE} (h : PE X e t) (he : ∀ whole, isTrue e X.env whole = (do let v ← whole; standAt e.pos; holding [v] (truthy v)) := by intro _; rfl) : PT X e (tB t) := by
  intro pins s σ H Q I hw
  refine isTrue_plain (thn (h pins s σ H _ I hw) fun v s1 ⟨x, H1, I1, r1, q1⟩ => ?_) (he _)
  obtain ⟨d, rfl, q⟩ := q1
  cases r1
  exact wpAny_truthy_bool ⟨H1, I1, q⟩

variable {tA tB' : TT} {rest : List Expr}
noncomputable def tAnd (t u : TT) : TT := fun σ H Q => t σ H fun c H1 => if c = true then u σ H1 Q else Q false H1
noncomputable def tOr (t u : TT) : TT := fun σ H Q => t σ H fun c H1 => if c = true then Q true H1 else u σ H1 Q
noncomputable def tNot (t : TT) : TT := fun σ H Q => t σ H fun c H1 => Q (!c) H1
theorem pw_and1 (ha : PT X a tA) : PW X (.BoolOp .And [a] pos) tA := by
  intro wh pins s σ H Q I h
  refine isTrue_and (thn (ha pins s σ H Q I h) fun c s1 e => ?_)
  cases c with
  | true => exact isTrue_and_nil e
  | false => exact e
theorem pw_or1 (ha : PT X a tA) : PW X (.BoolOp .Or [a] pos) tA := by
  intro wh pins s σ H Q I h
  refine isTrue_or (thn (ha pins s σ H Q I h) fun c s1 e => ?_)
  cases c with
  | false => exact isTrue_or_nil e
  | true => exact e
theorem pw_and (ha : PT X a tA) (hb : PW X (.BoolOp .And (b :: rest) pos) tB') : PW X (.BoolOp .And (a :: b :: rest) pos) (tAnd tA tB') := by
  intro wh pins s σ H Q I h
  refine isTrue_and (thn (ha pins s σ H _ I h) fun c s1 ⟨H1, I1, q1⟩ => ?_)
  cases c with
  | true => exact hb wh pins s1 σ H1 Q I1 q1
  | false => exact ⟨H1, I1, q1⟩
theorem pw_or (ha : PT X a tA) (hb : PW X (.BoolOp .Or (b :: rest) pos) tB') : PW X (.BoolOp .Or (a :: b :: rest) pos) (tOr tA tB') := by
  intro wh pins s σ H Q I h
  refine isTrue_or (thn (ha pins s σ H _ I h) fun c s1 ⟨H1, I1, q1⟩ => ?_)
  cases c with
  | true => exact ⟨H1, I1, q1⟩
  | false => exact hb wh pins s1 σ H1 Q I1 q1
theorem pt_not (ha : PT X a tA) : PT X (.UnaryOp .Not a pos) (tNot tA) := by
  intro pins s σ H Q I h
  exact isTrue_not (ha pins s σ H (fun c H1 => Q (!c) H1) I h)
noncomputable def tAndV (ta tb : TE) : TE := fun σ H Q => ta σ H fun x H1 => ∃ c, x = .bl c ∧ if c = true then tb σ H1 Q else Q (.bl false) H1
theorem pe_one {op} {t : TE} (h : PE X a t) : PE X (.BoolOp op [a] pos) t := fun pins s σ H Q I hw => BoolOp_one (h pins s σ H Q I hw)
theorem pe_and (ha : PE X a ta) (hb : PE X (.BoolOp .And (b :: rest) pos) tb) : PE X (.BoolOp .And (a :: b :: rest) pos) (tAndV ta tb) := by
  intro pins s σ H Q I h
  refine BoolOp_and (thn (ha pins s σ H _ I h) fun v s1 ⟨x, H1, I1, r1, q1⟩ => ?_)
  obtain ⟨c, rfl, q1⟩ := q1
  cases r1
  refine wpAny_truthy_bool ?_
  cases c with
  | true => exact hb pins s1 σ H1 Q I1 q1
  | false => exact ⟨.bl false, H1, I1, rfl, q1⟩
noncomputable def tIf (t : TT) (ta tb : TE) : TE := fun σ H Q => t σ H fun c H1 => if c = true then ta σ H1 Q else tb σ H1 Q
theorem pe_ifExp {c : Expr} (hc : PT X c tA) (ha : PE X a ta) (hb : PE X b tb) : PE X (.IfExp c a b pos) (tIf tA ta tb) := by
  intro pins s σ H Q I h
  refine wpAny_IfExp (thn (hc pins s σ H _ I h) fun d s1 ⟨H1, I1, q1⟩ => ?_)
  cases d with
  | true => exact ha pins s1 σ H1 Q I1 q1
  | false => exact hb pins s1 σ H1 Q I1 q1
end
end L2

namespace L2
open PySem PySem.Spec PyProof.Rows

noncomputable def SqL (K : PySem.W.Frag) (H : Hp) (a : Addr) (xs : List V) : Prop :=
  Rd H a (.lst xs) ∨
    ∃ (o : Obj) (its : Array Value) (n : Nat), K.lookup a = some o ∧ o.cls = .type "list" ∧ o.dict = none ∧ o.data = .seq its n ∧ its.size ≤ sizeLine ∧ Vals xs its.toList
noncomputable def SqT (K : PySem.W.Frag) (H : Hp) (a : Addr) (xs : List V) : Prop :=
  Rd H a (.tup xs) ∨
    ∃ (o : Obj) (its : Array Value) (n : Nat), K.lookup a = some o ∧ o.cls = .type "tuple" ∧ o.data = .seq its n ∧ its.size ≤ sizeLine ∧ Vals xs its.toList
noncomputable def absV : Value → Option V
  | .none => some .non
  | .bool b => some (.bl b)
  | .int i _ => some (.int i)
  | .str x _ => some (.str x)
  | .bytes b _ => some (.byt b)
  | .float b _ => some (.flt b)
  | .ref a => some (.ref a)
  | .type n => some (.ty n)
  | _ => none
theorem RelV.abs {x : V} {u : Value} (r : RelV x u) : absV u = some x := by
  cases x with
  | non => cases r; rfl
  | bl _ => cases r; rfl
  | int _ => obtain ⟨t, rfl⟩ := r; rfl
  | str _ => obtain ⟨t, rfl⟩ := r; rfl
  | byt _ => obtain ⟨t, rfl⟩ := r; rfl
  | flt _ => obtain ⟨t, rfl⟩ := r; rfl
  | ref _ => cases r; rfl
  | ty _ => cases r; rfl
theorem RelV.inj {x y : V} {u : Value} (r : RelV x u) (q : RelV y u) : x = y := Option.some.inj (r.abs.symm.trans q.abs)
theorem Vals.inj : ∀ {xs ys : List V} {us : List Value}, Vals xs us → Vals ys us → xs = ys
  | _, _, _, .nil, .nil => rfl
  | _, _, _, .cons r t, .cons r' t' => by rw [r.inj r', Vals.inj t t']
section
variable {X : Cx} {pins : List (Addr × Obj)} {σ : St} {H : Hp} {s : Shared} {a : Addr} {xs ys : List V}
theorem SqL.of {K : PySem.W.Frag} (h : H a = some (.lst xs)) : SqL K H a xs := .inl (.inl h)
theorem SqT.of {K : PySem.W.Frag} (h : H a = some (.tup xs)) : SqT K H a xs := .inl (.inl h)
theorem Inv.list (I : Inv X pins σ H s) (h : SqL X.K H a xs) : ∃ its : List Value, Vals xs its ∧ PlainL s.heap a its.toArray ∧ xs.length ≤ sizeLine := by
  rcases h with h | ⟨o, its, n, hk, hc, hd, hs, hz, r⟩
  · obtain ⟨z, its, n, r, e⟩ := h.ok I.hok
    exact ⟨its, r, ⟨_, n, e, rfl, rfl, rfl⟩, z⟩
  · refine ⟨its.toList, r, ⟨o, n, I.kIn a o hk, hc, hd, by simpa using hs⟩, ?_⟩
    have e := r.length
    simp only [Array.length_toList] at e
    omega
theorem Inv.tuple (I : Inv X pins σ H s) (h : SqT X.K H a xs) : ∃ its : List Value, Vals xs its ∧ IsTup s.heap a its.toArray ∧ xs.length ≤ sizeLine := by
  rcases h with h | ⟨o, its, n, hk, hc, hs, hz, r⟩
  · obtain ⟨z, its, r, p⟩ := h.ok I.hok
    exact ⟨its, r, p, z⟩
  · refine ⟨its.toList, r, ⟨o, I.kIn a o hk, hc, n, by simpa using hs⟩, ?_⟩
    have e := r.length
    simp only [Array.length_toList] at e
    omega
theorem Inv.list_inj (I : Inv X pins σ H s) (h : SqL X.K H a xs) (h' : SqL X.K H a ys) : xs = ys := by
  obtain ⟨its, r, ⟨o, n, e, _, _, d⟩, _⟩ := I.list h
  obtain ⟨its', r', ⟨o', n', e', _, _, d'⟩, _⟩ := I.list h'
  rw [e] at e'; cases e'
  rw [d] at d'
  injection d' with d1 _
  have : its = its' := by simpa using congrArg Array.toList d1
  subst this
  exact r.inj r'
theorem Inv.tuple_inj (I : Inv X pins σ H s) (h : SqT X.K H a xs) (h' : SqT X.K H a ys) : xs = ys := by
  obtain ⟨its, r, ⟨o, e, _, n, d⟩, _⟩ := I.tuple h
  obtain ⟨its', r', ⟨o', e', _, n', d'⟩, _⟩ := I.tuple h'
  rw [e] at e'; cases e'
  rw [d] at d'
  injection d' with d1 _
  have : its = its' := by simpa using congrArg Array.toList d1
  subst this
  exact r.inj r'
end

noncomputable abbrev Cx.wish (X : Cx) (E : Value → Shared → Prop) : Cx := { X with xe := E }
noncomputable abbrev Cx.nox (X : Cx) : Cx := X.wish fun _ _ => False
theorem Cx.Ok.wish {X : Cx} (ok : X.Ok) (E : Value → Shared → Prop) : (X.wish E).Ok :=
  ⟨ok.mod, ok.kind, ok.glob, ok.blt, ok.above, ok.inj, ok.has, ok.cab, ok.hd, ok.frames, ok.stk, ok.exf, ok.bs, ok.bsz, ok.noex, ok.exfs, ok.funs, ok.frf⟩
theorem Cx.Ok.unwish {X : Cx} {E : Value → Shared → Prop} (ok : (X.wish E).Ok) : X.Ok :=
  ⟨ok.mod, ok.kind, ok.glob, ok.blt, ok.above, ok.inj, ok.has, ok.cab, ok.hd, ok.frames, ok.stk, ok.exf, ok.bs, ok.bsz, ok.noex, ok.exfs, ok.funs, ok.frf⟩
section
variable {X : Cx} {pins : List (Addr × Obj)} {σ : St} {H : Hp} {s : Shared} {E : Value → Shared → Prop}
theorem Inv.wish (I : Inv X pins σ H s) (E : Value → Shared → Prop) : Inv (X.wish E) pins σ H s := ⟨I.ok.wish E, I.os, I.bare, I.base, I.loc, I.cell, I.free, I.freeC, I.pin, I.hok, I.len⟩
theorem Inv.unwish (I : Inv (X.wish E) pins σ H s) : Inv X pins σ H s := ⟨I.ok.unwish, I.os, I.bare, I.base, I.loc, I.cell, I.free, I.freeC, I.pin, I.hok, I.len⟩
theorem SP.unwish {D : Ends} {f : Flow} {s' : Shared} (h : SP (X.wish E) pins D f s') : SP X pins D f s' := by
  cases f with
  | next => obtain ⟨σ', H', I, q⟩ := h; exact ⟨σ', H', I.unwish, q⟩
  | brk => obtain ⟨σ', H', I, q⟩ := h; exact ⟨σ', H', I.unwish, q⟩
  | cont => obtain ⟨σ', H', I, q⟩ := h; exact ⟨σ', H', I.unwish, q⟩
  | ret u => obtain ⟨v, σ', H', I, r, q⟩ := h; exact ⟨v, σ', H', I.unwish, r, q⟩
theorem PSs.nox {st : List Stmt} {t : TS} (h : PSs X.nox st t) : PSs X st t := fun pins s σ H D I hw =>
  wpAny_mono (h pins s σ H D (I.wish _) hw) (fun _ _ q => q.unwish) fun _ _ z => False.elim z
end

section
variable {X : Cx} {st : Stmt} {rest : List Stmt} {t u : TS} {e : Expr} {te : TE} {pos : Pos}
noncomputable def tNext : TS := fun D σ H => D.nx σ H
noncomputable def tSeq (t u : TS) : TS := fun D σ H => t { D with nx := u D } σ H
theorem pss_nil : PSs X [] tNext := fun _ _ σ H _ I h => wpAny_execs_nil ⟨σ, H, I, h⟩
theorem pss_cons (h1 : PS X st t) (h2 : PSs X rest u) : PSs X (st :: rest) (tSeq t u) := by
  intro pins s σ H D I h
  refine wpAny_execs_cons (thn (h1 pins s σ H { D with nx := u D } I h) fun f s1 q => ?_)
  cases f with
  | next =>
    obtain ⟨σ', H', I', q⟩ := q
    exact h2 pins s1 σ' H' D I' q
  | ret v => exact q
  | brk => exact q
  | cont => exact q
theorem pss_one (h1 : PS X st t) : PSs X [st] t := by
  intro pins s σ H D I h
  refine wpAny_execs_cons (thn (h1 pins s σ H D I h) fun f s1 q => ?_)
  cases f with
  | next => exact wpAny_execs_nil q
  | ret v => exact q
  | brk => exact q
  | cont => exact q
theorem Inv.quiet {pins : List (Addr × Obj)} {σ : St} {H : Hp} {s : Shared} (I : Inv X pins σ H s) : interactive X.env = false := by simp [interactive, I.ok.kind]
noncomputable def tDrop (te : TE) : TS := fun D σ H => te σ H fun _ H1 => D.nx σ H1
theorem ps_expr (he : PE X e te) (hs : swapsWith e none pos.line X.env = pure false := by rfl) : PS X (.Expr e pos) (tDrop te) := by
  intro pins s σ H D I h
  exact wpAny_Expr_any (thn (he pins s σ H _ I h) fun v s1 ⟨x, H1, I1, r1, q1⟩ => ⟨σ, H1, I1, q1⟩) I.quiet hs
noncomputable def tRet (te : TE) : TS := fun D σ H => te σ H D.rt
theorem ps_ret (he : PE X e te) : PS X (.Return (some e) pos) (tRet te) := by
  intro pins s σ H D I h
  exact wpAny_Return_some (thn (he pins s σ H _ I h) fun v s1 ⟨x, H1, I1, r1, q1⟩ => ⟨x, σ, H1, I1, r1, q1⟩)
noncomputable def tIfS (c : TT) (t u : TS) : TS := fun D σ H => c σ H fun b H1 => if b = true then t D σ H1 else u D σ H1
theorem ps_if {c : Expr} {a b : List Stmt} {tc : TT} (hc : PT X c tc) (ha : PSs X a t) (hb : PSs X b u) : PS X (.If c a b pos) (tIfS tc t u) := by
  intro pins s σ H D I h
  refine wpAny_If (thn (hc pins s σ H _ I h) fun d s1 ⟨H1, I1, q1⟩ => ?_)
  cases d with
  | true => exact ha pins s1 σ H1 D I1 q1
  | false => exact hb pins s1 σ H1 D I1 q1
end

noncomputable abbrev TG := V → St → Hp → (St → Hp → Prop) → Prop
noncomputable abbrev TGs := List V → St → Hp → (St → Hp → Prop) → Prop
noncomputable def PG (X : Cx) (target : Expr) (t : TG) : Prop :=
  ∀ (pins : List (Addr × Obj)) (s : Shared) (σ : St) (H : Hp) (v : V) (u : Value) (Q : St → Hp → Prop), Inv X pins σ H s → RelV v u → t v σ H Q →
    wpAny (model X.prog X.w) X.A (assign target X.env u) (fun _ s' => ∃ σ' H', Inv X pins σ' H' s' ∧ Q σ' H') X.xe s
noncomputable def PGs (X : Cx) (ts : List Expr) (t : TGs) : Prop :=
  ∀ (pins : List (Addr × Obj)) (s : Shared) (σ : St) (H : Hp) (vs : List V) (us : List Value) (Q : St → Hp → Prop), Inv X pins σ H s → Vals vs us → t vs σ H Q →
    wpAny (model X.prog X.w) X.A (assignInOrder ((assignEach ts X.env).map (·.2)) us) (fun _ s' => ∃ σ' H', Inv X pins σ' H' s' ∧ Q σ' H') X.xe s
noncomputable abbrev TSet := V → V → V → Hp → (Hp → Prop) → Prop
noncomputable def PSet (X : Cx) (t : TSet) : Prop :=
  ∀ (pins : List (Addr × Obj)) (s : Shared) (σ : St) (H : Hp) (o i v : V) (ov iv u : Value) (Q : Hp → Prop), Inv X pins σ H s → RelV o ov → RelV i iv → RelV v u → t o i v H Q →
    wpAny (model X.prog X.w) X.A (setItem ov iv u) (fun _ s' => ∃ H', Inv X pins σ H' s' ∧ Q H') X.xe s
section
variable {X : Cx} {pos : Pos}
noncomputable def gName (i : Nat) : TG := fun v σ H Q => Q (σ.set i (some v)) H
theorem pg_name {i : Nat} {x : Str} (hN : X.N.Nodup) (hi : X.N[i]? = some x) (hx : Loc X.env.scope x) (hf : X.fn x = true ∨ X.env.scope.names.lookup x = some .local := by first | exact .inl rfl | exact .inr rfl | assumption) : PG X (.Name x pos) (gName i) := by
  intro pins s σ H v u Q I r h
  exact wpAny_assign_Name (store_ok I hN hi hx r (fun s' I' => ⟨_, H, I', h⟩) hf)
noncomputable def tAsg (te : TE) (g : TG) : TS := fun D σ H => te σ H fun x H1 => g x σ H1 D.nx
theorem ps_set {i : Nat} {x : Str} {e : Expr} {te : TE} {pos' : Pos} (hN : X.N.Nodup) (hi : X.N[i]? = some x) (hx : Loc X.env.scope x) (he : PE X e te) (hs : swapsWith e (some (.Name x pos')) pos.line X.env = pure false := by rfl) (hf : X.fn x = true ∨ X.env.scope.names.lookup x = some .local := by first | exact .inl rfl | exact .inr rfl | assumption) :
    PS X (.Assign [.Name x pos'] e pos) (tAsg te (gName i)) := by
  intro pins s σ H D I h
  refine wpAny_Assign_Name (thn (he pins s σ H _ I h) fun v s1 ⟨y, H1, I1, r1, q1⟩ => ?_) hs
  exact store_ok I1 hN hi hx r1 (fun s2 I2 => ⟨_, H1, I2, q1⟩) hf
end

section
variable {X : Cx} {pos : Pos}
noncomputable def tWhile (c : TT) (tb : TS) : TS := fun D σ H => ∃ W : Nat → St → Hp → Prop, (∃ m, W m σ H) ∧ ∀ m σ H, W m σ H →
  c σ H fun b H1 => if b = true then ∃ N : St → Hp → Prop, (∀ σ' H', N σ' H' → ∃ m', m' < m ∧ W m' σ' H') ∧ tb { D with nx := N, ct := N, bk := D.nx } σ H1 else D.nx σ H1
theorem ps_while {c : Expr} {body : List Stmt} {tc : TT} {tb : TS} (hp : PassesOwn (model X.prog X.w) X.A X.env X.xe) (hc : PT X c tc) (hb : PSs X body tb) : PS X (.While c body [] pos) (tWhile tc tb) := by
  intro pins s σ H D I h
  obtain ⟨W, ⟨m0, w0⟩, turn⟩ := h
  refine wpAny_While (codeAny_whileLoop (fun n s' => ∃ σ' H', Inv X pins σ' H' s' ∧ W n σ' H') ?_ m0 ⟨σ, H, I, w0⟩)
  rintro n s1 ⟨σ1, H1, I1, w1⟩
  refine wpAny_passesOwn hp (thn (hc pins s1 σ1 H1 _ I1 (turn n σ1 H1 w1)) fun b s2 ⟨H2, I2, q2⟩ => ?_)
  cases b with
  | true =>
    obtain ⟨N, hN, q2⟩ := q2
    rw [if_pos rfl]
    refine wpAny_passesOwn hp (thn (hb pins s2 σ1 H2 _ I2 q2) fun f s3 q3 => ?_)
    cases f with
    | next =>
      obtain ⟨σ3, H3, I3, n3⟩ := q3
      obtain ⟨m', hm, w3⟩ := hN σ3 H3 n3
      exact ⟨m', hm, σ3, H3, I3, w3⟩
    | cont =>
      obtain ⟨σ3, H3, I3, n3⟩ := q3
      obtain ⟨m', hm, w3⟩ := hN σ3 H3 n3
      exact ⟨m', hm, σ3, H3, I3, w3⟩
    | brk => exact q3
    | ret v => exact q3
  | false =>
    rw [if_neg Bool.false_ne_true]
    exact wpAny_execs_nil ⟨σ1, H2, I2, q2⟩
end

set_option genInjectivity false in
structure It where
  go : Nat → Hp → Prop
  yld : Nat → Hp → V → Hp → Prop
  stop : Nat → Hp → Prop
noncomputable def FpOk (X : Cx) (pins : List (Addr × Obj)) (H : Hp) (b : Addr) : Prop :=
  H b = none ∧ b ≠ X.env.locals ∧ b ∉ X.fs ∧ (b ∈ X.ex ∨ X.s₀.heap.objs.size ≤ b) ∧ (∀ x c, X.env.cells.lookup x = some c → c ≠ b) ∧ ∀ p ∈ X.pn ++ pins, p.1 ≠ b
theorem Inv.fpOk {X : Cx} {pins : List (Addr × Obj)} {σ : St} {H H' : Hp} {s : Shared} {b : Addr} (I : Inv X pins σ H s) (hb : s.heap.objs.size ≤ b) (hn : H' b = none) : FpOk X pins H' b := by
  refine ⟨hn, Nat.ne_of_gt (Nat.lt_of_lt_of_le I.lt hb), I.nofs hb, .inr (Nat.le_trans I.sz hb), fun x c e z => ?_, fun p hp z => ?_⟩
  · obtain ⟨v, q⟩ := I.cell x c e
    exact absurd (Nat.lt_of_lt_of_le q.lt (by rw [z]; exact hb)) (Nat.lt_irrefl _)
  · exact absurd (Nat.lt_of_lt_of_le (Heap.lt_size (I.pin p hp).1) (by rw [z]; exact hb)) (Nat.lt_irrefl _)
set_option genInjectivity false in
structure Turn (P : Program) (w : World) (K : PySem.W.Frag) (tg : Expr) (J : It) (fp : List Addr) (it : Addr) (tn : Nat → Heap → Prop) : Prop where
  mem : it ∈ fp
  obj : ∀ i h, tn i h → ∀ b ∈ fp, ∃ o, h.get? b = some o ∧ ∀ v, o.data ≠ .cell v
  keep : ∀ i h h', tn i h → (∀ b ∈ fp, ∀ o, h.get? b = some o → h'.get? b = some o) → tn i h'
  item : ∀ (X : Cx), X.prog = P → X.w = w → X.K = K → X.calm = true → ∀ (i : Nat) (pins : List (Addr × Obj)) (s : Shared) (σ : St) (H : Hp) (E : Value → Shared → Prop), Inv X pins σ H s → (∀ b ∈ fp, FpOk X pins H b) → tn i s.heap → J.go i H →
    wpAny (model P w) X.A (pyNext (.ref it)) (fun r s1 => ∃ u, r = some u ∧
      wpAny (model P w) X.A (letOwnedTupleGo tg (.ref it) u) (fun _ s2 => ∃ x H', Inv X pins σ H' s2 ∧ RelV x u ∧ J.yld i H x H' ∧ tn (i + 1) s2.heap ∧ ∀ b ∈ fp, H' b = none) E s1) E s
  done : ∀ (X : Cx), X.prog = P → X.w = w → X.K = K → X.calm = true → ∀ (i : Nat) (pins : List (Addr × Obj)) (s : Shared) (σ : St) (H : Hp) (E : Value → Shared → Prop), Inv X pins σ H s → (∀ b ∈ fp, FpOk X pins H b) → tn i s.heap → J.stop i H →
    wpAny (model P w) X.A (pyNext (.ref it)) (fun r s1 => r = none ∧ Inv X pins σ H s1) E s
  self : ∀ (A : Around) (i : Nat) (s : Shared) (Q : Value → Shared → Prop) (E : Value → Shared → Prop), tn i s.heap → Q (.ref it) s → wpAny (model P w) A (pyIter (.ref it)) Q E s
noncomputable abbrev TI := St → Hp → (It → Hp → Prop) → Prop
noncomputable def PIE (X : Cx) (pins : List (Addr × Obj)) (σ : St) (tg : Expr) (R : It → Hp → Prop) (itv : Value) (s2 : Shared) : Prop :=
  ∃ (it : Addr) (fp : List Addr) (tn : Nat → Heap → Prop) (J : It) (H' : Hp), itv = .ref it ∧ Inv X pins σ H' s2 ∧ Turn X.prog X.w X.K tg J fp it tn ∧ tn 0 s2.heap ∧ (∀ b ∈ fp, FpOk X pins H' b) ∧ R J H'
noncomputable def PI (X : Cx) (tg iter : Expr) (wi : TI) : Prop :=
  ∀ (pins : List (Addr × Obj)) (s : Shared) (σ : St) (H : Hp) (R : It → Hp → Prop), Inv X pins σ H s → wi σ H R →
    wpAny (model X.prog X.w) X.A (eval iter X.env) (fun v s1 => wpAny (model X.prog X.w) X.A (pyIter v) (PIE X pins σ tg R) X.xe s1) X.xe s

theorem go_of {M : Model} {A : Around} {E : Value → Shared → Prop} {s : Shared} {tg : Expr} {it : Addr} {u : Value} {o : Obj} {n : String} {vs : Array Value} {Q : Unit → Shared → Prop} (ho : s.heap.get? it = some o) (hc : o.cls = .type n) (hd : o.data = .fields vs)
    (hn : ["enumerate", "zip", "dict_itemiterator", "dict_reverseitemiterator", "odict_iterator", "itertools.zip_longest", "itertools.pairwise"].contains n = false) (hQ : Q () s) : wpAny M A (letOwnedTupleGo tg (.ref it) u) Q E s := by
  unfold letOwnedTupleGo
  cases tg <;> first
    | exact wpAny_pure hQ
    | (cases u <;> first
        | exact wpAny_pure hQ
        | (refine wpAny_bind (wpAny_load ho ?_)
           rw [hc, hd]
           show wpAny M A (if (["enumerate", "zip", "dict_itemiterator", "dict_reverseitemiterator", "odict_iterator", "itertools.zip_longest", "itertools.pairwise"].contains n && vs[0]? == some (rawInt _)) = true then _ else _) Q E s
           rw [if_neg (by intro h; rw [hn, Bool.false_and] at h; cases h)]
           exact wpAny_pure hQ))

noncomputable def Itl (K : PySem.W.Frag) (a : Addr) : It :=
  ⟨fun i H => ∃ xs x, SqL K H a xs ∧ xs[i]? = some x, fun i H x H' => H' = H ∧ ∀ xs, SqL K H a xs → xs[i]? = some x, fun i H => ∃ xs, SqL K H a xs ∧ xs.length ≤ i⟩
noncomputable def Itt (K : PySem.W.Frag) (a : Addr) : It :=
  ⟨fun i H => ∃ xs x, SqT K H a xs ∧ xs[i]? = some x, fun i H x H' => H' = H ∧ ∀ xs, SqT K H a xs → xs[i]? = some x, fun i H => ∃ xs, SqT K H a xs ∧ xs.length ≤ i⟩
noncomputable def Itr (lo : Int) (n : Nat) : It := ⟨fun i _ => i < n, fun i H x H' => H' = H ∧ x = .int (lo + i), fun i _ => n ≤ i⟩
theorem turn_list {P : Program} {w : World} {K : PySem.W.Frag} {tg : Expr} (a it : Addr) : Turn P w K tg (Itl K a) [it] it (fun i h => h.IsListIter it a i) where
  mem := by simp
  obj := fun i h st b hb => by
    have e : b = it := by simpa using hb
    subst e
    obtain ⟨o, e, c, d⟩ := st
    exact ⟨o, e, fun v z => by rw [d] at z; cases z⟩
  keep := fun i h h' st k => st.at fun o e => k it (by simp) o e
  item := by
    intro X hP hw hK hc i pins s σ H E I hf st hg
    subst hP hw hK
    obtain ⟨xs, x, hq, hx⟩ := hg
    obtain ⟨its, rv, p, hz⟩ := I.list hq
    obtain ⟨u, hu, ru⟩ := rv.get hx
    obtain ⟨f0, f1, f2, f3, f4, f5⟩ := hf it (by simp)
    refine wpAny_pyNext_list_item st p.isList (x := u) (by simpa using hu) fun h' st' sb => ?_
    have I1 : Inv X pins σ H { s with heap := h' } := I.turned (t' := s.toks) (fun b o hb e => (sb.2 b hb).trans e) f0 f1 f3 f4 f5
    obtain ⟨o, e, c, d⟩ := id st'
    exact ⟨u, rfl, go_of (s := { s with heap := h' }) e c d (by decide) ⟨x, H, I1, ru, ⟨rfl, fun ys hy => by rw [I.list_inj hy hq]; exact hx⟩, st', fun b hb => (hf b hb).1⟩⟩
  done := by
    intro X hP hw hK hc i pins s σ H E I hf st hg
    subst hP hw hK
    obtain ⟨xs, hq, hx⟩ := hg
    obtain ⟨its, rv, p, hz⟩ := I.list hq
    obtain ⟨f0, f1, f2, f3, f4, f5⟩ := hf it (by simp)
    have hl := rv.length
    exact wpAny_pyNext_list_end (I.ok.hd hc) st p.isList (by simp; omega) fun h' eb => ⟨rfl, I.turned (t' := s.toks) (fun b o hb e => eb b o hb e) f0 f1 f3 f4 f5⟩
  self := fun _ _ _ _ _ st h => wpAny_pyIter_listiter st h
theorem turn_tuple {P : Program} {w : World} {K : PySem.W.Frag} {tg : Expr} (a it : Addr) : Turn P w K tg (Itt K a) [it] it (fun i h => h.IsTupleIter it a i) where
  mem := by simp
  obj := fun i h st b hb => by
    have e : b = it := by simpa using hb
    subst e
    obtain ⟨o, e, c, d⟩ := st
    exact ⟨o, e, fun v z => by rw [d] at z; cases z⟩
  keep := fun i h h' st k => st.at fun o e => k it (by simp) o e
  item := by
    intro X hP hw hK hc i pins s σ H E I hf st hg
    subst hP hw hK
    obtain ⟨xs, x, hq, hx⟩ := hg
    obtain ⟨its, rv, p, hz⟩ := I.tuple hq
    obtain ⟨u, hu, ru⟩ := rv.get hx
    obtain ⟨f0, f1, f2, f3, f4, f5⟩ := hf it (by simp)
    refine wpAny_pyNext_tuple_item st (show s.heap.IsTuple a its.toArray from p) (x := u) (by simpa using hu) fun h' st' sb => ?_
    have I1 : Inv X pins σ H { s with heap := h' } := I.turned (t' := s.toks) (fun b o hb e => (sb.2 b hb).trans e) f0 f1 f3 f4 f5
    obtain ⟨o, e, c, d⟩ := id st'
    exact ⟨u, rfl, go_of (s := { s with heap := h' }) e c d (by decide) ⟨x, H, I1, ru, ⟨rfl, fun ys hy => by rw [I.tuple_inj hy hq]; exact hx⟩, st', fun b hb => (hf b hb).1⟩⟩
  done := by
    intro X hP hw hK hc i pins s σ H E I hf st hg
    subst hP hw hK
    obtain ⟨xs, hq, hx⟩ := hg
    obtain ⟨its, rv, p, hz⟩ := I.tuple hq
    obtain ⟨f0, f1, f2, f3, f4, f5⟩ := hf it (by simp)
    have hl := rv.length
    exact wpAny_pyNext_tuple_end (I.ok.hd hc) st (show s.heap.IsTuple a its.toArray from p) (by simp; omega) fun h' eb => ⟨rfl, I.turned (t' := s.toks) (fun b o hb e => eb b o hb e) f0 f1 f3 f4 f5⟩
  self := fun _ _ _ _ _ st h => wpAny_pyIter_tupleiter st h
theorem turn_range {P : Program} {w : World} {K : PySem.W.Frag} {tg : Expr} (it : Addr) (lo : Int) (n : Nat) : Turn P w K tg (Itr lo n) [it] it (fun i h => IsRangeIter h it (lo + (i : Nat) * 1) ((n : Int) - (i : Nat)) 1) where
  mem := by simp
  obj := fun i h st b hb => by
    have e : b = it := by simpa using hb
    subst e
    exact ⟨_, st, fun v z => by
      have z' : Data.fields _ = Data.cell v := z
      cases z'⟩
  keep := fun i h h' st k => k it (by simp) _ st
  item := by
    intro X hP hw hK hc i pins s σ H E I hf st hg
    subst hP hw hK
    obtain ⟨f0, f1, f2, f3, f4, f5⟩ := hf it (by simp)
    have W := Walks.range (prog := X.prog) (w := X.w) (I.ok.hd hc) it lo 1 n
    refine W.item i s _ _ hg st fun v h' tk hv st' kk => ?_
    obtain ⟨t, rfl⟩ := hv
    have I1 : Inv X pins σ H { s with heap := h', toks := tk } := I.turned (fun b o hb e => kk b o (by simpa using hb) e) f0 f1 f3 f4 f5
    refine ⟨_, rfl, go_of (s := { s with heap := h', toks := tk }) (n := "range_iterator") st' rfl rfl (by decide) ⟨.int (lo + i), H, I1, ⟨t, ?_⟩, ⟨rfl, rfl⟩, st', fun b hb => (hf b hb).1⟩⟩
    rw [Int.mul_one]
  done := by
    intro X hP hw hK hc i pins s σ H E I hf st hg
    subst hP hw hK
    obtain ⟨f0, f1, f2, f3, f4, f5⟩ := hf it (by simp)
    exact wpAny_pyNext_range_end (I.ok.hd hc) st (by have : n ≤ i := hg; omega) fun h' eb => ⟨rfl, I.turned (t' := s.toks) (fun b o hb e => eb b o hb e) f0 f1 f3 f4 f5⟩
  self := fun _ _ _ _ _ st h => wpAny_pyIter_rangeiter st h
end L2

namespace L2
open PySem PySem.Spec PyProof.Rows
section
variable {X : Cx} {tg : Expr}
noncomputable def iList (K : PySem.W.Frag) (tl : TE) : TI := fun σ H R => tl σ H fun x H1 => ∃ a, x = .ref a ∧ (∃ xs, SqL K H1 a xs) ∧ R (Itl K a) H1
noncomputable def iTup (K : PySem.W.Frag) (tl : TE) : TI := fun σ H R => tl σ H fun x H1 => ∃ a, x = .ref a ∧ (∃ xs, SqT K H1 a xs) ∧ R (Itt K a) H1
theorem pi_list {l : Expr} {tl : TE} (hl : PE X l tl) : PI X tg l (iList X.K tl) := by
  intro pins s σ H R I h
  refine thn (hl pins s σ H _ I h) fun v s1 ⟨x, H1, I1, r1, q1⟩ => ?_
  obtain ⟨a, e, ⟨xs, hq⟩, q⟩ := q1
  subst e
  cases r1
  obtain ⟨its, rv, p, hz⟩ := I1.list hq
  refine wpAny_pyIter_list p.isList ?_
  refine ⟨s1.heap.objs.size, [s1.heap.objs.size], _, _, H1, rfl, I1.kept (t' := s1.toks) fun b o e => Heap.get?_push_of_some _ e, turn_list a _, ⟨_, Heap.get?_push_size _ rfl, rfl, rfl⟩, fun b hb => ?_, q⟩
  have e : b = s1.heap.objs.size := by simpa using hb
  subst e
  exact I1.fpOk (Nat.le_refl _) (I1.hok.fresh (Nat.le_refl _))
theorem pi_tup {l : Expr} {tl : TE} (hl : PE X l tl) : PI X tg l (iTup X.K tl) := by
  intro pins s σ H R I h
  refine thn (hl pins s σ H _ I h) fun v s1 ⟨x, H1, I1, r1, q1⟩ => ?_
  obtain ⟨a, e, ⟨xs, hq⟩, q⟩ := q1
  subst e
  cases r1
  obtain ⟨its, rv, p, hz⟩ := I1.tuple hq
  refine wpAny_pyIter_tuple (show s1.heap.IsTuple a its.toArray from p) ?_
  refine ⟨s1.heap.objs.size, [s1.heap.objs.size], _, _, H1, rfl, I1.kept (t' := s1.toks) fun b o e => Heap.get?_push_of_some _ e, turn_tuple a _, ⟨_, Heap.get?_push_size _ rfl, rfl, rfl⟩, fun b hb => ?_, q⟩
  have e : b = s1.heap.objs.size := by simpa using hb
  subst e
  exact I1.fpOk (Nat.le_refl _) (I1.hok.fresh (Nat.le_refl _))
theorem range_it {pins : List (Addr × Obj)} {σ : St} {H : Hp} {s : Shared} {R : It → Hp → Prop} {E : Value → Shared → Prop} {lo hi : Int} {t u v : Tok} {tk : Nat} (I : Inv X pins σ H s) (h1 : -(2 ^ 62) ≤ lo) (h2 : lo < 2 ^ 62) (h3 : -(2 ^ 62) ≤ hi) (h4 : hi < 2 ^ 62)
    (q : R (Itr lo (hi - lo).toNat) H) : wpAny (model X.prog X.w) X.A (pyIter (.ref s.heap.objs.size)) (PIE X pins σ tg R) E { s with heap := s.heap.push { cls := .type "range", data := .fields #[.int lo t, .int hi u, .int 1 v] }, toks := tk } := by
  refine wpAny_pyIter_range (IsRange.new ..) (small_one h1 h2 h3 h4) ?_
  have I1 : Inv X pins σ H { s with heap := s.heap.push { cls := .type "range", data := .fields #[.int lo t, .int hi u, .int 1 v] }, toks := tk } := I.kept fun b o e => Heap.get?_push_of_some _ e
  refine ⟨(s.heap.push { cls := .type "range", data := .fields #[.int lo t, .int hi u, .int 1 v] }).objs.size, [(s.heap.push { cls := .type "range", data := .fields #[.int lo t, .int hi u, .int 1 v] }).objs.size], _, _, H, rfl,
    I1.kept (t' := tk) fun b o e => Heap.get?_push_of_some _ e, turn_range _ lo (hi - lo).toNat, ?_, fun b hb => ?_, q⟩
  · have e1 : lo + ((0 : Nat) : Int) * 1 = lo := by simp
    have e2 : (((hi - lo).toNat : Nat) : Int) - ((0 : Nat) : Int) = Builtin.Range.rangeSize lo hi 1 := by rw [rangeSize_one]; split <;> omega
    show IsRangeIter _ _ (lo + ((0 : Nat) : Int) * 1) ((((hi - lo).toNat : Nat) : Int) - ((0 : Nat) : Int)) 1
    rw [e1, e2]
    exact Heap.get?_push_size _ rfl
  · have e : b = (s.heap.push { cls := .type "range", data := .fields #[.int lo t, .int hi u, .int 1 v] }).objs.size := by simpa using hb
    subst e
    exact I1.fpOk (Nat.le_refl _) (I1.hok.fresh (Nat.le_refl _))
noncomputable def iRng1 (ta : TA) : TI := fun σ H R => ta σ H fun vs H1 => ∃ j : Int, vs = [.int j] ∧ -(2 ^ 62) ≤ j ∧ j < 2 ^ 62 ∧ R (Itr 0 j.toNat) H1
noncomputable def iRng2 (ta : TA) : TI := fun σ H R => ta σ H fun vs H1 => ∃ i j : Int, vs = [.int i, .int j] ∧ (-(2 ^ 62) ≤ i ∧ i < 2 ^ 62 ∧ -(2 ^ 62) ≤ j ∧ j < 2 ^ 62) ∧ R (Itr i (j - i).toNat) H1
theorem pi_range1 {a : Expr} {ta : TA} {p pos : Pos} (hg : Gl X "range") (hm : X.mg "range" = none) (ha : PA X [a] ta) (hs : starEach [a] X.env = [(false, eval a X.env)] := by rfl) : PI X tg (.Call (.Name "range" p) [a] [] pos) (iRng1 ta) := by
  intro pins s σ H R I h
  refine Call_ (ld_blt I hg hm boot_range (PyProof.Rows.callWith_type1 (thn (ha pos pins s σ H _ I h) fun us s1 ⟨vs, H1, I1, r1, q1⟩ => ?_) hs rfl))
  obtain ⟨j, e, q1, q2, q⟩ := q1
  subst e
  cases r1 with
  | cons r rr =>
    cases rr
    obtain ⟨t, rfl⟩ := r
    exact call_range_1 (range_it I1 (by omega) (by omega) q1 q2 (by simpa using q))
theorem pi_range2 {a b : Expr} {ta : TA} {p pos : Pos} (hg : Gl X "range") (hm : X.mg "range" = none) (ha : PA X [a, b] ta) (hs : starEach [a, b] X.env = [(false, eval a X.env), (false, eval b X.env)] := by rfl) (hs2 : starEach [b] X.env = [(false, eval b X.env)] := by rfl) :
    PI X tg (.Call (.Name "range" p) [a, b] [] pos) (iRng2 ta) := by
  intro pins s σ H R I h
  refine Call_ (ld_blt I hg hm boot_range (PyProof.Rows.callWith_type1 (thn (ha pos pins s σ H _ I h) fun us s1 ⟨vs, H1, I1, r1, q1⟩ => ?_) (by rw [hs, hs2]) (by rw [hs2]; rfl)))
  obtain ⟨i, j, e, ⟨q1, q2, q3, q4⟩, q⟩ := q1
  subst e
  cases r1 with
  | cons r rr =>
    cases rr with
    | cons r' rr =>
      cases rr
      obtain ⟨t, rfl⟩ := r
      obtain ⟨t', rfl⟩ := r'
      exact call_range_2 (range_it I1 q1 q2 q3 q4 q)

noncomputable def tFor (wi : TI) (g : TG) (tb : TS) : TS := fun D σ H => wi σ H fun J H1 => ∃ W : Nat → Nat → St → Hp → Prop, (∃ m, W 0 m σ H1) ∧ ∀ i m σ H, W i m σ H →
  (J.stop i H ∧ D.nx σ H) ∨ (J.go i H ∧ ∃ N : St → Hp → Prop, (∀ σ' H', N σ' H' → ∃ m', m' < m ∧ W (i + 1) m' σ' H') ∧ ∀ x H', J.yld i H x H' → g x σ H' fun σ2 H2 => tb { D with nx := N, ct := N, bk := D.nx } σ2 H2)
noncomputable def pinsAt (fp : List Addr) (h : Heap) : List (Addr × Obj) := fp.filterMap fun b => (h.get? b).map fun o => (b, o)
theorem mem_pinsAt {fp : List Addr} {h : Heap} {b : Addr} {o : Obj} (hb : b ∈ fp) (e : h.get? b = some o) : (b, o) ∈ pinsAt fp h := List.mem_filterMap.mpr ⟨b, hb, by rw [e]; rfl⟩
theorem of_pinsAt {fp : List Addr} {h : Heap} {p : Addr × Obj} (hp : p ∈ pinsAt fp h) : p.1 ∈ fp ∧ h.get? p.1 = some p.2 := by
  obtain ⟨b, hb, e⟩ := List.mem_filterMap.mp hp
  cases q : h.get? b with
  | none => rw [q] at e; cases e
  | some o =>
    rw [q] at e
    have e' : (b, o) = p := Option.some.inj e
    subst e'
    exact ⟨hb, q⟩
theorem Inv.pinned {pins : List (Addr × Obj)} {σ : St} {H : Hp} {s : Shared} {fp : List Addr} (I : Inv X pins σ H s) (hf : ∀ b ∈ fp, FpOk X pins H b) (ho : ∀ b ∈ fp, ∃ o, s.heap.get? b = some o ∧ ∀ v, o.data ≠ .cell v) : Inv X (pins ++ pinsAt fp s.heap) σ H s :=
  I.pins_of fun p hp => (List.mem_append.mp hp).elim (fun z => I.pin p (List.mem_append_right _ z)) fun z => by
    obtain ⟨hb, e⟩ := of_pinsAt z
    obtain ⟨f0, f1, f2, _⟩ := hf p.1 hb
    obtain ⟨o, e', d⟩ := ho p.1 hb
    rw [e] at e'; cases e'
    exact ⟨e, f0, f1, f2, d⟩
theorem Inv.unpinned {pins pl : List (Addr × Obj)} {σ : St} {H : Hp} {s : Shared} (I : Inv X (pins ++ pl) σ H s) : Inv X pins σ H s := I.pins_of fun p hp => I.pin p (List.mem_append_right _ (List.mem_append_left _ hp))
theorem ps_for {iter : Expr} {body : List Stmt} {wi : TI} {g : TG} {tb : TS} {pos : Pos} (hp : PassesOwn (model X.prog X.w) X.A X.env X.xe) (hc : X.calm = true) (hi : PI X tg iter wi) (hg : PG X tg g) (hb : PSs X body tb)
    (hs : ∀ x, foldedSetIterable iter X.env x = pure x := by intro _; rfl) : PS X (.For tg iter body [] pos) (tFor wi g tb) := by
  intro pins s σ H D I h
  refine wpAny_For (thn (hi pins s σ H _ I h) fun v s1 h1 => thn h1 fun itv s2 h2 => ?_) hs
  obtain ⟨it, fp, tn, J, H2, e, I2, T, st2, f2, W, ⟨m0, w0⟩, turn⟩ := h2
  subst e

  have stat : ∀ {H' : Hp}, (∀ b ∈ fp, H' b = none) → ∀ b ∈ fp, FpOk X pins H' b := fun hn b hb => ⟨hn b hb, (f2 b hb).2⟩
  refine codeAny_forLoop_any (fun n s' => ∃ i σ' H', Inv X pins σ' H' s' ∧ tn i s'.heap ∧ (∀ b ∈ fp, H' b = none) ∧ W i n σ' H') ?_ m0 ⟨0, σ, H2, I2, st2, fun b hb => (f2 b hb).1, w0⟩
  rintro n s3 ⟨i, σ3, H3, I3, st3, fr3, w3⟩
  rcases turn i n σ3 H3 w3 with ⟨stop, qn⟩ | ⟨go, N, hN, step⟩
  · refine wpAny_passesOwn hp (thn (T.done X rfl rfl rfl hc i pins s3 σ3 H3 X.xe I3 (stat fr3) st3 stop) fun r s4 ⟨hr, I4⟩ => ?_)
    subst hr
    exact wpAny_execs_nil ⟨σ3, H3, I4, qn⟩
  · refine wpAny_passesOwn hp (thn (T.item X rfl rfl rfl hc i pins s3 σ3 H3 X.xe I3 (stat fr3) st3 go) fun r s4 ⟨u, hr, h4⟩ => ?_)
    subst hr
    refine wpAny_passesOwn hp (thn h4 fun _ s5 ⟨x, H5, I5, r5, y5, st5, fr5⟩ => ?_)
    have I5' := I5.pinned (stat fr5) (T.obj _ _ st5)
    refine wpAny_passesOwn hp (thn (hg _ s5 σ3 H5 x u _ I5' r5 (step x H5 y5)) fun _ s6 ⟨σ6, H6, I6, q6⟩ => ?_)
    refine wpAny_passesOwn hp (thn (hb _ s6 σ6 H6 _ I6 q6) fun f s7 q7 => ?_)
    have again : ∀ {σ7 : St} {H7 : Hp}, Inv X (pins ++ pinsAt fp s5.heap) σ7 H7 s7 → N σ7 H7 → ∃ m, m < n ∧ ∃ i σ' H', Inv X pins σ' H' s7 ∧ tn i s7.heap ∧ (∀ b ∈ fp, H' b = none) ∧ W i m σ' H' := fun {σ7 H7} I7 n7 => by
      obtain ⟨m', hm, w7⟩ := hN σ7 H7 n7
      refine ⟨m', hm, i + 1, σ7, H7, I7.unpinned, T.keep _ _ _ st5 fun b hb o e => (I7.pin (b, o) (List.mem_append_right _ (List.mem_append_right _ (mem_pinsAt hb e)))).1, fun b hb => ?_, w7⟩
      obtain ⟨o, e, d⟩ := T.obj _ _ st5 b hb
      exact (I7.pin (b, o) (List.mem_append_right _ (List.mem_append_right _ (mem_pinsAt hb e)))).2.1
    cases f with
    | next => obtain ⟨σ7, H7, I7, n7⟩ := q7; exact again I7 n7
    | cont => obtain ⟨σ7, H7, I7, n7⟩ := q7; exact again I7 n7
    | brk => obtain ⟨σ7, H7, I7, q7⟩ := q7; exact ⟨σ7, H7, I7.unpinned, q7⟩
    | ret v => obtain ⟨x7, σ7, H7, I7, r7, q7⟩ := q7; exact ⟨x7, σ7, H7, I7.unpinned, r7, q7⟩
end

theorem for_list {K : PySem.W.Frag} {a : Addr} {xs : List V} {g : TG} {tb : TS} {D : Ends} {σ : St} {H : Hp} (Pv : Nat → St → Hp → Prop) (h0 : Pv 0 σ H) (hl : ∀ i σ H, i ≤ xs.length → Pv i σ H → SqL K H a xs)
    (hs : ∀ i x σ H, xs[i]? = some x → Pv i σ H → g x σ H fun σ2 H2 => tb { D with nx := Pv (i + 1), ct := Pv (i + 1), bk := D.nx } σ2 H2) (hd : ∀ σ H, Pv xs.length σ H → D.nx σ H) :
    ∃ W : Nat → Nat → St → Hp → Prop, (∃ m, W 0 m σ H) ∧ ∀ i m σ H, W i m σ H →
      ((Itl K a).stop i H ∧ D.nx σ H) ∨ ((Itl K a).go i H ∧ ∃ N : St → Hp → Prop, (∀ σ' H', N σ' H' → ∃ m', m' < m ∧ W (i + 1) m' σ' H') ∧ ∀ x H', (Itl K a).yld i H x H' → g x σ H' fun σ2 H2 => tb { D with nx := N, ct := N, bk := D.nx } σ2 H2) := by
  refine ⟨fun i m σ H => m = xs.length - i ∧ i ≤ xs.length ∧ Pv i σ H, ⟨xs.length, by simp, Nat.zero_le _, h0⟩, ?_⟩
  rintro i m σ H ⟨rfl, hi, p⟩
  have q := hl i σ H hi p
  by_cases hlt : i < xs.length
  · refine .inr ⟨⟨xs, xs[i], q, by simp [hlt]⟩, Pv (i + 1), fun σ' H' p' => ⟨xs.length - (i + 1), by omega, rfl, hlt, p'⟩, fun x H' y => ?_⟩
    obtain ⟨e, y⟩ := y
    subst e
    exact hs i x σ _ (y xs q) p
  · have e : i = xs.length := by omega
    subst e
    exact .inl ⟨⟨xs, q, Nat.le_refl _⟩, hd σ H p⟩
theorem for_range {lo : Int} {n : Nat} {g : TG} {tb : TS} {D : Ends} {σ : St} {H : Hp} (Pv : Nat → St → Hp → Prop) (h0 : Pv 0 σ H)
    (hs : ∀ i σ H, i < n → Pv i σ H → g (.int (lo + i)) σ H fun σ2 H2 => tb { D with nx := Pv (i + 1), ct := Pv (i + 1), bk := D.nx } σ2 H2) (hd : ∀ σ H, Pv n σ H → D.nx σ H) :
    ∃ W : Nat → Nat → St → Hp → Prop, (∃ m, W 0 m σ H) ∧ ∀ i m σ H, W i m σ H →
      ((Itr lo n).stop i H ∧ D.nx σ H) ∨ ((Itr lo n).go i H ∧ ∃ N : St → Hp → Prop, (∀ σ' H', N σ' H' → ∃ m', m' < m ∧ W (i + 1) m' σ' H') ∧ ∀ x H', (Itr lo n).yld i H x H' → g x σ H' fun σ2 H2 => tb { D with nx := N, ct := N, bk := D.nx } σ2 H2) := by
  refine ⟨fun i m σ H => m = n - i ∧ i ≤ n ∧ Pv i σ H, ⟨n, by simp, Nat.zero_le _, h0⟩, ?_⟩
  rintro i m σ H ⟨rfl, hi, p⟩
  by_cases hlt : i < n
  · refine .inr ⟨hlt, Pv (i + 1), fun σ' H' p' => ⟨n - (i + 1), by omega, rfl, hlt, p'⟩, fun x H' y => ?_⟩
    obtain ⟨e, y⟩ := y
    subst e y
    exact hs i σ _ hlt p
  · have e : i = n := by omega
    subst e
    exact .inl ⟨Nat.le_refl _, hd σ H p⟩
end L2

namespace L2
open PySem PySem.Spec PyProof.Rows

noncomputable abbrev R2 := V → V → Hp → VK → Prop
noncomputable def OpR (X : Cx) (f : Value → Value → Sem Value) (r : R2) : Prop :=
  ∀ (pins : List (Addr × Obj)) (s : Shared) (σ : St) (H : Hp) (x y : V) (v u : Value) (Q : VK), Inv X pins σ H s → RelV x v → RelV y u → r x y H Q →
    wpAny (model X.prog X.w) X.A (f v u) (EP X pins σ Q) X.xe s
noncomputable def UnR (X : Cx) (f : Value → Sem Value) (r : V → Hp → VK → Prop) : Prop :=
  ∀ (pins : List (Addr × Obj)) (s : Shared) (σ : St) (H : Hp) (x : V) (v : Value) (Q : VK), Inv X pins σ H s → RelV x v → r x H Q →
    wpAny (model X.prog X.w) X.A (f v) (EP X pins σ Q) X.xe s
noncomputable def CallR (X : Cx) (f : Value) (r : List V → Hp → VK → Prop) : Prop :=
  ∀ (pins : List (Addr × Obj)) (s : Shared) (σ : St) (H : Hp) (xs : List V) (us : List Value) (Q : VK), Inv X pins σ H s → Vals xs us → r xs H Q →
    wpAny (model X.prog X.w) X.A (call f us) (EP X pins σ Q) X.xe s
noncomputable def tOp (r : R2) (ta tb : TE) : TE := fun σ H Q => ta σ H fun x H1 => tb σ H1 fun y H2 => r x y H2 Q
noncomputable def tUn (r : V → Hp → VK → Prop) (ta : TE) : TE := fun σ H Q => ta σ H fun x H1 => r x H1 Q
noncomputable def rI (C : Int → Int → Prop) (g : Int → Int → V) : R2 := fun x y H Q => ∃ i j, x = .int i ∧ y = .int j ∧ C i j ∧ Q (g i j) H
noncomputable def rI0 (g : Int → Int → V) : R2 := fun x y H Q => ∃ i j, x = .int i ∧ y = .int j ∧ Q (g i j) H
noncomputable def rU (g : Int → V) : V → Hp → VK → Prop := fun x H Q => ∃ i, x = .int i ∧ Q (g i) H

section
variable {X : Cx} {a b c : Expr} {ta tb tc : TE} {pos : Pos}

theorem binT (ha : PE X a ta) (hb : PE X b tb) {pins : List (Addr × Obj)} {s : Shared} {σ : St} {H : Hp} {R : V → V → Hp → Prop} (I : Inv X pins σ H s)
    (h : ta σ H fun x H1 => tb σ H1 fun y H2 => R x y H2) {Q : Value → Shared → Prop} {f : Value → Value → Sem Value}
    (hf : ∀ v u s2 x y H2, Inv X pins σ H2 s2 → RelV x v → RelV y u → R x y H2 → wpAny (model X.prog X.w) X.A (f v u) Q X.xe s2) :
    wpAny (model X.prog X.w) X.A (eval a X.env) (fun v s₁ => wpAny (model X.prog X.w) X.A (eval b X.env) (fun u s₂ => wpAny (model X.prog X.w) X.A (f v u) Q X.xe s₂) X.xe s₁) X.xe s := by
  refine thn (ha pins s σ H _ I h) fun v s1 ⟨x, H1, I1, r1, q1⟩ => ?_
  refine thn (hb pins s1 σ H1 _ I1 q1) fun u s2 ⟨y, H2, I2, r2, q2⟩ => ?_
  exact hf v u s2 x y H2 I2 r1 r2 q2

theorem pe_op {op : Operator} {r : R2} (ho : OpR X (binaryOp op) r) (ha : PE X a ta) (hb : PE X b tb) : PE X (.BinOp a op b pos) (tOp r ta tb) := by
  intro pins s σ H Q I h
  exact wpAny_BinOp (binT ha hb I h fun v u s2 x y H2 I2 rx ry q => ho pins s2 σ H2 x y v u Q I2 rx ry q)
theorem pe_un {op : UnaryOp} {r : V → Hp → VK → Prop} (ho : UnR X (unaryOp op) r) (ha : PE X a ta) : PE X (.UnaryOp op a pos) (tUn r ta) := by
  intro pins s σ H Q I h
  exact UnaryOp_ (thn (ha pins s σ H _ I h) fun v s1 ⟨x, H1, I1, r1, q1⟩ => ho pins s1 σ H1 x v Q I1 r1 q1)
theorem opI {f : Value → Value → Sem Value} {C : Int → Int → Prop} {g : Int → Int → Int}
    (rule : ∀ (i j : Int) (t u : Tok) (s : Shared) (Q : Value → Shared → Prop) (E : Value → Shared → Prop), C i j → Q (.int (g i j) s.toks) { s with toks := s.toks + 1 } → wpAny (model X.prog X.w) X.A (f (.int i t) (.int j u)) Q E s) :
    OpR X f (rI C fun i j => .int (g i j)) := by
  intro pins s σ H x y v u Q I rx ry h
  obtain ⟨i, j, rfl, rfl, hc, q⟩ := h
  obtain ⟨t, rfl⟩ := rx
  obtain ⟨t', rfl⟩ := ry
  exact rule i j t t' s _ _ hc ⟨.int (g i j), H, I.tok _, ⟨_, rfl⟩, q⟩
theorem opI0 {f : Value → Value → Sem Value} {g : Int → Int → Int}
    (rule : ∀ (i j : Int) (t u : Tok) (s : Shared) (Q : Value → Shared → Prop) (E : Value → Shared → Prop), Q (.int (g i j) s.toks) { s with toks := s.toks + 1 } → wpAny (model X.prog X.w) X.A (f (.int i t) (.int j u)) Q E s) :
    OpR X f (rI0 fun i j => .int (g i j)) := by
  intro pins s σ H x y v u Q I rx ry h
  obtain ⟨i, j, rfl, rfl, q⟩ := h
  obtain ⟨t, rfl⟩ := rx
  obtain ⟨t', rfl⟩ := ry
  exact rule i j t t' s _ _ ⟨.int (g i j), H, I.tok _, ⟨_, rfl⟩, q⟩
theorem opB0 {f : Value → Value → Sem Value} {g : Int → Int → Bool}
    (rule : ∀ (i j : Int) (t u : Tok) (s : Shared) (Q : Value → Shared → Prop) (E : Value → Shared → Prop), Q (.bool (g i j)) s → wpAny (model X.prog X.w) X.A (f (.int i t) (.int j u)) Q E s) :
    OpR X f (rI0 fun i j => .bl (g i j)) := by
  intro pins s σ H x y v u Q I rx ry h
  obtain ⟨i, j, rfl, rfl, q⟩ := h
  obtain ⟨t, rfl⟩ := rx
  obtain ⟨t', rfl⟩ := ry
  exact rule i j t t' s _ _ ⟨.bl (g i j), H, I, rfl, q⟩

noncomputable def CDiv (i j : Int) : Prop := 0 < j ∧ j < 1073741824
noncomputable def CMul (i j : Int) : Prop := (-(2 ^ 64) < i ∧ i < 2 ^ 64) ∨ (-(2 ^ 64) < j ∧ j < 2 ^ 64)
theorem CMul.ok {i j : Int} (h : CMul i j) : IntMulOk i j := by
  rcases h with ⟨h1, h2⟩ | ⟨h1, h2⟩
  · exact .of_left (intBits_le_64 h1 h2)
  · exact .of_right (intBits_le_64 h1 h2)
theorem op_add : OpR X (binaryOp .Add) (rI0 fun i j => .int (i + j)) := opI0 fun _ _ _ _ _ _ _ q => add_int q
theorem op_sub : OpR X (binaryOp .Sub) (rI0 fun i j => .int (i - j)) := opI0 fun _ _ _ _ _ _ _ q => sub_int q
theorem op_mul : OpR X (binaryOp .Mult) (rI CMul fun i j => .int (i * j)) := opI fun _ _ _ _ _ _ _ hc q => mul_int q hc.ok
theorem op_fdiv : OpR X (binaryOp .FloorDiv) (rI CDiv fun i j => .int (i / j)) := opI fun i j _ _ _ _ _ hc q => by
  have h1 : (0 : Int) < j := hc.1
  have h2 : j < 1073741824 := hc.2
  exact floordiv_int (by omega) (by rw [Int.fdiv_eq_ediv_of_nonneg i (by omega)]; exact q) (.inl (PyProof.noPylong_small (by omega)))
theorem op_mod : OpR X (binaryOp .Mod) (rI (fun _ j => 0 < j) fun i j => .int (i % j)) := opI fun i j _ _ _ _ _ hc q => by
  have h1 : (0 : Int) < j := hc
  exact mod_int' (by omega) (by rw [Int.fmod_eq_emod_of_nonneg i (by omega)]; exact q)
theorem unI {f : Value → Sem Value} {g : Int → Int}
    (rule : ∀ (i : Int) (t : Tok) (s : Shared) (Q : Value → Shared → Prop) (E : Value → Shared → Prop), Q (.int (g i) s.toks) { s with toks := s.toks + 1 } → wpAny (model X.prog X.w) X.A (f (.int i t)) Q E s) :
    UnR X f (rU fun i => .int (g i)) := by
  intro pins s σ H x v Q I rx h
  obtain ⟨i, rfl, q⟩ := h
  obtain ⟨t, rfl⟩ := rx
  exact rule i t s _ _ ⟨.int (g i), H, I.tok _, ⟨_, rfl⟩, q⟩
theorem un_neg : UnR X (unaryOp .USub) (rU fun i => .int (-i)) := unI fun _ _ _ _ _ q => neg_int q
end

noncomputable def scal : V → V → Bool
  | .non, .non => true | .non, .int _ => true | .int _, .non => true | .non, .bl _ => true | .bl _, .non => true | .non, .str _ => true | .str _, .non => true
  | .int _, .int _ => true | .bl _, .bl _ => true | .str _, .str _ => true | .byt _, .byt _ => true
  | .int _, .str _ => true | .str _, .int _ => true | .bl _, .str _ => true | .str _, .bl _ => true
  | _, _ => false
noncomputable def rEq : R2 := fun x y H Q => scal x y = true ∧ Q (.bl (decide (x = y))) H
noncomputable def rNe : R2 := fun x y H Q => scal x y = true ∧ Q (.bl (!decide (x = y))) H

theorem dec_int {i j : Int} : decide (V.int i = V.int j) = (i == j) := by
  rw [Bool.eq_iff_iff]
  simp
theorem dec_bl {i j : Bool} : decide (V.bl i = V.bl j) = (i == j) := by
  rw [Bool.eq_iff_iff]
  simp
theorem dec_str {i j : Str} : decide (V.str i = V.str j) = (i == j) := by
  rw [Bool.eq_iff_iff]
  simp
theorem dec_byt {i j : Array UInt8} : decide (V.byt i = V.byt j) = (i.toList == j.toList) := by
  rw [Bool.eq_iff_iff]
  cases i
  cases j
  simp

section
variable {X : Cx} {a b c : Expr} {ta tb tc : TE} {pos : Pos}
theorem fin_bl {pins : List (Addr × Obj)} {σ : St} {H : Hp} {s : Shared} {Q : VK} {k k' : Bool} (I : Inv X pins σ H s) (q : Q (.bl k) H) (e : k = k') : EP X pins σ Q (.bool k') s := by
  subst e
  exact ⟨.bl k, H, I, rfl, q⟩
theorem op_eq : OpR X (compareOp .Eq) rEq := by
  intro pins s σ H x y v u Q I rx ry h
  obtain ⟨hs, q⟩ := h
  cases x with
  | non =>
    cases rx
    cases y with
    | non => cases ry; exact PySem.EqNone.eq_none_none (fin_bl I q (by simp))
    | bl j => cases ry; exact PySem.EqNone.eq_none_bool (fin_bl I q (by simp))
    | int j => obtain ⟨t', rfl⟩ := ry; exact PySem.EqNone.eq_none_int (fin_bl I q (by simp))
    | str j => obtain ⟨t', rfl⟩ := ry; exact PySem.EqNone.eq_none_str (fin_bl I q (by simp))
    | _ => exact absurd (show false = true from hs) Bool.false_ne_true
  | bl i =>
    cases rx
    cases y with
    | non => cases ry; exact PySem.EqNone.eq_bool_none (fin_bl I q (by simp))
    | bl j => cases ry; exact eq_bool (fin_bl I q dec_bl)
    | str j => obtain ⟨t', rfl⟩ := ry; exact PySem.EqMixed.eq_bool_str (fin_bl I q (by simp))
    | _ => exact absurd (show false = true from hs) Bool.false_ne_true
  | int i =>
    obtain ⟨t, rfl⟩ := rx
    cases y with
    | non => cases ry; exact PySem.EqNone.eq_int_none (fin_bl I q (by simp))
    | int j => obtain ⟨t', rfl⟩ := ry; exact eq_int (fin_bl I q dec_int)
    | str j => obtain ⟨t', rfl⟩ := ry; exact PySem.EqMixed.eq_int_str (fin_bl I q (by simp))
    | _ => exact absurd (show false = true from hs) Bool.false_ne_true
  | str i =>
    obtain ⟨t, rfl⟩ := rx
    cases y with
    | non => cases ry; exact PySem.EqNone.eq_str_none (fin_bl I q (by simp))
    | bl j => cases ry; exact PySem.EqMixed.eq_str_bool (fin_bl I q (by simp))
    | int j => obtain ⟨t', rfl⟩ := ry; exact PySem.EqMixed.eq_str_int (fin_bl I q (by simp))
    | str j => obtain ⟨t', rfl⟩ := ry; exact eq_str (fin_bl I q dec_str)
    | _ => exact absurd (show false = true from hs) Bool.false_ne_true
  | byt i =>
    obtain ⟨t, rfl⟩ := rx
    cases y with
    | byt j => obtain ⟨t', rfl⟩ := ry; exact PySem.W.eq_bytes (fin_bl I q dec_byt)
    | _ => exact absurd (show false = true from hs) Bool.false_ne_true
  | _ => cases y <;> exact absurd (show false = true from hs) Bool.false_ne_true
theorem op_ne : OpR X (compareOp .NotEq) rNe := by
  intro pins s σ H x y v u Q I rx ry h
  obtain ⟨hs, q⟩ := h
  cases x with
  | non =>
    cases rx
    cases y with
    | non => cases ry; exact PySem.EqNone.ne_none_none (fin_bl I q (by simp))
    | bl j => cases ry; exact PySem.EqNone.ne_none_bool (fin_bl I q (by simp))
    | int j => obtain ⟨t', rfl⟩ := ry; exact PySem.EqNone.ne_none_int (fin_bl I q (by simp))
    | str j => obtain ⟨t', rfl⟩ := ry; exact PySem.EqNone.ne_none_str (fin_bl I q (by simp))
    | _ => exact absurd (show false = true from hs) Bool.false_ne_true
  | bl i =>
    cases rx
    cases y with
    | non => cases ry; exact PySem.EqNone.ne_bool_none (fin_bl I q (by simp))
    | bl j => cases ry; exact ne_bool (fin_bl I q (congrArg not dec_bl))
    | str j => obtain ⟨t', rfl⟩ := ry; exact PySem.EqMixed.ne_bool_str (fin_bl I q (by simp))
    | _ => exact absurd (show false = true from hs) Bool.false_ne_true
  | int i =>
    obtain ⟨t, rfl⟩ := rx
    cases y with
    | non => cases ry; exact PySem.EqNone.ne_int_none (fin_bl I q (by simp))
    | int j => obtain ⟨t', rfl⟩ := ry; exact ne_int (fin_bl I q (congrArg not dec_int))
    | str j => obtain ⟨t', rfl⟩ := ry; exact PySem.EqMixed.ne_int_str (fin_bl I q (by simp))
    | _ => exact absurd (show false = true from hs) Bool.false_ne_true
  | str i =>
    obtain ⟨t, rfl⟩ := rx
    cases y with
    | non => cases ry; exact PySem.EqNone.ne_str_none (fin_bl I q (by simp))
    | bl j => cases ry; exact PySem.EqMixed.ne_str_bool (fin_bl I q (by simp))
    | int j => obtain ⟨t', rfl⟩ := ry; exact PySem.EqMixed.ne_str_int (fin_bl I q (by simp))
    | str j => obtain ⟨t', rfl⟩ := ry; exact ne_str (fin_bl I q (congrArg not dec_str))
    | _ => exact absurd (show false = true from hs) Bool.false_ne_true
  | byt i =>
    obtain ⟨t, rfl⟩ := rx
    cases y with
    | byt j => obtain ⟨t', rfl⟩ := ry; exact PySem.W.ne_bytes (fin_bl I q (congrArg not dec_byt))
    | _ => exact absurd (show false = true from hs) Bool.false_ne_true
  | _ => cases y <;> exact absurd (show false = true from hs) Bool.false_ne_true

theorem op_lt : OpR X (compareOp .Lt) (rI0 fun i j => .bl (decide (i < j))) := opB0 fun _ _ _ _ _ _ _ q => lt_int q
theorem op_le : OpR X (compareOp .LtE) (rI0 fun i j => .bl (decide (i ≤ j))) := opB0 fun _ _ _ _ _ _ _ q => le_int q
theorem op_gt : OpR X (compareOp .Gt) (rI0 fun i j => .bl (decide (j < i))) := opB0 fun _ _ _ _ _ _ _ q => gt_int q
theorem op_ge : OpR X (compareOp .GtE) (rI0 fun i j => .bl (decide (j ≤ i))) := opB0 fun _ _ _ _ _ _ _ q => ge_int q
theorem op_lt_str : OpR X (compareOp .Lt) (fun x y H Q => ∃ i j, x = .str i ∧ y = .str j ∧ Q (.bl (decide (i.cps.toList < j.cps.toList))) H) := by
  intro pins s σ H x y v u Q I rx ry h
  obtain ⟨i, j, rfl, rfl, q⟩ := h
  obtain ⟨t, rfl⟩ := rx
  obtain ⟨t', rfl⟩ := ry
  exact lt_str (fin_bl I q rfl)
theorem op_notin_str : OpR X (compareOp .NotIn) (fun x y H Q => ∃ i j, x = .str i ∧ y = .str j ∧ Q (.bl (!(!(Builtin.Str.occurrences j i 0 j.length 1).isEmpty))) H) := by
  intro pins s σ H x y v u Q I rx ry h
  obtain ⟨i, j, rfl, rfl, q⟩ := h
  obtain ⟨t, rfl⟩ := rx
  obtain ⟨t', rfl⟩ := ry
  exact notIn_str (fin_bl I q rfl)
theorem nomark (b : Expr) {op : CmpOp} (h : op ≠ .In := by decide) (h2 : op ≠ .NotIn := by decide) : behindInMarks op b = false := by
  have e1 : (op == CmpOp.In) = false := by cases op <;> first | rfl | exact absurd rfl h
  have e2 : (op == CmpOp.NotIn) = false := by cases op <;> first | rfl | exact absurd rfl h2
  cases b <;> simp [behindInMarks, e1, e2]
theorem pe_cmpR {op : CmpOp} {r : R2} (ho : OpR X (compareOp op) r) (ha : PE X a ta) (hb : PE X b tb) (hm : behindInMarks op b = false) : PE X (.Compare a [op] [b] pos) (tOp r ta tb) := by
  intro pins s σ H Q I h
  exact wpAny_Compare1 (binT ha hb I h fun v u s2 x y H2 I2 rx ry q => ho pins s2 σ H2 x y v u Q I2 rx ry q) hm
noncomputable def tTest (t : TE) : TT := fun σ H Q => t σ H fun x H' => ∃ k, x = .bl k ∧ Q k H'
theorem pt_cmpR {op : CmpOp} {r : R2} (ho : OpR X (compareOp op) r) (ha : PE X a ta) (hb : PE X b tb) (hm : behindInMarks op b = false) : PT X (.Compare a [op] [b] pos) (tTest (tOp r ta tb)) := by
  intro pins s σ H Q I h
  refine wpAny_isTrue_Compare1 (thn (ha pins s σ H _ I h) fun v s1 ⟨x, H1, I1, r1, q1⟩ => thn (hb pins s1 σ H1 _ I1 q1) fun u s2 ⟨y, H2, I2, r2, q2⟩ =>
    thn (ho pins s2 σ H2 x y v u _ I2 r1 r2 q2) fun c s3 ⟨z, H3, I3, r3, k, e, q3⟩ => ?_) hm
  subst e
  cases r3
  exact wpAny_truthy_bool ⟨H3, I3, q3⟩
theorem line63 : (sizeLine : Nat) < 2 ^ 63 := by rw [sizeLine_eq]; decide
theorem op_add_str : OpR X (binaryOp .Add) (fun x y H Q => ∃ i j, x = .str i ∧ y = .str j ∧ i.length + j.length ≤ sizeLine ∧ Q (.str (i ++ j)) H) := by
  intro pins s σ H x y v u Q I rx ry h
  obtain ⟨i, j, rfl, rfl, hz, q⟩ := h
  obtain ⟨t, rfl⟩ := rx
  obtain ⟨t', rfl⟩ := ry
  exact add_str (fun t' tk => ⟨.str (i ++ j), H, I.tok _, ⟨_, rfl⟩, q⟩) hz
theorem vals1 {x : V} {us : List Value} (r : Vals [x] us) : ∃ u, us = [u] ∧ RelV x u := by
  cases r with
  | cons r1 r2 => cases r2; exact ⟨_, rfl, r1⟩
end
end L2

namespace L2
open PySem PySem.Spec PyProof.Rows

set_option genInjectivity false in
structure ObjM (h : Heap) (x dx C : Addr) (mA : Str → Option Value) : Prop where
  obj : h.get? x = some (PySem.W.instObj C dx)
  ns : h.Ns1 dx mA
  ne : dx ≠ x

theorem lookIn_ns {h : Heap} {dx : Addr} {mA : Str → Option Value} (n : h.Ns1 dx mA) : ∃ od, h.get? dx = some od ∧ ∀ name, PySem.W.lookIn name od = some (mA name) := by
  obtain ⟨o, es, ep, ho, hd, hk, _, hm⟩ := n
  refine ⟨o, ho, fun name => ?_⟩
  have e := hm name
  unfold nsFind findBy at e
  rw [← Array.find?_toList] at e
  unfold PySem.W.lookIn
  rw [hd]
  dsimp only
  split
  · rename_i y q
    rw [q] at e
    exact congrArg some e
  · rename_i q
    rw [q] at e
    have a : es.toList.any (·.refKey) = false := by
      rw [List.any_eq_false]
      intro y hy
      obtain ⟨z, t, hkey⟩ := hk y (Array.mem_toList_iff.mp hy)
      simp [DictEntry.refKey, hkey]
    have a' : ¬ es.toList.any (·.refKey) = true := by rw [a]; exact Bool.false_ne_true
    rw [if_neg a']
    exact congrArg some e

theorem ObjM.look {h : Heap} {x dx C : Addr} {mA : Str → Option Value} (I : ObjM h x dx C mA) : ∃ od, PySem.W.InstAt h x (PySem.W.instObj C dx) C (some od) ∧ ∀ name, PySem.W.lookIn name od = some (mA name) :=
  let ⟨od, ho, hl⟩ := lookIn_ns I.ns
  ⟨od, ⟨I.obj, rfl, rfl, ho⟩, hl⟩

section
variable {prog : Program} {w : World} {A : Around} {E : Value → Shared → Prop} {s : Shared} {K : PySem.W.Frag} {x dx C f : Addr} {mA : Str → Option Value} {name : Str} {v : Value}

theorem get_map {expr : Bool} {Q : Value → Shared → Prop} (X : K.In s.heap) (I : ObjM s.heap x dx C mA) (hg : PySem.W.plainGet K C name = true) (hh : PySem.W.hasDictIn K C = true)
    (ha : PySem.W.findIn K (.ref C) name = some none) (hv : mA name = some v) (hv' : PySem.W.handedIn v = true) (h : Q v { s with toks := s.toks + 1 }) :
    wpAny (model prog w) A (getAttr (.ref x) name expr) Q E s := by
  obtain ⟨od, J, hl⟩ := I.look
  exact PySem.W.get_value X J (PySem.W.plainGet_of hg).1 (PySem.W.findObj_own hh ha rfl (by rw [hl, hv])) hv' h

theorem set_map {ns : List Str} {Q : Unit → Shared → Prop} (X : K.In s.heap) (I : ObjM s.heap x dx C mA)
    (hs : PySem.W.findIn K (.ref C) "__setattr__" = some (some (.builtin "object.__setattr__"))) (hp : PySem.W.plainOver K C = true) (ht : PySem.W.takerIn K C name = some none) (hh : PySem.W.hasDictIn K C = true)
    (hw : PySem.Within mA ns) (hsz : ns.length ≤ sizeLine)
    (h : ∀ h', ObjM h' x dx C (fun y => if y = name then some v else mA y) → Heap.SameBut dx s.heap h' → Q () { s with heap := h', toks := s.toks + 2 }) :
    wpAny (model prog w) A (setAttr (.ref x) name v) Q E s := by
  obtain ⟨od, J, hl⟩ := I.look
  refine PySem.W.set_plain X J hs (PySem.W.osa_open (s := { s with toks := s.toks + 1 }) (r := none) X J hp ht fun b => ?_)
  obtain ⟨cd, hc, hd'⟩ := PySem.W.any_some hh
  have hx : s.heap.get? x = some ⟨.ref C, some dx, .plain, #[]⟩ := I.obj
  refine wpAny_bind (wpAny_pure (wpAny_bind (wpAny_bind (wpAny_loadPart hx (wpAny_bind (PySem.W.Looks.here (s := { s with toks := s.toks + 1 }) (PySem.W.looks_clsIn X hc) ?_))))))
  rw [hd']
  refine wpAny_pure (a := some dx) (wpAny_bind (wpAny_pure (wpAny_bind ?_)))
  refine wpAny_nsSet1 (s := { s with toks := s.toks + 1 }) I.ns fun h' hn2 hs2 => ?_
  obtain ⟨oD, esD, epD, hoD, hdD, hcD⟩ := hn2.count (PySem.Within.cons name v hw)
  refine wpAny_bind (wpAny_lookBehind hoD (by rw [hdD]; exact pastItsLine_dict (Nat.le_trans hcD (by rw [List.length_cons]; omega))) ?_)
  exact wpAny_pure (h _ ⟨(hs2.2 _ (Ne.symm I.ne)).trans I.obj, hn2, I.ne⟩ hs2)

theorem make_map {R : Result → Shared → Prop} {vs : List Value} {kw : List (Str × Value)} (X : K.In s.heap) (hm : PySem.W.makesIn K C = true)
    (hi : PySem.W.findIn K (.ref C) "__init__" = some (some (.ref f))) (hf : PySem.W.typeIn K (.ref f) = some (.type "function"))
    (h : codeAny (model prog w) (A.under (.builtin "type.__call__" ⟨.ref C :: vs, kw⟩)) (.call (.ref f) ⟨.ref (s.heap.objs.size + 1) :: vs, kw⟩) (PySem.W.InitBack (s.heap.objs.size + 1) R)
      { s with heap := (s.heap.push PySem.W.emptyDict).push (PySem.W.instObj C s.heap.objs.size) }) :
    codeAny (model prog w) A (.call (.ref C) ⟨vs, kw⟩) R s := by
  obtain ⟨hh, g, d, t, os⟩ := s
  exact PySem.W.make_core (PySem.W.makes_of X hm) (PySem.W.looks_findIn X hi) (fun self => PySem.W.bind_fn X self hf) (.inl rfl) h
end

noncomputable def putF (f : Str) (v : V) : List (Str × V) → List (Str × V)
  | [] => [(f, v)]
  | (g, x) :: r => if g = f then (g, v) :: r else (g, x) :: putF f v r
theorem lookup_putF (f g : Str) (v : V) : ∀ fs : List (Str × V), (putF f v fs).lookup g = if g = f then some v else fs.lookup g
  | [] => by
    show List.lookup g [(f, v)] = _
    by_cases h : g = f
    · have hb : (g == f) = true := beq_iff_eq.mpr h
      simp only [List.lookup, hb, if_pos h]
    · have hb : (g == f) = false := beq_eq_false_iff_ne.mpr h
      simp only [List.lookup, hb, if_neg h]
  | (k, x) :: r => by
    have ih := lookup_putF f g v r
    rw [show putF f v ((k, x) :: r) = (if k = f then (k, v) :: r else (k, x) :: putF f v r) from rfl]
    by_cases hk : k = f
    · rw [if_pos hk]
      by_cases h : g = k
      · have hb : (g == k) = true := beq_iff_eq.mpr h
        simp only [List.lookup, hb, if_pos (h.trans hk)]
      · have hb : (g == k) = false := beq_eq_false_iff_ne.mpr h
        simp only [List.lookup, hb, if_neg (fun e : g = f => h (e.trans hk.symm))]
    · rw [if_neg hk]
      by_cases h : g = k
      · have hb : (g == k) = true := beq_iff_eq.mpr h
        simp only [List.lookup, hb, if_neg (fun e : g = f => hk (h.symm.trans e))]
      · have hb : (g == k) = false := beq_eq_false_iff_ne.mpr h
        simp only [List.lookup, hb]
        exact ih
theorem keys_putF (f : Str) (v : V) : ∀ fs : List (Str × V), f ∈ (putF f v fs).map (·.1) ∧ ∀ g, g ∈ fs.map (·.1) → g ∈ (putF f v fs).map (·.1)
  | [] => ⟨by simp [putF], fun g h => by simp at h⟩
  | (k, x) :: r => by
    obtain ⟨i1, i2⟩ := keys_putF f v r
    rw [show putF f v ((k, x) :: r) = (if k = f then (k, v) :: r else (k, x) :: putF f v r) from rfl]
    by_cases hk : k = f
    · rw [if_pos hk]
      subst hk
      exact ⟨by simp, fun g h => by simpa using h⟩
    · rw [if_neg hk]
      refine ⟨?_, fun g h => ?_⟩
      · rw [List.map_cons]
        exact List.mem_cons_of_mem _ i1
      · rw [List.map_cons] at h ⊢
        rcases List.mem_cons.mp h with e | e
        · exact List.mem_cons.mpr (.inl e)
        · exact List.mem_cons_of_mem _ (i2 g e)
theorem length_putF (f : Str) (v : V) : ∀ fs : List (Str × V), (putF f v fs).length ≤ fs.length + 1
  | [] => by simp [putF]
  | (k, x) :: r => by
    have ih := length_putF f v r
    rw [show putF f v ((k, x) :: r) = (if k = f then (k, v) :: r else (k, x) :: putF f v r) from rfl]
    by_cases hk : k = f
    · rw [if_pos hk, List.length_cons, List.length_cons]; omega
    · rw [if_neg hk, List.length_cons, List.length_cons]; omega

theorem RelO.some_of {v : V} {o : Option Value} (r : RelO (some v) o) : ∃ u, o = some u ∧ RelV v u := by
  cases o with
  | none => exact (show False from r).elim
  | some u => exact ⟨u, rfl, r⟩
theorem handed_of {v : V} {u : Value} (r : RelV v u) : PySem.W.handedIn u = true := by
  cases v with
  | non => cases (show u = Value.none from r); rfl
  | bl b => cases (show u = Value.bool b from r); rfl
  | int i => obtain ⟨t, e⟩ := (show ∃ t, u = Value.int i t from r); cases e; rfl
  | str x => obtain ⟨t, e⟩ := (show ∃ t, u = Value.str x t from r); cases e; rfl
  | byt b => obtain ⟨t, e⟩ := (show ∃ t, u = Value.bytes b t from r); cases e; rfl
  | flt b => obtain ⟨t, e⟩ := (show ∃ t, u = Value.float b t from r); cases e; rfl
  | ref a => cases (show u = Value.ref a from r); rfl
  | ty n => cases (show u = Value.type n from r); rfl

section
variable {P : Program} {w : World} {H H' : Hp} {h h' : Heap} {a C dx : Addr} {fs fs' : List (Str × V)}
theorem ins_get (hok : HOk P w H h) (e : H a = some (.ins C dx fs)) : ∃ mA, ObjM h a dx C mA ∧ (∀ f, RelO (fs.lookup f) (mA f)) ∧ PySem.Within mA (fs.map (·.1)) ∧ fs.length ≤ 1000 ∧ H dx = some (.own a) := by
  obtain ⟨d, z, ne, ob, mA, n, r, q⟩ := (show ObjOk P w H h a (.ins C dx fs) from hok a _ e)
  exact ⟨mA, ⟨ob, n, ne⟩, r, q, z, d⟩
end

set_option genInjectivity false in
structure Cls (K : PySem.W.Frag) (C : Addr) : Prop where
  pg : PySem.W.plainGet K C Str.empty = true
  hd : PySem.W.hasDictIn K C = true
  po : PySem.W.plainOver K C = true
  sa : PySem.W.findIn K (.ref C) "__setattr__" = some (some (.builtin "object.__setattr__"))
theorem Cls.get {K : PySem.W.Frag} {C : Addr} (c : Cls K C) (f : Str) : PySem.W.plainGet K C f = true := c.pg
noncomputable def NoAttr (K : PySem.W.Frag) (C : Addr) (f : Str) : Prop := PySem.W.findIn K (.ref C) f = some none
theorem NoAttr.taker {K : PySem.W.Frag} {C : Addr} {f : Str} (n : NoAttr K C f) : PySem.W.takerIn K C f = some none := by
  unfold PySem.W.takerIn
  rw [show PySem.W.findIn K (.ref C) f = some none from n]
  rfl
set_option genInjectivity false in
structure Meth (K : PySem.W.Frag) (C : Addr) (m : Str) (f : Addr) : Prop where
  at_ : PySem.W.findIn K (.ref C) m = some (some (.ref f))
  fn : PySem.W.isFn K (.ref f) = true
  kp : PySem.W.keepIn K (.ref f) = true

section
variable {X : Cx} {pins : List (Addr × Obj)} {σ : St} {H : Hp} {s : Shared} {a C dx : Addr} {fs : List (Str × V)} {f : Str} {v : V} {A : Around} {E : Value → Shared → Prop}

theorem getattr_ok {b : Bool} {Q : Value → Shared → Prop} (I : Inv X pins σ H s) (e : H a = some (.ins C dx fs)) (c : Cls X.K C) (n : NoAttr X.K C f) (l : fs.lookup f = some v)
    (h : ∀ u s', Inv X pins σ H s' → RelV v u → Q u s') : wpAny (model X.prog X.w) A (getAttr (.ref a) f b) Q E s := by
  obtain ⟨mA, O, r, _, _, _⟩ := ins_get I.hok e
  obtain ⟨u, hu, ru⟩ := RelO.some_of (v := v) (o := mA f) (by rw [← l]; exact r f)
  exact get_map I.kIn O (c.get f) c.hd n hu (handed_of ru) (h u _ (I.tok _) ru)

theorem setattr_ok {y : V} {u : Value} {Q : Unit → Shared → Prop} (I : Inv X pins σ H s) (e : H a = some (.ins C dx fs)) (c : Cls X.K C) (n : NoAttr X.K C f) (hl : fs.length < 1000) (ry : RelV y u)
    (h : ∀ s', Inv X pins σ (upd H a (.ins C dx (putF f y fs))) s' → Q () s') : wpAny (model X.prog X.w) A (setAttr (.ref a) f u) Q E s := by
  obtain ⟨mA, O, r, wi, _, ho⟩ := ins_get I.hok e
  have hz : (fs.map (·.1)).length ≤ sizeLine := by rw [List.length_map, sizeLine_eq]; omega
  refine set_map I.kIn O c.sa c.po n.taker c.hd wi hz fun h' O' sb => h _ ?_
  have hd : ∃ o, h'.get? dx = some o := let ⟨o, _, _, e', _⟩ := O'.ns; ⟨o, e'⟩
  refine I.write (x := a) (e := dx) (by rw [e]; exact True.intro) (.inr ho) (fun b q hb z => (sb.2 b hb).trans z) hd ?_
  refine ⟨by rw [upd_ne O.ne]; exact ho, ?_, O.ne, O'.obj, _, O'.ns, fun g => ?_, fun g hg => ?_⟩
  · have := length_putF f y fs; omega
  · show RelO ((putF f y fs).lookup g) (if g = f then some u else mA g)
    rw [lookup_putF]
    by_cases q : g = f
    · rw [if_pos q, if_pos q]; exact ry
    · rw [if_neg q, if_neg q]; exact r g
  · by_cases q : g = f
    · rw [q]; exact (keys_putF f y fs).1
    · refine (keys_putF f y fs).2 g (wi g fun z => hg ?_)
      show (if g = f then some u else mA g) = none
      rw [if_neg q]; exact z

theorem Inv.made (I : Inv X pins σ H s) : Inv X pins σ (upd (upd H s.heap.objs.size (.own (s.heap.objs.size + 1))) (s.heap.objs.size + 1) (.ins C s.heap.objs.size []))
    { s with heap := (s.heap.push PySem.W.emptyDict).push (PySem.W.instObj C s.heap.objs.size) } := by
  have e1 : (s.heap.push PySem.W.emptyDict).get? s.heap.objs.size = some PySem.W.emptyDict := Heap.get?_push_size s.heap rfl
  have e2 : ((s.heap.push PySem.W.emptyDict).push (PySem.W.instObj C s.heap.objs.size)).get? (s.heap.objs.size + 1) = some (PySem.W.instObj C s.heap.objs.size) := by
    have := Heap.get?_push_size (s.heap.push PySem.W.emptyDict) (o := PySem.W.instObj C s.heap.objs.size) rfl
    rwa [Heap.size_push] at this
  have e3 : (s.heap.push PySem.W.emptyDict).Ns s.heap.objs.size (fun _ => none) := ⟨PySem.W.emptyDict, #[], _, e1, rfl, (fun e he => absurd he (by simp)), fun _ => rfl⟩
  have I1 := I.laid (a := s.heap.objs.size) (o := .own (s.heap.objs.size + 1)) (h' := s.heap.push PySem.W.emptyDict) (t' := s.toks) (fun b u q => Heap.get?_push_of_some _ q) (Nat.le_refl _) ⟨_, e1⟩
  refine I1.laid (a := s.heap.objs.size + 1) (o := .ins C s.heap.objs.size []) (t' := s.toks) (fun b u q => Heap.get?_push_of_some _ q) (Nat.le_of_eq (Heap.size_push _ _)) ?_
  have ne : s.heap.objs.size ≠ s.heap.objs.size + 1 := Nat.ne_of_lt (Nat.lt_succ_self _)
  refine ⟨by rw [upd_ne ne, upd_same], Nat.zero_le _, ne, e2, fun _ => none, (Heap.Ns1.of_empty e3).at fun o q => Heap.get?_push_of_some _ q, fun _ => True.intro, fun y hy => absurd rfl hy⟩

theorem attr_of {prog : Program} {w : World} {env : Env} {e : Expr} {f : Str} {pos : Pos} {s : Shared} {Q : Value → Shared → Prop} (hb : attributeBase e f env (eval e env) = eval e env)
    (h : wpAny (model prog w) A (eval e env) (fun o s₁ => wpAny (model prog w) A (getAttr o f true) Q E s₁) E s) : wpAny (model prog w) A (eval (.Attribute e f pos) env) Q E s :=
  Attribute_any_ h (by rw [arm_eval_Attribute, hb])
end

noncomputable def tFld (K : PySem.W.Frag) (ta : TE) (f : Str) : TE := fun σ H Q => ta σ H fun x H1 => ∃ a C dx fs v, x = .ref a ∧ H1 a = some (.ins C dx fs) ∧ Cls K C ∧ NoAttr K C f ∧ fs.lookup f = some v ∧ Q v H1
noncomputable def sFld (K : PySem.W.Frag) (ta tv : TE) (f : Str) : TS := fun D σ H => tv σ H fun y H1 => ta σ H1 fun x H2 => ∃ a C dx fs, x = .ref a ∧ H2 a = some (.ins C dx fs) ∧ Cls K C ∧ NoAttr K C f ∧ fs.length < 1000 ∧
  D.nx σ (upd H2 a (.ins C dx (putF f y fs)))
section
variable {X : Cx} {o e value : Expr} {f : Str} {pos pos' tpos : Pos} {ta tv : TE}
theorem pe_fld (he : PE X e ta) (hb : attributeBase e f X.env (eval e X.env) = eval e X.env) : PE X (.Attribute e f pos) (tFld X.K ta f) := by
  intro pins s σ H Q I h
  refine attr_of hb (thn (he pins s σ H _ I h) fun u s1 ⟨x, H1, I1, rx, a, C, dx, fs, v, ex, ea, c, n, l, q⟩ => ?_)
  subst ex
  obtain rfl : u = Value.ref a := rx
  exact getattr_ok I1 ea c n l fun u' s2 I2 ru => ⟨v, H1, I2, ru, q⟩
theorem ps_fld (ha : PE X o ta) (hv : PE X value tv) (hs : swapsWith value (some (.Attribute o f pos')) pos.line X.env = pure false) : PS X (.Assign [.Attribute o f pos'] value pos) (sFld X.K ta tv f) := by
  intro pins s σ H D I h
  refine plainObj_wpAny_Assign_Attribute (thn (hv pins s σ H _ I h) fun u s1 ⟨y, H1, I1, ry, q⟩ => thn (ha pins s1 σ H1 _ I1 q) fun ov s2 ⟨x, H2, I2, rx, a, C, dx, fs, ex, ea, c, n, l, q2⟩ => ?_) hs
  subst ex
  obtain rfl : ov = Value.ref a := rx
  exact setattr_ok I2 ea c n l ry fun s3 I3 => ⟨σ, _, I3, q2⟩
end

section
variable {X : Cx} {pins : List (Addr × Obj)} {σ : St} {H : Hp} {s : Shared} {A : Around} {E : Value → Shared → Prop} {Q : Value → Shared → Prop} {c : Value} {b : Bool}
end
end L2

namespace L2
open PySem PySem.Spec PyProof.Rows

set_option genInjectivity false in
structure Room (k : Nat) (A : Around) : Prop where
  hd : A.handled = none
  dp : A.depth + 3 * k + 5 < recursionLimit
  un : A.units + 16 * k + 200 < cLine
theorem Room.mono {j k : Nat} {A : Around} (r : Room k A) (h : j ≤ k) : Room j A := ⟨r.hd, by have := r.dp; omega, by have := r.un; omega⟩
theorem Room.deeper {k : Nat} {A : Around} (r : Room (k + 1) A) (env : Env) : Room k (A.deeper env) :=
  ⟨r.hd, by have := r.dp; show A.depth + 1 + 3 * k + 5 < _; omega, by have := r.un; show A.units + 3 + 16 * k + 200 < _; omega⟩
theorem make_depth {A : Around} {C : Addr} {us : List Value} {kw : List (Str × Value)} : (A.under (.builtin "type.__call__" ⟨.ref C :: us, kw⟩)).depth = A.depth + 1 := by
  first | rfl | simp [Around.under, Code.weight, Code.isCreation, Code.isGuard, Code.isCaller, Code.frames, Code.isFrame, guardIds]
theorem make_units {A : Around} {C : Addr} {us : List Value} {kw : List (Str × Value)} : (A.under (.builtin "type.__call__" ⟨.ref C :: us, kw⟩)).units = A.units + 1 := by
  first | rfl | simp [Around.under, Code.cUnits, Code.frames, Code.isFrame]
theorem Room.make {k : Nat} {A : Around} (r : Room (k + 1) A) (C : Addr) (us : List Value) (kw : List (Str × Value)) : Room k (A.under (.builtin "type.__call__" ⟨.ref C :: us, kw⟩)) :=
  ⟨r.hd, by have := r.dp; rw [make_depth]; omega, by have := r.un; rw [make_units]; omega⟩
theorem Room.depth {k : Nat} {A : Around} (r : Room k A) : A.depth < recursionLimit := by have := r.dp; omega
theorem Room.units {k : Nat} {A : Around} (r : Room k A) : A.units + 64 < cLine := by have := r.un; omega
noncomputable def tNil : TA := fun _ H Q => Q [] H
noncomputable def tCons (ta : TE) (tr : TA) : TA := fun σ H Q => ta σ H fun x H1 => tr σ H1 fun xs H2 => Q (x :: xs) H2
section
variable {X : Cx} {e : Expr} {es : List Expr} {te : TE} {t : TA} {pos : Pos}
theorem pa_nil : PA X [] tNil := fun _ _ _ _ H Q I h => Calls.spliced_nil ⟨[], H, I, .nil, h⟩
theorem pa_cons (ha : PE X e te) (hr : PA X es t) (hs : starEach (e :: es) X.env = (false, eval e X.env) :: starEach es X.env := by rfl) : PA X (e :: es) (tCons te t) := by
  intro pos pins s σ H Q I h
  rw [hs]
  show wpAny _ _ (spliced ((false, eval e X.env) :: backTo pos (starEach es X.env))) _ _ s
  refine Calls.spliced_cons (thn (ha pins s σ H _ I h) fun u s1 ⟨x, H1, I1, r1, q1⟩ => ?_)
  exact thn (hr pos pins s1 σ H1 _ I1 q1) fun us s2 ⟨xs, H2, I2, r2, q2⟩ => ⟨x :: xs, H2, I2, .cons r1 r2, q2⟩

noncomputable def tTup (t : TA) : TE := fun σ H Q => t σ H fun xs H1 => xs.length ≤ sizeLine ∧ ∀ p, H1 p = none → Q (.ref p) (upd H1 p (.tup xs))
noncomputable def tLst (t : TA) : TE := fun σ H Q => t σ H fun xs H1 => xs.length ≤ sizeLine ∧ ∀ p, H1 p = none → Q (.ref p) (upd H1 p (.lst xs))
theorem pe_tup {x1} (h : PA X es t) : PE X (.Tuple es x1 pos) (tTup t) := by
  intro pins s σ H Q I hq
  refine wpAny_Tuple_spliced (thn (h pos pins s σ H _ I hq) fun us s1 ⟨xs, H1, I1, r, z, q⟩ => ⟨by rw [← r.length]; exact z, ?_⟩)
  have hf : H1 s1.heap.objs.size = none := I1.hok.fresh (Nat.le_refl _)
  refine ⟨.ref s1.heap.objs.size, upd H1 s1.heap.objs.size (.tup xs), I1.laid (t' := s1.toks) (fun b u e => Heap.get?_push_of_some _ e) (Nat.le_refl _) ?_, rfl, q _ hf⟩
  exact ⟨z, us, r, ⟨_, Heap.get?_push_size _ rfl, rfl, _, rfl⟩⟩
theorem pe_lst (h : PA X es t) : PE X (.List es pos) (tLst t) := by
  intro pins s σ H Q I hq
  refine wpAny_List_spliced (thn (h pos pins s σ H _ I hq) fun us s1 ⟨xs, H1, I1, r, z, q⟩ => ⟨by rw [← r.length]; exact z, ?_⟩)
  have hf : H1 s1.heap.objs.size = none := I1.hok.fresh (Nat.le_refl _)
  refine ⟨.ref s1.heap.objs.size, upd H1 s1.heap.objs.size (.lst xs), I1.laid (t' := s1.toks) (fun b u e => Heap.get?_push_of_some _ e) (Nat.le_refl _) ?_, rfl, q _ hf⟩
  exact ⟨z, us, 0, r, Heap.get?_push_size _ rfl⟩
end

noncomputable abbrev Sp := List V → Hp → VK → XK → Prop
noncomputable abbrev CXT := List Env → Hp → Shared → XK → Value → Shared → Prop

set_option genInjectivity false in
structure Env0 (P : Program) (w : World) (K : PySem.W.Frag) (mg : Str → Option Value) (base : Heap) (A : Around) (outer : List Env) (s : Shared) (H : Hp) : Prop where
  frames : A.frames = some outer
  mod : Mod K mg base
  bs : ∀ b o, base.get? b = some o → s.heap.get? b = some o ∧ H b = none
  bsz : base.objs.size ≤ s.heap.objs.size
  funs : s.heap.FunFrames base outer
  frf : ∀ b ∈ frs outer, H b = none
  hok : HOk P w H s.heap
  bare : AllBare s.gens
noncomputable def CE (outer : List Env) (P : Program) (w : World) (H : Hp) (s : Shared) (Q : VK) (u : Value) (s' : Shared) : Prop :=
  ∃ v H', s'.os = s.os ∧ AllBare s'.gens ∧ Un (frs outer) [] H H' s.heap s'.heap ∧ HOk P w H' s'.heap ∧ RelV v u ∧ Q v H'
noncomputable def CR (CX : CXT) (outer : List Env) (P : Program) (w : World) (H : Hp) (s : Shared) (Q : VK) (E : XK) (r : Result) (s' : Shared) : Prop :=
  match r with
  | .ok (.ret u) => CE outer P w H s Q u s'
  | .ok _ => False
  | .error e => CX outer H s E e s'
set_option genInjectivity false in
structure FnOk (P : Program) (w : World) (K : PySem.W.Frag) (mg : Str → Option Value) (base : Heap) (CX : CXT) (k : Nat) (f : Addr) (fd : FuncData) (ps : List Str) (sp : Sp) : Prop where
  len : ∀ vs H Q E, sp vs H Q E → vs.length = ps.length
  run : ∀ (A : Around) (outer : List Env) (s : Shared) (H : Hp) (args : Args) (us : List Value) (vs : List V) (Q : VK) (E : XK), Room k A → Env0 P w K mg base A outer s H → BindsTo s fd args (ps.zip us) → Vals vs us → sp vs H Q E →
    codeAny (model P w) A (.call (.ref f) args) (CR CX outer P w H s Q E) s
theorem Env0.make {P : Program} {w : World} {K : PySem.W.Frag} {mg : Str → Option Value} {base : Heap} {A : Around} {outer : List Env} {s : Shared} {H : Hp} (e : Env0 P w K mg base A outer s H) (C : Addr) (us : List Value) (kw : List (Str × Value)) :
    Env0 P w K mg base (A.under (.builtin "type.__call__" ⟨.ref C :: us, kw⟩)) outer s H := ⟨by first | exact e.frames | (simpa [Around.under, Code.envs, Code.isFrame, pushEnvs] using e.frames), e.mod, e.bs, e.bsz, e.funs, e.frf, e.hok, e.bare⟩
section
variable {X : Cx} {pins : List (Addr × Obj)} {σ : St} {H : Hp} {s s' : Shared}
theorem Inv.env0 (I : Inv X pins σ H s) : Env0 X.prog X.w X.K X.mg X.base X.A X.stack s H :=
  ⟨I.ok.frames, I.ok.mod, I.bs, Nat.le_trans I.ok.bsz I.sz, I.stack, I.stkFree, I.hok, I.bare⟩
theorem Inv.after {Q : VK} {u : Value} (I : Inv X pins σ H s) (h : CE X.stack X.prog X.w H s Q u s') : EP X pins σ Q u s' := by
  obtain ⟨v, H', os, bare, un, hok, r, q⟩ := h
  obtain ⟨hh, g, d, t, os'⟩ := s'
  obtain rfl : os' = s.os := os
  exact ⟨v, H', I.call (h' := hh) (g' := g) (d' := d) (t' := t) (ch := []) un hok bare (fun b z => absurd z (by simp)), r, q⟩
end

noncomputable def tCall (sp : Sp) (dvs : List V) (E : XK) (t : TA) : TE := fun σ H Q => t σ H fun vs H1 => sp (vs ++ dvs) H1 Q E
noncomputable def tMake (C : Addr) (sp : Sp) (dvs : List V) (E : XK) (t : TA) : TE := fun σ H Q => t σ H fun vs H1 => ∀ x dx, H1 x = none → H1 dx = none → dx ≠ x →
  sp (.ref x :: (vs ++ dvs)) (upd (upd H1 dx (.own x)) x (.ins C dx [])) (fun v H2 => v = .non ∧ Q (.ref x) H2) E

noncomputable def Binds (K : PySem.W.Frag) (fd : FuncData) (ps : List Str) (ds : List Value) : Prop :=
  ∀ (s : Shared) (us : List Value), K.In s.heap → (us ++ ds).length = ps.length → BindsTo s fd ⟨us, []⟩ (ps.zip (us ++ ds))
theorem Binds.all {K : PySem.W.Frag} {fd : FuncData} {ps : List Str} (h : ∀ us : List Value, us.length = ps.length → bindArgs fd ⟨us, []⟩ = pure (ps.zip us)) : Binds K fd ps [] := fun s us _ hl => by
  rw [List.append_nil] at hl ⊢
  exact .of_eq (h us hl)

noncomputable def Passes (CX : CXT) (X : Cx) (E : XK) : Prop := ∀ (pins : List (Addr × Obj)) (σ : St) (H : Hp) (s : Shared) (e : Value) (s' : Shared), Inv X pins σ H s → CX X.stack H s E e s' → X.xe e s'

section
variable {X : Cx} {CX : CXT} {k : Nat} {f C : Addr} {fd : FuncData} {ps : List Str} {sp : Sp} {dvs : List V} {ds : List Value} {E : XK} {x m : Str} {p pos apos : Pos} {e o : Expr} {es : List Expr} {ta : TE} {t : TA}

theorem run_fn {pins : List (Addr × Obj)} {σ : St} {H : Hp} {s : Shared} {Q : VK} {us : List Value} {vs : List V} (F : FnOk X.prog X.w X.K X.mg X.base CX k f fd ps sp) (hr : Room k X.A) (hb : Binds X.K fd ps ds) (hd : Vals dvs ds) (hx : Passes CX X E)
    (I : Inv X pins σ H s) (r : Vals vs us) (h : sp (vs ++ dvs) H Q E) : wpAny (model X.prog X.w) X.A (call (.ref f) us) (EP X pins σ Q) X.xe s := by
  have r2 : Vals (vs ++ dvs) (us ++ ds) := r.append hd
  have hl : (us ++ ds).length = ps.length := by rw [← r2.length]; exact F.len _ _ _ _ h
  refine wpAny_call (codeAny_mono (F.run X.A X.stack s H ⟨us, []⟩ (us ++ ds) (vs ++ dvs) Q E hr I.env0 (hb s us I.kIn hl) r2 h) fun r s' hq => ?_)
  cases r with
  | error e => exact hx pins σ H s e s' I hq
  | ok fl =>
    cases fl with
    | ret u => exact I.after hq
    | next => exact False.elim hq
    | brk => exact False.elim hq
    | cont => exact False.elim hq

theorem pe_call (F : FnOk X.prog X.w X.K X.mg X.base CX k f fd ps sp) (hr : Room k X.A) (hg : Gl X x) (hm : X.mg x = some (.ref f)) (hk : PySem.W.keepIn X.K (.ref f) = true) (hb : Binds X.K fd ps ds) (hd : Vals dvs ds) (hx : Passes CX X E)
    (ha : PA X (e :: es) t) (hdb : (x == ("__debug__" : Str)) = false := by decide) (he : starEach (e :: es) X.env = (false, eval e X.env) :: starEach es X.env := by rfl) (hpl : (backTo pos (starEach es X.env)).any (·.1) = false := by rfl) :
    PE X (.Call (.Name x p) (e :: es) [] pos) (tCall sp dvs E t) := by
  intro pins s σ H Q I h
  refine wpAny_Call_Name_kw (ld_glob I hg hm ?_ hdb)
  refine PySem.W.callWith_K (h₀ := X.base) I.ok.mod.kin hk (thn (ha pos pins s σ H _ I h) fun us s1 ⟨vs, H1, I1, r, q⟩ => ⟨I1.kIn, ?_⟩) he hpl
  exact run_fn F hr hb hd hx I1 r q
set_option genInjectivity false in
structure Mk (K : PySem.W.Frag) (C f : Addr) : Prop where
  makes : PySem.W.makesIn K C = true
  init : PySem.W.findIn K (.ref C) "__init__" = some (some (.ref f))
  fn : PySem.W.isFn K (.ref f) = true
  kp : PySem.W.keepIn K (.ref C) = true

theorem run_make {pins : List (Addr × Obj)} {σ : St} {H : Hp} {s : Shared} {Q : VK} {us : List Value} {vs : List V} (M : Mk X.K C f) (F : FnOk X.prog X.w X.K X.mg X.base CX k f fd ps sp) (hr : Room (k + 1) X.A) (hb : Binds X.K fd ps ds) (hd : Vals dvs ds)
    (hx : Passes CX X E) (I : Inv X pins σ H s) (r : Vals vs us)
    (h : ∀ x dx, H x = none → H dx = none → dx ≠ x → sp (.ref x :: (vs ++ dvs)) (upd (upd H dx (.own x)) x (.ins C dx [])) (fun v H2 => v = .non ∧ Q (.ref x) H2) E) :
    wpAny (model X.prog X.w) X.A (call (.ref C) us) (EP X pins σ Q) X.xe s := by
  have hq := h (s.heap.objs.size + 1) s.heap.objs.size (I.hok.fresh (Nat.le_succ _)) (I.hok.fresh (Nat.le_refl _)) (Nat.ne_of_lt (Nat.lt_succ_self _))
  have I2 := Inv.made (C := C) I
  have r2 : Vals (V.ref (s.heap.objs.size + 1) :: (vs ++ dvs)) (Value.ref (s.heap.objs.size + 1) :: (us ++ ds)) := .cons rfl (r.append hd)
  have hl : (Value.ref (s.heap.objs.size + 1) :: us ++ ds).length = ps.length := by
    have e := r2.length
    rw [F.len _ _ _ _ hq] at e
    exact e.symm
  refine wpAny_call (make_map (f := f) I.kIn M.makes M.init (beq_iff_eq.mp M.fn) (codeAny_mono (F.run _ X.stack _ _ ⟨Value.ref (s.heap.objs.size + 1) :: us, []⟩ (Value.ref (s.heap.objs.size + 1) :: (us ++ ds)) _ _ E (hr.make C us [])
    (I2.env0.make C us []) (hb _ (Value.ref (s.heap.objs.size + 1) :: us) I2.kIn hl) r2 hq) fun r s' hq' => ?_))
  cases r with
  | error e => exact hx pins σ _ _ e s' I2 hq'
  | ok fl =>
    cases fl with
    | ret u =>
      obtain ⟨v, H', I3, rv, ev, q3⟩ := I2.after hq'
      subst ev
      exact ⟨rv, ⟨V.ref (s.heap.objs.size + 1), H', I3, rfl, q3⟩⟩
    | next => exact False.elim hq'
    | brk => exact False.elim hq'
    | cont => exact False.elim hq'
theorem pe_make (M : Mk X.K C f) (F : FnOk X.prog X.w X.K X.mg X.base CX k f fd ps sp) (hr : Room (k + 1) X.A) (hg : Gl X x) (hm : X.mg x = some (.ref C)) (hb : Binds X.K fd ps ds) (hd : Vals dvs ds) (hx : Passes CX X E)
    (ha : PA X (e :: es) t) (hdb : (x == ("__debug__" : Str)) = false := by decide) (he : starEach (e :: es) X.env = (false, eval e X.env) :: starEach es X.env := by rfl) (hpl : (backTo pos (starEach es X.env)).any (·.1) = false := by rfl) :
    PE X (.Call (.Name x p) (e :: es) [] pos) (tMake C sp dvs E t) := by
  intro pins s σ H Q I h
  refine wpAny_Call_Name_kw (ld_glob I hg hm ?_ hdb)
  refine PySem.W.callWith_K (h₀ := X.base) I.ok.mod.kin M.kp (thn (ha pos pins s σ H _ I h) fun us s1 ⟨vs, H1, I1, r, q⟩ => ⟨I1.kIn, ?_⟩) he hpl
  exact run_make M F hr hb hd hx I1 r q
end

section
variable {X : Cx} {CX : CXT} {k : Nat} {f C : Addr} {fd : FuncData} {ps ks : List Str} {sp : Sp} {E : XK} {x m : Str} {p pos apos kpos : Pos} {e o : Expr} {es : List Expr} {kws : List Keyword} {te ta : TE} {t tk : TA} {nm : Option Str}
variable {g : List Value → List Value → List Value} {gV : List V → List V → List V}
end

set_option genInjectivity false in
structure FnScope (N P : List Str) (sc : Scope) : Prop where
  kind : sc.kind = .function
  co : sc.isCoroutine = false
  gen : sc.isGenerator = false
  nd : N.Nodup
  pre : N.take P.length = P
  par : ∀ x ∈ P, sc.names.lookup x = some .local ∨ sc.names.lookup x = some .cell
  nofree : ∀ y ∈ sc.names, y.2 ≠ .free

theorem bindL_out {kindOf : Str → Option NameKind} {x : Str} : ∀ {binds : List (Str × Value)} {m : Str → Option Value}, (∀ v, (x, v) ∉ binds) → bindL kindOf binds m x = m x
  | [], _, _ => rfl
  | (n, v) :: r, m, h => by
    unfold bindL
    rw [bindL_out fun w hw => h w (List.mem_cons_of_mem _ hw)]
    split
    · have : x ≠ n := by rintro rfl; exact h v List.mem_cons_self
      simp [this]
    · rfl
theorem bindC_out {kindOf : Str → Option NameKind} {x : Str} : ∀ {binds : List (Str × Value)} {m : Str → Option Value}, (∀ v, (x, v) ∉ binds) → bindC kindOf binds m x = m x
  | [], _, _ => rfl
  | (n, v) :: r, m, h => by
    unfold bindC
    rw [bindC_out fun w hw => h w (List.mem_cons_of_mem _ hw)]
    split
    · rfl
    · have : x ≠ n := by rintro rfl; exact h v List.mem_cons_self
      simp [this]
theorem bindL_get {kindOf : Str → Option NameKind} {x : Str} {v : Value} : ∀ {P : List Str} {vs : List Value} {i : Nat} {m : Str → Option Value}, P.Nodup → P[i]? = some x → vs[i]? = some v → kindOf x = some .local →
    bindL kindOf (P.zip vs) m x = some v
  | [], _, _, _, _, h, _, _ => by simp at h
  | _ :: _, [], _, _, _, _, h, _ => by simp at h
  | p :: P, w :: vs, 0, m, nd, h1, h2, hk => by
    simp at h1 h2; subst h1; subst h2
    show bindL kindOf ((p, w) :: P.zip vs) m p = _
    unfold bindL
    rw [bindL_out fun v hv => (List.nodup_cons.mp nd).1 (List.of_mem_zip hv).1, if_pos hk]
    simp
  | p :: P, w :: vs, i + 1, m, nd, h1, h2, hk => by
    show bindL kindOf ((p, w) :: P.zip vs) m x = _
    unfold bindL
    exact bindL_get (i := i) (List.nodup_cons.mp nd).2 (by simpa using h1) (by simpa using h2) hk
theorem bindC_get {kindOf : Str → Option NameKind} {x : Str} {v : Value} : ∀ {P : List Str} {vs : List Value} {i : Nat} {m : Str → Option Value}, P.Nodup → P[i]? = some x → vs[i]? = some v → kindOf x ≠ some .local →
    bindC kindOf (P.zip vs) m x = some v
  | [], _, _, _, _, h, _, _ => by simp at h
  | _ :: _, [], _, _, _, _, h, _ => by simp at h
  | p :: P, w :: vs, 0, m, nd, h1, h2, hk => by
    simp at h1 h2; subst h1; subst h2
    show bindC kindOf ((p, w) :: P.zip vs) m p = _
    unfold bindC
    rw [bindC_out fun v hv => (List.nodup_cons.mp nd).1 (List.of_mem_zip hv).1, if_neg hk]
    simp
  | p :: P, w :: vs, i + 1, m, nd, h1, h2, hk => by
    show bindC kindOf ((p, w) :: P.zip vs) m x = _
    unfold bindC
    exact bindC_get (i := i) (List.nodup_cons.mp nd).2 (by simpa using h1) (by simpa using h2) hk

noncomputable def start (N : List Str) (vs : List V) : St := vs.map some ++ List.replicate (N.length - vs.length) none

noncomputable def cxOf (CX : CXT) (P : Program) (w : World) (K : PySem.W.Frag) (mg : Str → Option Value) (base : Heap) (N : List Str) (qual : Str) (scope : Scope) (f : Addr) (cd : Value) (A : Around) (outer : List Env) (s : Shared) (H : Hp) (E : XK) : Cx where
  prog := P
  w := w
  K := K
  mg := mg
  base := base
  A := A.deeper (envOfC qual scope s.heap.objs.size f cd)
  N := N
  s₀ := s
  H₀ := H
  env := envOfC qual scope s.heap.objs.size f cd
  outer := outer
  stack := envOfC qual scope s.heap.objs.size f cd :: outer
  ex := []
  calm := true
  fn := fun _ => true
  pn := []
  xe := fun e s' => wpAny (model P w) (A.deeper (envOfC qual scope s.heap.objs.size f cd)) (leaving (envOfC qual scope s.heap.objs.size f cd) e) (fun _ s'' => CX outer H s E e s'') (fun e' s'' => CX outer H s E e' s'') s'

theorem cell_has {sc : Scope} {n : Nat} {x : Str} (h : sc.names.lookup x = some .cell) : ∃ c, (cellsFrom n sc.names []).lookup x = some c := by
  have q := PySem.W.cellsFrom_some sc.names n [] (.inl h)
  exact Option.isSome_iff_exists.mp q

theorem inv_start {CX : CXT} {P : Program} {w : World} {K : PySem.W.Frag} {mg : Str → Option Value} {base : Heap} {N ps : List Str} {qual : Str} {scope : Scope} {f : Addr} {cd : Value} {A : Around} {outer : List Env} {s s1 : Shared} {H : Hp} {E : XK} {us : List Value} {vs : List V}
    (S : FnScope N ps scope) (hd : A.handled = none) (e0 : Env0 P w K mg base A outer s H) (hl : vs.length = ps.length) (r : Vals vs us)
    (x : InCallC s s.heap.objs.size (bindL (envOfC qual scope s.heap.objs.size f cd).kindOf (ps.zip us) fun _ => none) (cellsFrom (s.heap.objs.size + 1) scope.names []) (bindC (envOfC qual scope s.heap.objs.size f cd).kindOf (ps.zip us) fun _ => none) s1) :
    Inv (cxOf CX P w K mg base N qual scope f cd A outer s H E) [] (start N vs) H s1 := by
  have hpl : ps.length ≤ N.length := by have := congrArg List.length S.pre; rw [List.length_take] at this; omega
  obtain ⟨h1, tk, rfl, hk⟩ := x.done
  have noA : ∀ b : Addr, b ∉ (cxOf CX P w K mg base N qual scope f cd A outer s H E).ex := fun b z => absurd (show b ∈ ([] : List Addr) from z) (by simp)
  refine ⟨⟨e0.mod, S.kind, rfl, rfl, Nat.le_refl _, fun y z c h1 h2 => ?_, fun y hy => ?_, fun y c _ h => ?_, fun _ => hd, Around.frames_deeper e0.frames, .inr ⟨rfl, rfl⟩, fun b z => absurd z (noA b), e0.bs, e0.bsz, fun b _ _ => noA b, fun b z => absurd z (noA b), e0.funs, e0.frf⟩,
    rfl, e0.bare, Un.kept hk, ⟨_, x.toInCall.ns, fun i y v h1 h2 h3 => ?_⟩, fun y c h => ⟨_, x.cell y c h⟩, e0.hok.fresh (Nat.le_refl _), fun y c h => ?_, fun p hp => absurd (show p ∈ ([] : List (Addr × Obj)) from hp) (by simp), e0.hok.kept hk, ?_⟩
  · exact name_of_addr x.apart (PySem.mem_of_lookup h1) (PySem.mem_of_lookup h2)
  · have hy : scope.names.lookup y = some .cell ∨ scope.names.lookup y = some .free := hy
    rcases hy with hy | hy
    · exact cell_has hy
    · exact absurd rfl (S.nofree _ (PySem.mem_of_lookup hy))
  · exact Nat.le_of_lt (x.above y c (PySem.mem_of_lookup h))
  · have hi : i < vs.length := by
      unfold start at h2
      by_cases hi : i < vs.length
      · exact hi
      · rw [List.getElem?_append_right (by simpa using hi)] at h2
        rw [List.getElem?_replicate] at h2
        split at h2 <;> cases h2
    have ha : vs[i]? = some v := by
      unfold start at h2
      rw [List.getElem?_append_left (by simpa using hi), List.getElem?_map] at h2
      cases e : vs[i]? with
      | none => rw [e] at h2; cases h2
      | some a => rw [e] at h2; cases h2; rfl
    obtain ⟨u, hu, rv⟩ := r.get ha
    have hp : ps[i]? = some y := by
      rw [← S.pre, List.getElem?_take_of_lt (by omega)]; exact h1
    have ndP : ps.Nodup := by rw [← S.pre]; exact S.nd.sublist (List.take_sublist _ _)
    refine ⟨u, rv, ?_⟩
    rcases S.par y (List.mem_of_getElem? hp) with k | k
    · exact .inl ⟨k, bindL_get ndP hp hu k⟩
    · obtain ⟨c, e⟩ := cell_has (n := s.heap.objs.size + 1) k
      refine .inr ⟨.inl k, c, e, ?_⟩
      have q := x.cell y c e
      rw [bindC_get ndP hp hu (by show scope.names.lookup y ≠ _; rw [k]; decide)] at q
      exact q
  · exact e0.hok.fresh (Nat.le_of_lt (x.above y c (PySem.mem_of_lookup h)))
  · unfold start
    show _ = N.length
    rw [List.length_append, List.length_map, List.length_replicate]
    omega

theorem fn_of {CX : CXT} {P : Program} {w : World} {K : PySem.W.Frag} {mg : Str → Option Value} {base : Heap} {k : Nat} {f : Addr} {name qual : Str} {params : Arguments} {body : List Stmt} {scope : Scope} {dV kV doc pm cdv ct oc : Value} {an od : Option Addr}
    {osl : Array (Option Value)} {N ps : List Str} {sp : Sp} (lk : K.lookup f = some ⟨oc, od, .func (PySem.W.fnOf name qual params body scope dV kV doc pm an cdv ct), osl⟩) (hcd : PySem.W.codeIn K cdv qual = true) (S : FnScope N ps scope)
    (len : ∀ vs H Q E, sp vs H Q E → vs.length = ps.length)
    (hbody : ∀ (A : Around) (outer : List Env) (s : Shared) (H : Hp) (vs : List V) (Q : VK) (E : XK), Room k (A.deeper (envOfC qual scope s.heap.objs.size f cdv)) → sp vs H Q E →
      ∃ t, PSs (cxOf CX P w K mg base N qual scope f cdv A outer s H E) body t ∧ t { nx := fun _ H' => Q .non H', rt := Q } (start N vs) H) :
    FnOk P w K mg base CX (k + 1) f (PySem.W.fnOf name qual params body scope dV kV doc pm an cdv ct) ps sp := by
  refine ⟨len, fun A outer s H args us vs Q E hr e0 hb r hsp => ?_⟩
  have hl := len _ _ _ _ hsp
  have KX : K.In s.heap := e0.mod.kin.keeps fun b o e => (e0.bs b o e).1
  have lim : s.heap.NoLimit := e0.mod.nolimit.keeps fun b o e => (e0.bs b o e).1
  have hkind : ∀ y ∈ ps.zip us, scope.names.lookup y.1 = some .local ∨ (scope.names.lookup y.1 = some .cell ∧ ((cellsFrom (s.heap.objs.size + 1) scope.names []).lookup y.1).isSome = true) := fun ⟨n, v⟩ hy => by
    rcases S.par n (List.of_mem_zip hy).1 with q | q
    · exact .inl q
    · exact .inr ⟨q, PySem.W.cellsFrom_some _ _ _ (.inl q)⟩
  refine codeAny_call_function hr.depth (KX _ _ lk) rfl S.co S.gen rfl (PySem.W.codeRec_of KX hcd) (hb _ _ _ _ ?_)
  refine wpAny_newFunctionEnv_cells S.kind hkind fun env he s1 x => ?_
  subst he
  refine ⟨lim.keeps x.toInCall.keep, codeAny_func ?_⟩
  obtain ⟨t, ht, hq⟩ := hbody A outer s H vs Q E (hr.deeper _) hsp
  have I : Inv (cxOf CX P w K mg base N qual scope f cdv A outer s H E) [] (start N vs) H s1 := inv_start S hr.hd e0 hl r x
  refine wpAny_mono (ht [] s1 (start N vs) H _ I hq) (fun fl s' hs => ?_) fun e s' hs => hs
  have fin : ∀ {σ' : St} {H' : Hp} {v : V} {u : Value}, Inv (cxOf CX P w K mg base N qual scope f cdv A outer s H E) [] σ' H' s' → RelV v u → Q v H' → CE outer P w H s Q u s' :=
    fun {σ' H' v u} J rv q => ⟨v, H', J.os, J.bare, J.base, J.hok, rv, q⟩
  cases fl with
  | ret u =>
    obtain ⟨v, σ', H', J, rv, q⟩ := hs
    exact fin J rv q
  | next =>
    obtain ⟨σ', H', J, q⟩ := hs
    exact fin (v := V.non) (u := Value.none) J rfl q
  | brk =>
    obtain ⟨_, _, _, q⟩ := hs
    exact False.elim q
  | cont =>
    obtain ⟨_, _, _, q⟩ := hs
    exact False.elim q
end L2

namespace L2
open PySem PySem.Spec PyProof.Rows
section
variable {X : Cx} {x : Str} {p pos : Pos} {e : Expr} {es : List Expr} {t : TA} {id T : String} {r : List V → Hp → VK → Prop}

noncomputable def tCB (r : List V → Hp → VK → Prop) (t : TA) : TE := fun σ H Q => t σ H fun vs H1 => r vs H1 Q
theorem pe_callB (hc : CallR X (.builtin id) r) (hg : Gl X x) (hm : X.mg x = none) (hv : bootBuiltins x = some (.builtin id)) (ha : PA X (e :: es) t) (hn : x ≠ "__name__" := by decide) (hdb : (x == ("__debug__" : Str)) = false := by decide)
    (he : starEach (e :: es) X.env = (false, eval e X.env) :: starEach es X.env := by rfl) (hpl : (backTo pos (starEach es X.env)).any (·.1) = false := by rfl) : PE X (.Call (.Name x p) (e :: es) [] pos) (tCB r t) := by
  intro pins s σ H Q I h
  refine wpAny_Call_Name_kw (ld_blt I hg hm hv ?_ hn hdb)
  exact PyProof.Rows.callWith_builtin1 (thn (ha pos pins s σ H _ I h) fun us s1 ⟨vs, H1, I1, r1, q1⟩ => hc pins s1 σ H1 vs us Q I1 r1 q1) he hpl
theorem pe_callTy (hc : CallR X (.type T) r) (hg : Gl X x) (hm : X.mg x = none) (hv : bootBuiltins x = some (.type T)) (ha : PA X (e :: es) t) (hn : x ≠ "__name__" := by decide) (hdb : (x == ("__debug__" : Str)) = false := by decide)
    (he : starEach (e :: es) X.env = (false, eval e X.env) :: starEach es X.env := by rfl) (hpl : (backTo pos (starEach es X.env)).any (·.1) = false := by rfl) : PE X (.Call (.Name x p) (e :: es) [] pos) (tCB r t) := by
  intro pins s σ H Q I h
  refine wpAny_Call_Name_kw (ld_blt I hg hm hv ?_ hn hdb)
  exact PyProof.Rows.callWith_type1 (thn (ha pos pins s σ H _ I h) fun us s1 ⟨vs, H1, I1, r1, q1⟩ => hc pins s1 σ H1 vs us Q I1 r1 q1) he hpl
end
end L2

namespace HT
open PySem PyProof.Rows

section
open PySem.SeqAt
open PySem.AutoSeq1 (wpAny_loadPart')
open PySem.MeetsSeq PySem.MeetsSeq2 PySem.MeetsSeq3

end

section
variable {prog : Program} {w : World} {A : Around} {E : Value → Shared → Prop} {s : Shared}

noncomputable def sIx (n d : Nat) : Option Int → Nat
  | none => d
  | some v => if v < 0 then (v + (n : Int)).toNat else min v.toNat n
theorem sIx_none (n d : Nat) : sIx n d none = d := rfl
theorem sIx_nat (n d k : Nat) : sIx n d (some (k : Int)) = min k n := by
  show (if (k : Int) < 0 then ((k : Int) + (n : Int)).toNat else min (k : Int).toNat n) = min k n
  rw [if_neg (by omega), Int.toNat_natCast]
theorem sIx_le (n d : Nat) (hd : d ≤ n) (o : Option Int) : sIx n d o ≤ n := by
  cases o with
  | none => exact hd
  | some v =>
    show (if v < 0 then (v + (n : Int)).toNat else min v.toNat n) ≤ n
    by_cases hv : v < 0
    · rw [if_pos hv]; omega
    · rw [if_neg hv]; exact Nat.min_le_right _ _
end
end HT

namespace L2
open PySem PySem.Spec PyProof.Rows

noncomputable abbrev TO := St → Hp → (Option Int → Hp → Prop) → Prop
noncomputable def PO (X : Cx) (e : Option Expr) (t : TO) : Prop :=
  ∀ (pins : List (Addr × Obj)) (s : Shared) (σ : St) (H : Hp) (Q : Option Int → Hp → Prop), Inv X pins σ H s → t σ H Q →
    wpAny (model X.prog X.w) X.A (evalPart e X.env) (fun u s' => ∃ o H', Inv X pins σ H' s' ∧ IsPart u o ∧ Q o H') X.xe s
noncomputable def tNoPart : TO := fun _ H Q => Q none H
noncomputable def tPart (t : TE) : TO := fun σ H Q => t σ H fun x H1 => ∃ i, x = .int i ∧ Q (some i) H1

theorem intsAre_of {ns : List Int} : ∀ {us : List Value}, Vals (ns.map V.int) us → IntsAre us ns := by
  induction ns with
  | nil => intro us r; rw [List.map_nil] at r; cases r; exact .nil
  | cons n ns ih =>
    intro us r
    rw [List.map_cons] at r
    cases r with
    | cons r1 r2 =>
      obtain ⟨t, e⟩ := r1
      subst e
      exact .cons n t (ih r2)

section
variable {X : Cx} {e : Expr} {te : TE} {lo hi : Option Expr} {tl th : TO} {pos p2 : Pos}

theorem po_none : PO X none tNoPart := by
  intro pins s σ H Q I h
  rw [evalPart_none]
  exact wpAny_pure ⟨none, H, I, .none, h⟩
theorem po_some (h : PE X e te) : PO X (some e) (tPart te) := by
  intro pins s σ H Q I hw
  rw [evalPart_some]
  refine thn (h pins s σ H _ I hw) fun u s1 ⟨x, H1, I1, r1, q1⟩ => ?_
  obtain ⟨i, rfl, q⟩ := q1
  obtain ⟨t, rfl⟩ := r1
  exact ⟨some i, H1, I1, .int i t, q⟩

noncomputable def SlR (X : Cx) (r : V → Option Int → Option Int → Hp → VK → Prop) : Prop :=
  ∀ (pins : List (Addr × Obj)) (s : Shared) (σ : St) (H : Hp) (x : V) (v vl vu : Value) (lo hi : Option Int) (sl : Addr) (Q : VK), Inv X pins σ H s → RelV x v → s.heap.IsSliceOf sl vl vu .none → IsPart vl lo → IsPart vu hi → r x lo hi H Q →
    ∃ T id, typeLookup (.type T) "__getitem__" = pure (some (.builtin id)) ∧ s.TypeIs v T ∧ wpAny (model X.prog X.w) X.A (getItem v (.ref sl)) (EP X pins σ Q) X.xe s
noncomputable def tSl (r : V → Option Int → Option Int → Hp → VK → Prop) (te : TE) (tl th : TO) : TE := fun σ H Q => te σ H fun x H1 => tl σ H1 fun l H2 => th σ H2 fun u H3 => r x l u H3 Q
theorem pe_slice {r : V → Option Int → Option Int → Hp → VK → Prop} (hr : SlR X r) (he : PE X e te) (hl : PO X lo tl) (hu : PO X hi th) : PE X (.Subscript e (.Slice lo hi none p2) pos) (tSl r te tl th) := by
  intro pins s σ H Q I h
  refine Subscript_ (thn (he pins s σ H _ I h) fun v s1 ⟨x, H1, I1, r1, q1⟩ => ?_)
  refine wpAny_Slice (thn (hl pins s1 σ H1 _ I1 q1) fun vl s2 ⟨l, H2, I2, pl, q2⟩ => thn (hu pins s2 σ H2 _ I2 q2) fun vu s3 ⟨u, H3, I3, pu, q3⟩ => ?_)
  rw [evalPart_none]
  refine wpAny_pure ?_
  have I4 : Inv X pins σ H3 { s3 with heap := s3.heap.push { cls := .type "slice", data := .fields #[vl, vu, .none] } } := I3.kept (t' := s3.toks) fun b ob q => Heap.get?_push_of_some _ q
  obtain ⟨T, id, hT, ht, hg⟩ := hr pins { s3 with heap := s3.heap.push { cls := .type "slice", data := .fields #[vl, vu, .none] } } σ H3 x v vl vu l u s3.heap.objs.size Q I4 r1 (Heap.IsSliceOf.new ..) pl pu q3
  show wpAny (model X.prog X.w) X.A (subscriptTail e (.Slice lo hi none p2) v (.ref s3.heap.objs.size)) (EP X pins σ Q) X.xe { s3 with heap := s3.heap.push { cls := .type "slice", data := .fields #[vl, vu, .none] } }
  exact tail_any (ops := [.ref s3.heap.objs.size, v]) ht hT hg (by with_unfolding_all rfl)

noncomputable def cutV (xs : List V) (lo hi : Option Int) : List V := (xs.drop (HT.sIx xs.length 0 lo)).take (HT.sIx xs.length xs.length hi - HT.sIx xs.length 0 lo)
theorem cutV_length (xs : List V) (lo hi : Option Int) : (cutV xs lo hi).length ≤ xs.length := by
  unfold cutV
  rw [List.length_take, List.length_drop]
  omega
end
end L2

namespace L2
open PySem PySem.Spec PyProof.Rows

noncomputable def ixN (n : Nat) (i : Int) : Option Nat := if 0 ≤ i then (if i < n then some i.toNat else none) else if -(n : Int) ≤ i then some (i + n).toNat else none
noncomputable def atI {α : Type} (xs : List α) (i : Int) : Option α := (ixN xs.length i).bind fun j => xs[j]?
theorem ixN_seq {n : Nat} {i : Int} {j : Nat} (h : ixN n i = some j) : seqIndex? i n = some j ∧ j < n ∧ -(n : Int) ≤ i ∧ i < n := by
  unfold ixN at h
  by_cases h0 : 0 ≤ i
  · rw [if_pos h0] at h
    by_cases h1 : i < n
    · rw [if_pos h1] at h
      have e : i.toNat = j := Option.some.inj h
      exact ⟨by rw [seqIndex_of h0 h1, e], by omega, by omega, h1⟩
    · rw [if_neg h1] at h; cases h
  · rw [if_neg h0] at h
    by_cases h1 : -(n : Int) ≤ i
    · rw [if_pos h1] at h
      have e : (i + n).toNat = j := Option.some.inj h
      exact ⟨by rw [seqIndex_neg (by omega) h1, e], by omega, h1, by omega⟩
    · rw [if_neg h1] at h; cases h
theorem atI_get {α : Type} {xs : List α} {i : Int} {v : α} (h : atI xs i = some v) : ∃ j, seqIndex? i xs.length = some j ∧ xs[j]? = some v ∧ j < xs.length ∧ -(xs.length : Int) ≤ i ∧ i < xs.length := by
  unfold atI at h
  cases e : ixN xs.length i with
  | none => rw [e] at h; cases h
  | some j =>
    rw [e] at h
    obtain ⟨h1, h2, h3, h4⟩ := ixN_seq e
    exact ⟨j, h1, h, h2, h3, h4⟩
theorem atI_nat {α : Type} {xs : List α} {j : Nat} {v : α} (h : xs[j]? = some v) : atI xs (j : Int) = some v := by
  have hj : j < xs.length := (List.getElem?_eq_some_iff.mp h).1
  have e : ixN xs.length (j : Int) = some j := by
    unfold ixN
    rw [if_pos (by omega), if_pos (by omega)]; simp
  unfold atI; rw [e]; exact h
noncomputable def PlainIx (b : Expr) : Prop := ∀ o i, subscripted b false o i = operate [o, i] (getItem o i)
noncomputable def IxR (X : Cx) (r : R2) : Prop :=
  ∀ (value slice : Expr) (pins : List (Addr × Obj)) (s : Shared) (σ : St) (H : Hp) (x y : V) (v u : Value) (Q : VK), Inv X pins σ H s → RelV x v → RelV y u → r x y H Q →
    subscripted slice false v u = operate [v, u] (getItem v u) → wpAny (model X.prog X.w) X.A (subscriptTail value slice v u) (EP X pins σ Q) X.xe s
noncomputable def MtR (X : Cx) (id : String) (r : V → List V → Hp → VK → Prop) : Prop :=
  ∀ (pins : List (Addr × Obj)) (s : Shared) (σ : St) (H : Hp) (x : V) (xs : List V) (v : Value) (us : List Value) (Q : VK), Inv X pins σ H s → RelV x v → Vals xs us → r x xs H Q →
    wpAny (model X.prog X.w) X.A (call (.builtin id) (v :: us)) (EP X pins σ Q) X.xe s
section
variable {X : Cx} {a b : Expr} {ta tb : TE} {pos : Pos}
theorem pe_ix {r : R2} (hr : IxR X r) (ha : PE X a ta) (hb : PE X b tb) (hs : PlainIx b) : PE X (.Subscript a b pos) (tOp r ta tb) := by
  intro pins s σ H Q I h
  exact Subscript_ (binT ha hb I h fun v u s2 x y H2 I2 rx ry q => hr a b pins s2 σ H2 x y v u Q I2 rx ry q (hs _ _))

noncomputable def rIxL (K : PySem.W.Frag) : R2 := fun x y H Q => ∃ p xs i v, x = .ref p ∧ y = .int i ∧ SqL K H p xs ∧ atI xs i = some v ∧ Q v H
noncomputable def rIxT (K : PySem.W.Frag) : R2 := fun x y H Q => ∃ p xs i v, x = .ref p ∧ y = .int i ∧ SqT K H p xs ∧ atI xs i = some v ∧ Q v H
noncomputable def rIxS : R2 := fun x y H Q => ∃ z i c, x = .str z ∧ y = .int i ∧ z.length ≤ sizeLine ∧ atI z.cps.toList i = some c ∧ Q (.str ⟨#[c]⟩) H
theorem ix_list : IxR X (rIxL X.K) := by
  intro value slice pins s σ H x y v u Q I rx ry h hs
  obtain ⟨p, xs, i, z, rfl, rfl, hq, he, q⟩ := h
  cases rx
  obtain ⟨t, rfl⟩ := ry
  obtain ⟨its, r, pl, hz⟩ := I.list hq
  obtain ⟨j, h1, h2, h3, h4, h5⟩ := atI_get he
  obtain ⟨w, ew, rw'⟩ := r.get h2
  have hl := r.length
  have hn := line63
  have fin : EP X pins σ Q w s := ⟨z, H, I, rw', q⟩
  by_cases h0 : 0 ≤ i
  · have hj : i.toNat = j := by
      rw [seqIndex_of h0 h5] at h1
      exact Option.some.inj h1
    exact item_listR pl.isList h0 (by omega) (by rw [hj]; simpa using ew) fin hs
  · have hj : (i + (its.toArray.size : Int)).toNat = j := by
      rw [seqIndex_neg (by omega) h4] at h1
      rw [List.size_toArray, ← hl]
      exact Option.some.inj h1
    exact subscriptTail_builtinR (x := w) pl.isList.typeIs slot_list_getitem.lookup
      (wpAny_getItem_list_neg (Q := fun r s' => r = w ∧ EP X pins σ Q r s') pl.isList (by omega) (by rw [List.size_toArray] <;> omega) (by omega) (by rw [hj]; simpa using ew) ⟨rfl, fin⟩) hs
theorem ix_tup : IxR X (rIxT X.K) := by
  intro value slice pins s σ H x y v u Q I rx ry h hs
  obtain ⟨p, xs, i, z, rfl, rfl, hq, he, q⟩ := h
  cases rx
  obtain ⟨t, rfl⟩ := ry
  obtain ⟨its, r, pl, hz⟩ := I.tuple hq
  obtain ⟨j, h1, h2, h3, h4, h5⟩ := atI_get he
  obtain ⟨w, ew, rw'⟩ := r.get h2
  have hl := r.length
  have hn := line63
  have fin : EP X pins σ Q w s := ⟨z, H, I, rw', q⟩
  exact subscriptTail_builtinR (x := w) pl.typeIs slot_tuple_getitem.lookup
    (getItem_tuple (j := j) (Q := fun r s' => r = w ∧ EP X pins σ Q r s') pl (by omega) (by omega) (by rw [List.size_toArray, ← hl]; exact h1) (by simpa using ew) ⟨rfl, fin⟩) hs
theorem ix_str : IxR X rIxS := by
  intro value slice pins s σ H x y v u Q I rx ry h hs
  obtain ⟨z, i, c, rfl, rfl, hz, he, q⟩ := h
  obtain ⟨t, rfl⟩ := rx
  obtain ⟨t', rfl⟩ := ry
  obtain ⟨j, h1, h2, h3, h4, h5⟩ := atI_get he
  have hl : z.cps.toList.length = z.length := by simp [Str.length]
  rw [hl] at h1 h4 h5
  have hn := line63
  exact tail_any (typeIs_str s z t) slot_str_getitem.lookup (getItem_str (c := c) (by
    have e1 : decide (i < -(2 ^ 63 : Int)) = false := decide_eq_false (by omega)
    have e2 : decide (i ≥ 2 ^ 63) = false := decide_eq_false (by omega)
    rw [e1, e2, Bool.or_false]) (by rw [h1]; simpa using h2) ⟨.str ⟨#[c]⟩, H, I.tok _, ⟨_, rfl⟩, q⟩) hs
theorem slice_bounds (lo hi : Option Int) (n : Nat) : (sliceBounds lo hi none n).1 = ((HT.sIx n 0 lo : Nat) : Int) ∧ (sliceBounds lo hi none n).2.1 = ((HT.sIx n n hi : Nat) : Int) ∧ (sliceBounds lo hi none n).2.2 = 1 := by
  refine ⟨?_, ?_, rfl⟩
  · cases lo with
    | none => simp [sliceBounds, HT.sIx]
    | some i =>
      simp only [sliceBounds, HT.sIx, Option.getD_none, show (1 : Int) > 0 by decide, if_true]
      by_cases h : i < 0
      · simp only [h, if_true] <;> omega
      · simp only [h, if_false] <;> omega
  · cases hi with
    | none => simp [sliceBounds, HT.sIx]
    | some i =>
      simp only [sliceBounds, HT.sIx, Option.getD_none, show (1 : Int) > 0 by decide, if_true]
      by_cases h : i < 0
      · simp only [h, if_true] <;> omega
      · simp only [h, if_false] <;> omega
theorem slicePick_cut (its : List Value) (lo hi : Option Int) : slicePick its.toArray lo hi none = ((its.drop (HT.sIx its.length 0 lo)).take (HT.sIx its.length its.length hi - HT.sIx its.length 0 lo)).toArray := by
  obtain ⟨h1, h2, h3⟩ := slice_bounds lo hi its.toArray.size
  unfold slicePick
  rw [h1, h2, h3]
  simp only [sliceRange_one, pick_run, List.size_toArray] <;> rfl
noncomputable def rSlL (K : PySem.W.Frag) : V → Option Int → Option Int → Hp → VK → Prop := fun x lo hi H Q => ∃ a xs, x = .ref a ∧ SqL K H a xs ∧ ∀ p, H p = none → Q (.ref p) (upd H p (.lst (cutV xs lo hi)))
theorem sl_list : SlR X (rSlL X.K) := by
  intro pins s σ H x v vl vu lo hi sl Q I rx hs pl pu h
  obtain ⟨a, xs, rfl, hx, q⟩ := h
  cases rx
  obtain ⟨its, r, ht, hz⟩ := I.list hx
  have hlen := r.length
  refine ⟨"list", _, slot_list_getitem.lookup, ht.isList.typeIs, ?_⟩
  refine wpAny_getItem_list_slice ht.isList hs pl pu .none (by simp) ?_ (by rw [List.size_toArray] <;> omega)
  rw [slicePick_cut, ← hlen]
  refine ⟨.ref s.heap.objs.size, _, I.laid (t' := s.toks) (o := .lst (cutV xs lo hi)) (fun b ob q => Heap.get?_push_of_some _ q) (Nat.le_refl _) ?_, rfl, q _ (I.hok.fresh (Nat.le_refl _))⟩
  exact ⟨Nat.le_trans (cutV_length xs lo hi) hz, _, 0, (r.drop (HT.sIx xs.length 0 lo)).take (HT.sIx xs.length xs.length hi - HT.sIx xs.length 0 lo), Heap.get?_push_size _ rfl⟩

noncomputable def flatV : V → Bool
  | .non => true
  | .bl _ => true
  | .int _ => true
  | .str _ => true
  | _ => false
noncomputable def eqV : V → V → Bool
  | .non, .non => true
  | .bl a, .bl b => a == b
  | .bl a, .int b => (if a then 1 else 0) == b
  | .int a, .bl b => a == (if b then 1 else 0)
  | .int a, .int b => a == b
  | .str a, .str b => a == b
  | _, _ => false
theorem eqAt_V {A : Around} {s : Shared} {y x : V} {u v : Value} (ry : RelV y u) (rx : RelV x v) (fy : flatV y = true) (fx : flatV x = true) : SeqAt.EqAt A s u v (eqV y x) := by
  cases y with
  | non =>
    cases ry
    cases x with
    | non => cases rx; exact SeqAt.EqAt.same _
    | bl b => cases rx; exact SeqAt.EqAt.none_bool b
    | int b => obtain ⟨t, rfl⟩ := rx; exact SeqAt.EqAt.none_int b t
    | str b => obtain ⟨t, rfl⟩ := rx; exact SeqAt.EqAt.none_str b t
    | _ => exact absurd (show false = true from fx) Bool.false_ne_true
  | bl a =>
    cases ry
    cases x with
    | non => cases rx; exact SeqAt.EqAt.bool_none a
    | bl b => cases rx; exact SeqAt.EqAt.bool_bool a b
    | int b => obtain ⟨t, rfl⟩ := rx; exact SeqAt.EqAt.bool_int a b t
    | str b => obtain ⟨t, rfl⟩ := rx; exact SeqAt.EqAt.bool_str a b t
    | _ => exact absurd (show false = true from fx) Bool.false_ne_true
  | int a =>
    obtain ⟨t', rfl⟩ := ry
    cases x with
    | non => cases rx; exact SeqAt.EqAt.int_none a t'
    | bl b => cases rx; exact SeqAt.EqAt.int_bool a t' b
    | int b => obtain ⟨t, rfl⟩ := rx; exact SeqAt.EqAt.int_int a t' b t
    | str b => obtain ⟨t, rfl⟩ := rx; exact SeqAt.EqAt.int_str a t' b t
    | _ => exact absurd (show false = true from fx) Bool.false_ne_true
  | str a =>
    obtain ⟨t', rfl⟩ := ry
    cases x with
    | non => cases rx; exact SeqAt.EqAt.str_none a t'
    | bl b => cases rx; exact SeqAt.EqAt.str_bool a t' b
    | int b => obtain ⟨t, rfl⟩ := rx; exact SeqAt.EqAt.str_int a t' b t
    | str b => obtain ⟨t, rfl⟩ := rx; exact SeqAt.EqAt.str_str a t' b t
    | _ => exact absurd (show false = true from fx) Bool.false_ne_true
  | _ => exact absurd (show false = true from fy) Bool.false_ne_true
noncomputable def eqU (x : V) (u : Value) : Bool := match u with
  | .none => eqV .non x
  | .bool b => eqV (.bl b) x
  | .int i _ => eqV (.int i) x
  | .str z _ => eqV (.str z) x
  | _ => false
theorem eqU_of {x y : V} {u : Value} (r : RelV y u) (f : flatV y = true) : eqU x u = eqV y x := by
  cases y with
  | non => cases r; rfl
  | bl b => cases r; rfl
  | int i => obtain ⟨t, rfl⟩ := r; rfl
  | str z => obtain ⟨t, rfl⟩ := r; rfl
  | _ => exact absurd (show false = true from f) Bool.false_ne_true
theorem any_eqU {x : V} : ∀ {xs : List V} {us : List Value}, Vals xs us → xs.all flatV = true → us.any (eqU x) = xs.any fun y => eqV y x
  | _, _, .nil, _ => rfl
  | y :: xs, u :: us, .cons r t, f => by
    rw [List.all_cons, Bool.and_eq_true] at f
    rw [List.any_cons, List.any_cons, eqU_of r f.1, any_eqU t f.2]
theorem mem_eqAt {A : Around} {s : Shared} {x : V} {v : Value} (rx : RelV x v) (fx : flatV x = true) : ∀ {xs : List V} {us : List Value}, Vals xs us → xs.all flatV = true → ∀ u ∈ us, SeqAt.EqAt A s u v (eqU x u)
  | _, _, .nil, _ => fun u hu => by cases hu
  | y :: xs, u :: us, .cons r t, f => fun u' hu => by
    rw [List.all_cons, Bool.and_eq_true] at f
    rcases List.mem_cons.mp hu with rfl | hu
    · rw [eqU_of r f.1]; exact eqAt_V r rx f.1 fx
    · exact mem_eqAt rx fx t f.2 u' hu
noncomputable def inV (x : V) (xs : List V) : Bool := xs.any fun y => eqV y x
noncomputable def rIn (K : PySem.W.Frag) (neg : Bool) : R2 := fun x y H Q => ∃ p xs, y = .ref p ∧ (SqL K H p xs ∨ SqT K H p xs) ∧ flatV x = true ∧ xs.all flatV = true ∧ Q (.bl (if neg then !inV x xs else inV x xs)) H
theorem op_in_seq : OpR X (compareOp .In) (rIn X.K false) := by
  intro pins s σ H x y v u Q I rx ry h
  obtain ⟨p, xs, rfl, hq, fx, fs, q⟩ := h
  cases ry
  rcases hq with hq | hq
  · obtain ⟨its, r, pl, hz⟩ := I.list hq
    refine SeqAt.in_listAt (eqU x) pl.isList (fun w hw => mem_eqAt rx fx r fs w (by simpa using hw)) ⟨.bl _, H, I, rfl, ?_⟩
    rw [show its.toArray.any (eqU x) = its.any (eqU x) by simp, any_eqU r fs]
    exact q
  · obtain ⟨its, r, pl, hz⟩ := I.tuple hq
    refine SeqAt.in_tupleAt (eqU x) pl (fun w hw => mem_eqAt rx fx r fs w (by simpa using hw)) ⟨.bl _, H, I, rfl, ?_⟩
    rw [show its.toArray.any (eqU x) = its.any (eqU x) by simp, any_eqU r fs]
    exact q
theorem op_notIn_seq : OpR X (compareOp .NotIn) (rIn X.K true) := by
  intro pins s σ H x y v u Q I rx ry h
  obtain ⟨p, xs, rfl, hq, fx, fs, q⟩ := h
  cases ry
  rcases hq with hq | hq
  · obtain ⟨its, r, pl, hz⟩ := I.list hq
    refine SeqAt.notIn_listAt (eqU x) pl.isList (fun w hw => mem_eqAt rx fx r fs w (by simpa using hw)) ⟨.bl _, H, I, rfl, ?_⟩
    rw [show its.toArray.any (eqU x) = its.any (eqU x) by simp, any_eqU r fs]
    exact q
  · obtain ⟨its, r, pl, hz⟩ := I.tuple hq
    refine SeqAt.notIn_tupleAt (eqU x) pl (fun w hw => mem_eqAt rx fx r fs w (by simpa using hw)) ⟨.bl _, H, I, rfl, ?_⟩
    rw [show its.toArray.any (eqU x) = its.any (eqU x) by simp, any_eqU r fs]
    exact q
theorem call_len_seq : CallR X (.builtin "len") (fun xs H Q => ∃ p ys, xs = [.ref p] ∧ (SqL X.K H p ys ∨ SqT X.K H p ys) ∧ Q (.int ys.length) H) := by
  intro pins s σ H xs us Q I r h
  obtain ⟨p, ys, rfl, hq, q⟩ := h
  obtain ⟨u, rfl, rx⟩ := vals1 r
  cases rx
  have hn := line63
  rcases hq with hq | hq
  · obtain ⟨its, r', pl, hz⟩ := I.list hq
    have hlen := r'.length
    exact Calls.call_len_list pl.isList (by simp only [List.size_toArray] <;> omega) ⟨.int ys.length, H, I.tok _, ⟨s.toks + 1, by rw [List.size_toArray, hlen]⟩, q⟩
  · obtain ⟨its, r', pl, hz⟩ := I.tuple hq
    have hlen := r'.length
    exact len_tuple pl (by simp only [List.size_toArray] <;> omega) ⟨.int ys.length, H, I.tok _, ⟨s.toks + 1, by rw [List.size_toArray, hlen]⟩, q⟩
theorem call_len_str : CallR X (.builtin "len") (fun xs H Q => ∃ z, xs = [.str z] ∧ z.length ≤ sizeLine ∧ Q (.int z.length) H) := by
  intro pins s σ H xs us Q I r h
  obtain ⟨z, rfl, hz, q⟩ := h
  obtain ⟨u, rfl, t, rfl⟩ := vals1 r
  have hn := line63
  exact len_str (by omega) ⟨.int z.length, H, I.tok _, ⟨_, rfl⟩, q⟩
theorem call_list_of : CallR X (.type "list") (fun xs H Q => ∃ p ys, xs = [.ref p] ∧ (SqL X.K H p ys ∨ SqT X.K H p ys) ∧ ∀ l, H l = none → Q (.ref l) (upd H l (.lst ys))) := by
  intro pins s σ H xs us Q I r h
  obtain ⟨p, ys, rfl, hq, q⟩ := h
  obtain ⟨u, rfl, rx⟩ := vals1 r
  cases rx
  have fin : ∀ (its : List Value), Vals ys its → ys.length ≤ sizeLine → ∀ (h' : Heap) (c' : Nat), (∀ b o', s.heap.get? b = some o' → h'.get? b = some o') →
      h'.get? s.heap.objs.size = some { cls := .type "list", dict := none, data := .seq its.toArray c', slots := #[] } → EP X pins σ Q (.ref s.heap.objs.size) { s with heap := h' } := fun its r' hz h' c' kp e =>
    ⟨.ref s.heap.objs.size, _, I.laid (t' := s.toks) kp (Nat.le_refl _) (show ObjOk X.prog X.w _ h' _ (.lst ys) from ⟨hz, its, c', r', e⟩), rfl, q _ (I.hok.fresh (Nat.le_refl _))⟩
  rcases hq with hq | hq
  · obtain ⟨its, r', pl, hz⟩ := I.list hq
    have hlen := r'.length
    obtain ⟨o, ho, hc, n, hd⟩ := pl.isList
    exact call_list_seq p (.inl rfl) ho hc hd (fun h' c' kp e => fin its r' hz h' c' kp e) (by simp only [List.size_toArray] <;> omega)
  · obtain ⟨its, r', pl, hz⟩ := I.tuple hq
    have hlen := r'.length
    obtain ⟨o, ho, hc, n, hd⟩ := pl
    exact call_list_seq p (.inr rfl) ho hc hd (fun h' c' kp e => fin its r' hz h' c' kp e) (by simp only [List.size_toArray] <;> omega)
theorem call_tuple_of : CallR X (.type "tuple") (fun xs H Q => ∃ p ys, xs = [.ref p] ∧ ((SqL X.K H p ys ∧ ∀ l, H l = none → Q (.ref l) (upd H l (.tup ys))) ∨ (SqT X.K H p ys ∧ Q (.ref p) H))) := by
  intro pins s σ H xs us Q I r h
  obtain ⟨p, ys, rfl, h⟩ := h
  obtain ⟨u, rfl, rx⟩ := vals1 r
  cases rx
  rcases h with ⟨hq, q⟩ | ⟨hq, q⟩
  · obtain ⟨its, r', pl, hz⟩ := I.list hq
    have hlen := r'.length
    refine call_tuple_list pl.isList (fun h' kp => ?_) (by simp only [List.size_toArray] <;> omega)
    have I1 : Inv X pins σ H { s with heap := h' } := I.kept (t' := s.toks) kp
    have I2 : Inv X pins σ (upd H h'.objs.size (.tup ys)) { s with heap := h'.push { cls := .type "tuple", data := .seq its.toArray } } :=
      I1.laid (t' := s.toks) (fun b o e => Heap.get?_push_of_some _ e) (Nat.le_refl _) (show ObjOk X.prog X.w _ _ _ (.tup ys) from ⟨hz, its, r', IsTup.new _ _⟩)
    exact ⟨.ref h'.objs.size, _, I2, rfl, q _ (I1.hok.fresh (Nat.le_refl _))⟩
  · obtain ⟨its, r', pl, hz⟩ := I.tuple hq
    exact call_tuple_same pl ⟨.ref p, H, I, rfl, q⟩

noncomputable def tyV (K : PySem.W.Frag) (T : String) (x : V) (H : Hp) : Prop := match x with
  | .str _ => T = "str"
  | .int _ => T = "int"
  | .ref p => (T = "list" ∧ ∃ xs, SqL K H p xs) ∨ (T = "tuple" ∧ ∃ o, K.lookup p = some o ∧ o.cls = .type "tuple" ∧ o.dict = none) ∨
      (T = "dict" ∧ ((∃ kvs, H p = some (.dK kvs)) ∨ ∃ kvs, H p = some (.dT kvs))) ∨ (T = "set" ∧ ∃ S n, H p = some (.set S n))
  | _ => False
theorem tyV_is {pins : List (Addr × Obj)} {σ : St} {H : Hp} {s : Shared} {T : String} {x : V} {v : Value} (I : Inv X pins σ H s) (r : RelV x v) (ty : tyV X.K T x H) :
    s.TypeIs v T ∧ ∀ a, v = .ref a → ∃ ob, s.heap.get? a = some ob ∧ ob.dict = none := by
  cases x with
  | str z =>
    obtain ⟨t, rfl⟩ := r
    cases (show T = "str" from ty)
    exact ⟨typeIs_str s z t, fun _ e => nomatch e⟩
  | int i =>
    obtain ⟨t, rfl⟩ := r
    cases (show T = "int" from ty)
    exact ⟨typeIs_int s i t, fun _ e => nomatch e⟩
  | ref p =>
    cases r
    rcases ty with ⟨rfl, xs, hq⟩ | ⟨rfl, o, hk, hc, hd⟩ | ⟨rfl, hk⟩ | ⟨rfl, S, n, hk⟩
    · obtain ⟨its, _, pl, _⟩ := I.list hq
      refine ⟨pl.isList.typeIs, fun a e => ?_⟩
      cases e
      obtain ⟨o, n, e, c, hd, _⟩ := pl
      exact ⟨o, e, hd⟩
    · refine ⟨⟨o, I.kIn p o hk, hc⟩, fun a e => ?_⟩
      cases e
      exact ⟨o, I.kIn _ o hk, hd⟩
    · have z : ∃ o, s.heap.get? p = some o ∧ o.ExactDict := by
        rcases hk with ⟨kvs, hk⟩ | ⟨kvs, hk⟩
        · obtain ⟨_, _, _, _, o, _, _, e, ex, _⟩ := I.hok p _ hk
          exact ⟨o, e, ex⟩
        · obtain ⟨_, _, _, _, o, _, _, e, ex, _⟩ := I.hok p _ hk
          exact ⟨o, e, ex⟩
      obtain ⟨o, e, ex⟩ := z
      refine ⟨⟨o, e, ex.1⟩, fun a e2 => ?_⟩
      cases e2
      exact ⟨o, e, ex.2.1⟩
    · obtain ⟨o, _, _, _, e, ex, _⟩ := I.hok p _ hk
      refine ⟨⟨o, e, ex.1⟩, fun a e2 => ?_⟩
      cases e2
      exact ⟨o, e, ex.2.1⟩
  | _ => exact False.elim ty
noncomputable def tBM (K : PySem.W.Frag) (T : String) (r : V → List V → Hp → VK → Prop) (to : TE) (t : TA) : TE := fun σ H Q => to σ H fun x H1 => tyV K T x H1 ∧ t σ H1 fun xs H2 => r x xs H2 Q
variable {o e : Expr} {es : List Expr} {to : TE} {t : TA} {name : Str} {apos cpos : Pos} {T id : String} {r : V → List V → Hp → VK → Prop}
theorem pe_bm (pa : PlainAttrs T) (slot : Slot T name id) (hty : typeOf (.builtin id) = pure (.type "method_descriptor")) (hm : MtR X id r) (ho : PE X o to) (ha : PA X (e :: es) t)
    (hbase : attributeBase o name X.env (eval o X.env) = eval o X.env := by rfl)
    (hfew : ((backTo cpos (starEach (e :: es) X.env)).all (fun x => !x.1) && (backToKw cpos (keywordEach [] X.env)).all (fun x => x.1.isSome)
      && decide ((e :: es).length + ([] : List Keyword).length + (if ([] : List Keyword).isEmpty then 0 else 1) < 30)) = true := by rfl)
    (hline : (apos.endLine == cpos.line) = true := by rfl) (hs : starEach (e :: es) X.env = (false, eval e X.env) :: starEach es X.env := by rfl) (hplain : (backTo cpos (starEach es X.env)).any (·.1) = false := by rfl) :
    PE X (.Call (.Attribute o name apos) (e :: es) [] cpos) (tBM X.K T r to t) := by
  intro pins s σ H Q I h
  refine wpAny_Call_method_late hbase hfew hline rfl (thn (ho pins s σ H _ I h) fun v s1 ⟨x, H1, I1, r1, ty, q1⟩ => ?_)
  obtain ⟨h1, h2⟩ := tyV_is I1 r1 ty
  refine ⟨T, id, pa, slot, hty, h1, h2, ?_⟩
  have hA := ha cpos pins s1 σ H1 _ I1 q1
  rw [hs] at hA ⊢
  refine Calls.callWith_builtin (by show (false || (backTo cpos (starEach es X.env)).any (·.1)) = false; rw [hplain] <;> rfl) (Calls.evalArgs_plain ?_)
  exact thn hA fun us s2 ⟨vs, H2, I2, r2, q2⟩ => hm pins s2 σ H2 x vs v us Q I2 r1 r2 q2
end
end L2

namespace L2
open PySem PySem.Spec PyProof.Rows

noncomputable def MtM (X : Cx) (id : String) (r : V → List V → Hp → VK → Prop) : Prop :=
  ∀ (pins : List (Addr × Obj)) (s : Shared) (σ : St) (H : Hp) (x : V) (xs : List V) (v : Value) (us : List Value) (Q : VK), Inv X pins σ H s → RelV x v → Vals xs us → r x xs H Q →
    wpAny (model X.prog X.w) X.A (call (.builtin id) (v :: us)) (EP X pins σ Q) X.xe s

theorem Vals.one : ∀ {x : V} {us : List Value}, Vals [x] us → ∃ u, us = [u] ∧ RelV x u
  | _, _, .cons r .nil => ⟨_, rfl, r⟩
section
variable {X : Cx} {pins : List (Addr × Obj)} {σ : St} {H : Hp} {s : Shared} {l b : Addr} {xs ys zs : List V}

theorem Inv.lset {its its' : List Value} {n : Nat} {f : Array Value → Array Value} {t' : Nat} (I : Inv X pins σ H s) (hH : H l = some (.lst xs))
    (e : s.heap.get? l = some { cls := .type "list", data := .seq its.toArray n }) (hf : f its.toArray = its'.toArray) (hv : Vals ys its') (hz : ys.length ≤ sizeLine) :
    Inv X pins σ (upd H l (.lst ys)) { s with heap := s.heap.update l (Obj.mapSeq f), toks := t' } := by
  have q := PySem.IsL.update e f
  rw [hf] at q
  refine I.write (x := l) (e := l) (by rw [hH]; exact trivial) (.inl rfl) (fun b' u hb hu => (Heap.get?_update_other s.heap (Obj.mapSeq f) (Ne.symm hb)).trans hu) ⟨_, q⟩ ?_
  exact ⟨hz, its', _, hv, q⟩
theorem Inv.lnew {its : List Value} {t' : Nat} (I : Inv X pins σ H s) (hv : Vals ys its) (hz : ys.length ≤ sizeLine) :
    Inv X pins σ (upd H s.heap.objs.size (.lst ys)) { s with heap := s.heap.push { cls := .type "list", data := .seq its.toArray }, toks := t' } :=
  I.laid (fun _ _ q => Heap.get?_push_of_some _ q) (Nat.le_refl _) ⟨hz, its, 0, hv, Heap.get?_push_size _ rfl⟩
theorem Inv.fresh (I : Inv X pins σ H s) : H s.heap.objs.size = none := I.hok.fresh (Nat.le_refl _)
theorem Inv.lstM (I : Inv X pins σ H s) (hH : H l = some (.lst xs)) : xs.length ≤ sizeLine ∧ ∃ (its : List Value) (n : Nat), Vals xs its ∧ xs.length = its.length ∧ s.heap.get? l = some { cls := .type "list", data := .seq its.toArray n } := by
  obtain ⟨z, its, n, r, e⟩ := I.hok l _ hH
  exact ⟨z, its, n, r, r.length, e⟩

end

section
variable {X : Cx}

noncomputable def rAppend : V → List V → Hp → VK → Prop := fun x vs H Q => ∃ l xs y, x = .ref l ∧ vs = [y] ∧ H l = some (.lst xs) ∧ xs.length < sizeLine ∧ Q .non (upd H l (.lst (xs ++ [y])))
theorem mt_append : MtM X "list.append" rAppend := by
  intro pins s σ H x vs v us Q I rx rv h
  obtain ⟨l, xs, y, rfl, rfl, hH, hz, q⟩ := h
  cases rx
  obtain ⟨u, rfl, ru⟩ := rv.one
  obtain ⟨z, its, n, r, hl, e⟩ := I.lstM hH
  refine call_meets F.slot_list_append ⟨_, e, rfl⟩ F.entry_list_append (F.args_list_append_2 _ _) (PySem.list_append l its.toArray n u (by rw [List.size_toArray]; omega)) ⟨e, ?_⟩
  refine ⟨.non, _, I.lset (its' := its ++ [u]) hH e (by simp) (r.append (.cons ru .nil)) ?_, rfl, q⟩
  rw [List.length_append, List.length_singleton]
  omega

end

section
variable {prog : Program} {w : World} {A : Around} {E : Value → Shared → Prop} {s : Shared}
end

section
variable {X : Cx}
end
end L2

namespace Att
open PySem PySem.W PySem.Calls PyProof.Rows

theorem ints_of_wellAll {P : Params} {h : Heap} : ∀ (ns : List Int) (vs : List Value), WellAll P h vs (ns.map WData.int) → IntsAre vs ns := by
  intro ns
  induction ns with
  | nil =>
    intro vs w
    rw [List.map_nil] at w
    cases w
    exact .nil
  | cons n ns ih =>
    intro vs w
    rw [List.map_cons] at w
    cases w with
    | cons a b =>
      cases a
      exact .cons _ _ (ih _ b)

theorem script_of {l : OpenLaw} {n : Nat} (hn : l.most = some n) {P : Params} {h : Heap} {args : List WData} {vals : List Value}
    (hpre : l.row.toRowW.claim.pre args = true) (hwl : WellAll P h vals args) :
    ∃ a vs ns, vals = [Value.ref a] ∧ args = [WData.list (ns.map WData.int)] ∧ h.get? a = some { cls := .type "list", data := .seq vs.toArray } ∧ IntsAre vs ns ∧ ns.length ≤ n := by
  have hsh : WShape.hasAll [] args [.list .int] = true := (pre_splitW hpre).1
  have hc : l.pre.holds [] { args := args } = true := (pre_splitW hpre).2
  obtain ⟨d, r, rfl, h1, h2⟩ := hasAllW_cons hsh
  obtain rfl := hasAllW_nil h2
  obtain ⟨xs, rfl, h3⟩ := hasW_list h1
  obtain ⟨ns, rfl⟩ := items_int h3
  have hlen : ns.length ≤ n := by
    unfold OpenLaw.pre at hc
    have h4 : (WTm.not (.lt (.lit (.int (n : Int))) (.len (.arg 0)))).holds [] { args := [.list (ns.map .int)] } = true := by
      have h4 := (holds_andW hc).1
      rw [hn] at h4
      exact h4
    have h5 := condW_of h4 (w_not (w_lt w_lit (w_len_list (w_arg rfl))))
    rw [List.length_map] at h5
    refine Nat.le_of_not_lt fun q => ?_
    have q' : (n : Int) < ((ns.length : Nat) : Int) := by omega
    first
      | (rw [decide_eq_true q'] at h5; exact absurd h5 (by decide))
      | (simp at h5; omega)
  cases hwl with
  | cons w1 w2 =>
    cases w2
    cases w1 with
    | list ho hall => exact ⟨_, _, ns, rfl, rfl, ho, ints_of_wellAll ns _ hall, hlen⟩

theorem post_true (l : OpenLaw) (args : List WData) : l.row.toRowW.claim.post args (.bool true) args = true :=
  postW_of (r := l.row.toRowW) (X := (true == true))
    (show WShape.has [] (.bool true) .bool = true by first | rfl | decide | simp [WShape.has, WShape.arms, WShape.armsAll])
    (show (WTm.eq .res (.lit (.bool true))).value [] { args := args, res := some (.bool true), after := args } = some (.bool (true == true)) from w_eq_bool (w_res rfl) w_lit) rfl

theorem attach_call {l : OpenLaw} {n : Nat} {q : Program} {loose : List Str} {XP : (Str → Option Value) → Heap → Prop} {YP : World → Heap → Prop} {d : DefRec}
    (hn : l.most = some n) (hdf : d.params.defaults = [])
    (call : ∀ (w : World) (s₀ s₁ : Shared) (mg mb : Str → Option Value) (fa : Addr) (o : Obj) (pm cd doc : Value) (a : Addr) (vs : List Value) (ns : List Int),
      Ground q loose [] XP w s₀ mg mb s₁.heap → YP w s₁.heap →
      s₁.heap.get? fa = some o → o.data = .func (docDef d.name d.params d.body d.scope pm cd doc) → s₁.heap.CodeRec cd d.name → mg d.name = some (.ref fa) →
      s₁.heap.get? a = some { cls := .type "list", data := .seq vs.toArray } → IntsAre vs ns → ns.length ≤ n → s₁.gens = #[] →
      codeAny (model l.prog w) callerA (.call (.ref fa) ⟨[.ref a], []⟩) (fun r s' => r = .ok (.ret (.bool true)) ∧ OldK s₁.heap s'.heap ∧ s'.os = s₁.os ∧ AllBare s'.gens) s₁) :
    WalkO q loose XP YP l.row.toRowW d [] (fun f vs => PySem.call f vs) := by
  intro w s₀ s₁ mg mb G Y fa o pm cd doc dV kV ho hd hcd hD hmg hg args vals as hpre hlay hrd hwl hlo
  obtain rfl : dV = .none := Dflts.none hD hdf
  obtain rfl : kV = .none := Dflts.noKw hD
  obtain ⟨a, vs, ns, rfl, rfl, hobj, hints, hlen⟩ := script_of hn hpre hwl
  refine enter_call (codeAny_mono (call w s₀ s₁ mg mb fa o pm cd doc a vs ns G Y ho (fd_plain hd) hcd hmg hobj hints hlen hg) fun r s' hq => ?_)
  obtain ⟨rfl, h2, h3, h4⟩ := hq
  exact ⟨.inl ⟨.bool true, .bool true, [], rfl, fun _ => rfl, .bool true, post_true l _, fun _ => ⟨List.Pairwise.nil, fun _ hm => (nomatch hm)⟩⟩, h2, h3, h4⟩

section
variable {prog : Program} {w : World} {A : Around} {E : Value → Shared → Prop} {s : Shared} {K : Frag}

end
end Att

namespace L2
open PySem PySem.Spec PyProof.Rows

theorem vals_ints : ∀ {vs : List Value} {ns : List Int}, IntsAre vs ns → Vals (ns.map V.int) vs
  | _, _, .nil => .nil
  | _, _, .cons n t h => .cons ⟨t, rfl⟩ (vals_ints h)

noncomputable def Only (H : Hp) : Prop := ∀ b, H b = none ∨ ∃ o xs, H b = some (.frz o (.lst xs))

theorem law_call {P : Program} {w : World} {K : PySem.W.Frag} {mg mb : Str → Option Value} {CX : CXT} {k : Nat} {fa a : Addr} {fd : FuncData} {x : Str} {sp : Sp} {s₁ : Shared} {vs : List Value} {ns : List Int}
    (KX : K.In s₁.heap) (hns : s₁.heap.Ns mainGlobals mg) (hb : s₁.heap.Ns builtinsNs mb) (hbb : ∀ x : Str, x ≠ "__name__" → mb x = bootBuiltins x) (hlim : s₁.heap.NoLimit) (hg : s₁.gens = #[])
    (ha : s₁.heap.get? a = some { cls := .type "list", data := .seq vs.toArray }) (hi : IntsAre vs ns) (hl : ns.length ≤ sizeLine) (hr : Room k callerA)
    (F : ∀ base : Heap, K.In base → base.Ns mainGlobals mg → FnOk P w K mg base CX k fa fd [x] sp) (hbind : ∀ (s : Shared) (u : Value), BindsTo s fd ⟨[u], []⟩ [(x, u)])
    (hsp : ∀ H : Hp, Only H → SqL K H a (ns.map V.int) → sp [.ref a] H (fun v _ => v = .bl true) fun _ _ _ => False)
    (hCX : ∀ H e s', CX [] H s₁ (fun _ _ _ => False) e s' → False) :
    codeAny (model P w) callerA (.call (.ref fa) ⟨[.ref a], []⟩) (fun r s' => r = .ok (.ret (.bool true)) ∧ OldK s₁.heap s'.heap ∧ s'.os = s₁.os ∧ AllBare s'.gens) s₁ := by
  have rv := vals_ints hi
  have lenV := hi.length

  have core : ∀ H : Hp, Only H → SqL K H a (ns.map V.int) → HOk P w H s₁.heap → (∀ b, H b ≠ none → b = a) → (H a ≠ none → K.lookup a = none) →
      codeAny (model P w) callerA (.call (.ref fa) ⟨[.ref a], []⟩) (fun r s' => r = .ok (.ret (.bool true)) ∧ OldK s₁.heap s'.heap ∧ s'.os = s₁.os ∧ AllBare s'.gens) s₁ := by
    intro H hO hS hok hA hK
    have base_of : ∀ {b : Addr} {o : Obj}, s₁.heap.get? b = some o → H b = none → (hidT s₁.heap H).get? b = some o := fun e n => hidT_get e n
    have noA : ∀ {b : Addr} {o : Obj} {es : Array DictEntry} {ep : Nat}, s₁.heap.get? b = some o → o.data = .dict es ep → H b = none := fun {b o es ep} e d => by
      cases q : H b with
      | none => rfl
      | some u =>
        have e' : b = a := hA b (by rw [q]; simp)
        subst e'
        rw [ha] at e; cases e
        have d' : Data.seq vs.toArray _ = Data.dict es ep := d
        cases d'
    have nsK : ∀ {b : Addr} {m : Str → Option Value}, s₁.heap.Ns b m → (hidT s₁.heap H).Ns b m := fun {b m} ⟨o, es, ep, e, d, r⟩ => ⟨o, es, ep, base_of e (noA e d), d, r⟩
    have hKb : K.In (hidT s₁.heap H) := fun b o e => base_of (KX b o e) (by
      cases q : H b with
      | none => rfl
      | some u =>
        have e' : b = a := hA b (by rw [q]; simp)
        subst e'
        rw [hK (by rw [q]; simp)] at e; cases e)
    have hM : Mod K mg (hidT s₁.heap H) := ⟨hKb, nsK hns, ⟨mb, nsK hb, hbb⟩, let ⟨mc, h1, h2⟩ := hlim; ⟨mc, nsK h1, h2⟩⟩
    have e0 : Env0 P w K mg (hidT s₁.heap H) callerA [] s₁ H := ⟨rfl, hM, fun b o e => of_hidT e, Nat.le_of_eq (hidT_size _ _), trivial, fun b hb => absurd (show b ∈ ([] : List Addr) from hb) (by simp), hok, .of_eq hg⟩
    refine codeAny_mono ((F _ hKb (nsK hns)).run callerA [] s₁ H ⟨[.ref a], []⟩ [.ref a] [.ref a] _ _ hr e0 (hbind s₁ (.ref a)) (.cons rfl .nil) (hsp H hO hS)) fun r s' h => ?_
    cases r with
    | error e => exact (hCX H e s' h).elim
    | ok fl =>
      cases fl with
      | next => exact False.elim h
      | brk => exact False.elim h
      | cont => exact False.elim h
      | ret u =>
        obtain ⟨v, H', os, bare, un, hok', r', q⟩ := h
        have q' : v = .bl true := q
        subst q'
        obtain rfl : u = Value.bool true := r'
        refine ⟨rfl, OldK.of_keep fun b o e => ?_, os, bare⟩
        cases q : H b with
        | none => exact un.keep b o e q (by intro z; exact absurd (show b ∈ ([] : List Addr) from z) (by simp)) (by simp)
        | some u =>
          rcases hO b with z | ⟨ob, xs, z⟩
          · rw [q] at z; cases z
          · have z2 := un.frzs b ob _ z
            obtain ⟨e1, _⟩ := hok b _ z
            obtain ⟨e2, _⟩ := hok' b _ z2
            rw [e] at e1; cases e1
            exact e2
  cases hk : K.lookup a with
  | some o =>
  
    have e := KX a o hk
    rw [ha] at e
    cases e
    refine core (fun _ => none) (fun _ => .inl rfl) (.inr ⟨_, vs.toArray, _, hk, rfl, rfl, rfl, by rw [List.size_toArray, lenV]; exact hl, by simpa using rv⟩) (fun b u z => by have z' : (none : Option HO) = some u := z; cases z') (fun b z => absurd rfl z) fun z => absurd rfl z
  | none =>
    refine core (fun b => if b = a then some (.frz { cls := .type "list", data := .seq vs.toArray } (.lst (ns.map V.int))) else none) (fun b => ?_) (.inl (.inr ⟨{ cls := .type "list", data := .seq vs.toArray }, if_pos rfl⟩)) (fun b u z => ?_) (fun b z => ?_) fun _ => hk
    · by_cases hb : b = a
      · exact .inr ⟨_, _, if_pos hb⟩
      · exact .inl (if_neg hb)
    · by_cases hb : b = a
      · have z' := (if_pos hb).symm.trans z
        cases z'
        subst hb
        exact ⟨ha, by rw [List.length_map]; exact hl, vs, _, rv, ha⟩
      · have z' := (if_neg hb).symm.trans z
        cases z'
    · by_cases hb : b = a
      · exact hb
      · exact absurd (if_neg hb) z
end L2

namespace L2
open PySem PySem.Spec PyProof.Rows

theorem walk_of {l : PySem.W.OpenLaw} {n k : Nat} {q : Program} {loose : List Str} {XP : (Str → Option Value) → Heap → Prop} {YP : World → Heap → Prop} {d : DefRec} {K : Params → PySem.W.Frag} {CX : World → CXT} {sp : World → Sp} {x : Str}
    (hn : l.most = some n) (hn2 : n ≤ sizeLine) (hdf : d.params.defaults = []) (hr : Room k callerA)
    (hY : ∀ (w : World) (h : Heap), YP w h → (K w.params).In h)
    (F : ∀ (w : World) (mg : Str → Option Value) (fa : Addr) (h : Heap), (K w.params).In h → h.Ns mainGlobals mg → mg d.name = some (.ref fa) →
      ∃ fd : FuncData, (∀ (s : Shared) (u : Value), BindsTo s fd ⟨[u], []⟩ [(x, u)]) ∧
        ∀ base : Heap, (K w.params).In base → base.Ns mainGlobals mg → FnOk l.prog w (K w.params) mg base (CX w) k fa fd [x] (sp w))
    (hsp : ∀ (w : World) (H : Hp) (a : Addr) (ns : List Int), ns.length ≤ n → Only H → SqL (K w.params) H a (ns.map V.int) → sp w [.ref a] H (fun v _ => v = .bl true) fun _ _ _ => False)
    (hCX : ∀ (w : World) (H : Hp) (s : Shared) (e : Value) (s' : Shared), CX w [] H s (fun _ _ _ => False) e s' → False) :
    PySem.W.WalkO q loose XP YP l.row.toRowW d [] (fun f vs => PySem.call f vs) := by
  refine Att.attach_call hn hdf fun w s₀ s₁ mg mb fa o pm cd doc a vs ns G Y ho hd hcd hmg hobj hints hlen hg => ?_
  have KX := hY w _ Y
  obtain ⟨fd, hb, hF⟩ := F w mg fa _ KX G.T.g hmg
  exact law_call KX G.T.g G.T.b G.T.builtins G.T.nolimit hg hobj hints (Nat.le_trans hlen hn2) hr hF hb (fun H hO hS => hsp w H a ns hlen hO hS) fun H e s' => hCX w H s₁ e s'
end L2


namespace L2
open PySem PySem.Spec PyProof.Rows

noncomputable def inClass (s : Stmt) (j : Nat) : Stmt := match s with
  | .ClassDef _ _ _ body _ _ _ _ _ _ _ => body.getD j (.Pass ⟨0, 0, 0, 0⟩)
  | _ => .Pass ⟨0, 0, 0, 0⟩
noncomputable def defArgs (s : Stmt) : Arguments := match s with
  | .FunctionDef _ a _ _ _ _ _ _ _ _ => a
  | _ => { posonlyargs := [], args := [], vararg := none, kwonlyargs := [], kw_defaults := [], kwarg := none, defaults := [] }
noncomputable def defBody (s : Stmt) : List Stmt := match s with
  | .FunctionDef _ _ b _ _ _ _ _ _ _ => b
  | _ => []
noncomputable def defScope (s : Stmt) : Scope := match s with
  | .FunctionDef _ _ _ _ _ _ sc _ _ _ => sc
  | _ => { kind := .function, names := [], isGenerator := false, isCoroutine := false }

noncomputable abbrev E0 : XK := fun _ _ _ => False
set_option genInjectivity false in
structure Fun (K : PySem.W.Frag) (x qual : Str) (st : Stmt) (f : Addr) (fd : FuncData) : Prop where
  ex : ∃ (oc : Value) (od : Option Addr) (kV doc pm : Value) (an : Option Addr) (cdv ct : Value) (osl : Array (Option Value)),
    fd = PySem.W.fnOf x qual (defArgs st) (defBody st) (defScope st) .none kV doc pm an cdv ct ∧ K.lookup f = some ⟨oc, od, .func fd, osl⟩ ∧ PySem.W.codeIn K cdv qual = true
  kp : PySem.W.keepIn K (.ref f) = true
section
variable {P : Program} {w : World} {K : PySem.W.Frag} {mg : Str → Option Value} {base : Heap}
theorem Fun.binds {x qual : Str} {st : Stmt} {f : Addr} {fd : FuncData} {ps : List Str} (F : Fun K x qual st f fd)
    (h : ∀ (kV doc pm : Value) (an : Option Addr) (cdv ct : Value) (us : List Value), us.length = ps.length → bindArgs (PySem.W.fnOf x qual (defArgs st) (defBody st) (defScope st) .none kV doc pm an cdv ct) ⟨us, []⟩ = pure (ps.zip us)) : Binds K fd ps [] := by
  obtain ⟨oc, od, kV, doc, pm, an, cdv, ct, osl, rfl, lk, hcd⟩ := F.ex
  exact .all (h kV doc pm an cdv ct)
theorem fun_mk {x qual : Str} {st : Stmt} {f : Addr} {oc : Value} {od an : Option Addr} {osl : Array (Option Value)} {kV doc pm cdv ct : Value} (l : K.lookup f = some ⟨oc, od, .func (PySem.W.fnOf x qual (defArgs st) (defBody st) (defScope st) .none kV doc pm an cdv ct), osl⟩)
    (c : PySem.W.codeIn K cdv qual = true) (k : PySem.W.keepIn K (.ref f) = true) : Fun K x qual st f (PySem.W.fnOf x qual (defArgs st) (defBody st) (defScope st) .none kV doc pm an cdv ct) := ⟨⟨oc, od, kV, doc, pm, an, cdv, ct, osl, rfl, l, c⟩, k⟩
end
theorem hu_of {A : Around} {k : Nat} (hr : Room k A) : A.units + 1 < cLine := Nat.lt_of_le_of_lt (Nat.add_le_add_left (by decide : 1 ≤ 64) _) hr.units
section
variable {X : Cx}
theorem pv (i : Nat) {x : Str} {pos : Pos} (hN : X.N[i]? = some x := by rfl) (hv : Vis X.env.scope x := by first | exact Or.inl rfl | exact Or.inr (Or.inl rfl) | exact Or.inr (Or.inr rfl)) (hd : (x == ("__debug__" : Str)) = false := by decide)
    (hcd : (x == ("__classdict__" : Str)) = false := by decide) : PE X (.Name x pos) (tVar i) := pe_var hN hv hd hcd
end

theorem iteF {A B : Prop} (h : B) : if false = true then A else B := by
  rw [if_neg Bool.false_ne_true]
  exact h
theorem iteT {A B : Prop} (h : A) : if true = true then A else B := by
  rw [if_pos rfl]
  exact h
theorem ite2 {c A B : Prop} [Decidable c] (h1 : c → A) (h2 : ¬ c → B) : if c then A else B := by
  by_cases h : c
  · rw [if_pos h]
    exact h1 h
  · rw [if_neg h]
    exact h2 h
theorem iteNS {c A B : Prop} [Decidable c] (hc : c) (h : B) : if (!decide c) = true then A else B := by
  rw [decide_eq_true hc]
  exact iteF h

noncomputable def Same (H H' : Hp) : Prop := ∀ b o, H b = some o → H' b = some o
theorem Same.refl (H : Hp) : Same H H := fun _ _ h => h
theorem Same.trans {H H1 H2 : Hp} (a : Same H H1) (b : Same H1 H2) : Same H H2 := fun c o h => b c o (a c o h)
theorem Same.seq {K : PySem.W.Frag} {H H' : Hp} {a : Addr} {xs : List V} (e : Same H H') (h : SqL K H a xs) : SqL K H' a xs := by
  rcases h with (h | ⟨o, h⟩) | h
  · exact .inl (.inl (e _ _ h))
  · exact .inl (.inr ⟨o, e _ _ h⟩)
  · exact .inr h

end L2

namespace Wd
noncomputable abbrev W := List Nat
theorem ltt {a b c : W} (h : a < b) (h' : b < c) : a < c := List.lt_trans h h'
theorem ltir (a : W) : ¬ a < a := List.lt_irrefl a
theorem tri {a b : W} (h : ¬ a < b) (h' : ¬ b < a) : a = b := List.le_antisymm (List.not_lt.mp h') (List.not_lt.mp h)
theorem lele {a b c : W} (h : ¬ b < a) (h' : ¬ c < b) : ¬ c < a := fun hc => List.not_lt.mpr (List.le_trans (List.not_lt.mp h) (List.not_lt.mp h')) hc
theorem ltle {a b c : W} (h : a < b) (h' : ¬ c < b) : a < c := by
  apply Classical.byContradiction
  intro hc
  exact lele h' hc h

noncomputable def rot (k : Nat) (w : W) : W := w.drop k ++ w.take k
theorem rot_zero (w : W) : rot 0 w = w := by simp [rot]
theorem rot_length (k : Nat) (w : W) : (rot k w).length = w.length := by
  unfold rot
  rw [List.length_append, List.length_drop, List.length_take]
  omega
theorem rot_get {k i : Nat} {w : W} (hk : k ≤ w.length) (hi : i < w.length) : (rot k w)[i]? = w[(k + i) % w.length]? := by
  unfold rot
  by_cases h : i < w.length - k
  · rw [List.getElem?_append_left (by rw [List.length_drop]; exact h), List.getElem?_drop, Nat.mod_eq_of_lt (by omega)]
  · rw [List.getElem?_append_right (by rw [List.length_drop]; omega), List.length_drop, List.getElem?_take_of_lt (by omega)]
    have e : (k + i) % w.length = i - (w.length - k) := by
      rw [Nat.mod_eq_sub_mod (by omega), Nat.mod_eq_of_lt (by omega)]
      omega
    rw [e]
theorem ext_get {a b : W} (hl : a.length = b.length) (h : ∀ i, i < a.length → a[i]? = b[i]?) : a = b := by
  apply List.ext_getElem? 
  intro i
  by_cases hi : i < a.length
  · exact h i hi
  · rw [List.getElem?_eq_none (by omega), List.getElem?_eq_none (by omega)]
theorem rot_rot {j k : Nat} {w : W} (hj : j < w.length) (hk : k < w.length) : rot j (rot k w) = rot ((j + k) % w.length) w := by
  have hp : 0 < w.length := by omega
  apply ext_get
  · rw [rot_length, rot_length, rot_length]
  · intro i hi
    rw [rot_length, rot_length] at hi
    rw [rot_get (by rw [rot_length]; omega) (by rw [rot_length]; exact hi), rot_length,
      rot_get (Nat.le_of_lt hk) (Nat.mod_lt _ hp), rot_get (Nat.le_of_lt (Nat.mod_lt _ hp)) hi]
    congr 1
    rw [Nat.add_mod_mod, Nat.mod_add_mod]
    congr 1
    omega

noncomputable def bestTo (w : W) : Nat → Nat
  | 0 => 0
  | n + 1 => if rot (n + 1) w < rot (bestTo w n) w then n + 1 else bestTo w n
noncomputable def turnBy (w : W) : Nat := bestTo w (w.length - 1)
noncomputable def leastTo (w : W) : Nat → W
  | 0 => w
  | n + 1 => if rot (n + 1) w < leastTo w n then rot (n + 1) w else leastTo w n
noncomputable def least (w : W) : W := leastTo w (w.length - 1)
theorem best_le (w : W) : ∀ n, bestTo w n ≤ n
  | 0 => Nat.le_refl _
  | n + 1 => by
    have := best_le w n
    unfold bestTo
    split <;> omega
theorem leastTo_eq (w : W) : ∀ n, leastTo w n = rot (bestTo w n) w
  | 0 => by rw [leastTo, bestTo, rot_zero]
  | n + 1 => by
    rw [leastTo, bestTo, leastTo_eq w n]
    split <;> rfl
theorem least_eq (w : W) : least w = rot (turnBy w) w := leastTo_eq w _
theorem best_min (w : W) : ∀ n j, j ≤ n → ¬ rot j w < rot (bestTo w n) w
  | 0, j, h => by
    have : j = 0 := by omega
    subst this
    exact ltir _
  | n + 1, j, h => by
    unfold bestTo
    by_cases hj : j = n + 1
    · subst hj
      split
      · exact ltir _
      · rename_i h1; exact h1
    · have ih := best_min w n j (by omega)
      split
      · rename_i h1
        exact fun h2 => ih (ltt h2 h1)
      · exact ih
theorem best_first (w : W) : ∀ n j, j < bestTo w n → rot (bestTo w n) w < rot j w
  | 0, j, h => by rw [bestTo] at h; omega
  | n + 1, j, h => by
    unfold bestTo at h ⊢
    split at h
    · rename_i h1
      rw [if_pos h1]
      exact ltle h1 (best_min w n j (by omega))
    · rename_i h1
      rw [if_neg h1]
      exact best_first w n j h
theorem turnBy_lt {w : W} (h : 0 < w.length) : turnBy w < w.length := by
  have := best_le w (w.length - 1)
  unfold turnBy
  omega
theorem turnBy_min {w : W} {j : Nat} (h : j < w.length) : ¬ rot j w < rot (turnBy w) w := best_min w _ j (by omega)
theorem turnBy_first {w : W} {j : Nat} (h : j < turnBy w) : rot (turnBy w) w < rot j w := best_first w _ j h
theorem isLeast_iff (w : W) : turnBy w = 0 ↔ w = least w := by
  constructor
  · intro h
    rw [least_eq, h, rot_zero]
  · intro h
    rcases Nat.eq_zero_or_pos (turnBy w) with h0 | h0
    · exact h0
    · have h1 := turnBy_first (w := w) h0
      rw [← least_eq, rot_zero, ← h] at h1
      exact absurd h1 (ltir _)
theorem least_mem {w : W} (h : 0 < w.length) : ∃ i, i < w.length ∧ least w = rot i w := ⟨turnBy w, turnBy_lt h, least_eq w⟩
theorem least_min {w : W} {j : Nat} (h : j < w.length) : ¬ rot j w < least w := by
  rw [least_eq]
  exact turnBy_min h
theorem least_rot {w : W} {m : Nat} (h : m < w.length) : least (rot m w) = least w := by
  have hp : 0 < w.length := by omega
  obtain ⟨i, hi, ei⟩ := least_mem (w := rot m w) (by rw [rot_length]; exact hp)
  obtain ⟨j, hj, ej⟩ := least_mem hp
  rw [rot_length] at hi
  apply tri
  · rw [ei, rot_rot hi h]
    exact least_min (Nat.mod_lt _ hp)
  · have e : least w = rot ((j + (w.length - m)) % w.length) (rot m w) := by
      rw [rot_rot (Nat.mod_lt _ hp) h, ej]
      congr 1
      rw [Nat.mod_add_mod, show j + (w.length - m) + m = j + w.length by omega, Nat.add_mod_right, Nat.mod_eq_of_lt hj]
    rw [e]
    exact least_min (by rw [rot_length]; exact Nat.mod_lt _ hp)
end Wd

namespace Wd
theorem lt_app {a b : W} (h : a < b) (hl : b.length ≤ a.length) (x y : W) : a ++ x < b ++ y := by
  induction a generalizing b with
  | nil =>
    cases b with
    | nil => exact absurd h (ltir _)
    | cons d b => simp at hl
  | cons c a ih =>
    cases b with
    | nil => exact absurd h (by simp)
    | cons d b =>
      rw [List.cons_append, List.cons_append]
      rw [List.cons_lt_cons_iff] at h ⊢
      rcases h with h | ⟨h, h'⟩
      · exact .inl h
      · exact .inr ⟨h, ih h' (by simpa using hl)⟩
theorem lt_app_left (p : W) {a b : W} : p ++ a < p ++ b ↔ a < b := by
  induction p with
  | nil => rfl
  | cons c p ih =>
    rw [List.cons_append, List.cons_append, List.cons_lt_cons_iff]
    constructor
    · intro h
      rcases h with h | ⟨_, h⟩
      · exact absurd h (Nat.lt_irrefl _)
      · exact ih.mp h
    · intro h
      exact .inr ⟨rfl, ih.mpr h⟩
theorem lt_of_app {a b x y : W} (hl : a.length = b.length) (h : a ++ x < b ++ y) : a < b ∨ (a = b ∧ x < y) := by
  by_cases h1 : a < b
  · exact .inl h1
  · by_cases h2 : b < a
    · exact absurd (ltt h (lt_app h2 (by omega) y x)) (ltir _)
    · have e := tri h1 h2
      subst e
      exact .inr ⟨rfl, (lt_app_left a).mp h⟩

noncomputable def Prime (w : W) : Prop := w ≠ [] ∧ ∀ k, 0 < k → k < w.length → w < rot k w
theorem lt_at {a b : W} {j : Nat} {c d : Nat} (he : ∀ i, i < j → a[i]? = b[i]?) (ha : a[j]? = some c) (hb : b[j]? = some d) (h : c < d) : a < b := by
  induction j generalizing a b with
  | zero =>
    cases a with
    | nil => simp at ha
    | cons x a =>
      cases b with
      | nil => simp at hb
      | cons y b =>
        simp at ha hb
        subst ha hb
        rw [List.cons_lt_cons_iff]
        exact .inl h
  | succ j ih =>
    cases a with
    | nil => simp at ha
    | cons x a =>
      cases b with
      | nil => simp at hb
      | cons y b =>
        have e0 := he 0 (by omega)
        simp at e0
        subst e0
        rw [List.cons_lt_cons_iff]
        exact .inr ⟨rfl, ih (fun i hi => by simpa using he (i + 1) (by omega)) (by simpa using ha) (by simpa using hb)⟩
theorem lt_parts {a b : W} (h : a < b) : (∃ (j c d : Nat), (∀ i, i < j → a[i]? = b[i]?) ∧ a[j]? = some c ∧ b[j]? = some d ∧ c < d) ∨ (a.length < b.length ∧ ∀ i, i < a.length → a[i]? = b[i]?) := by
  induction a generalizing b with
  | nil =>
    cases b with
    | nil => exact absurd h (ltir _)
    | cons y b => exact .inr ⟨by simp, fun i hi => by simp at hi⟩
  | cons x a ih =>
    cases b with
    | nil => exact absurd h (by simp)
    | cons y b =>
      rw [List.cons_lt_cons_iff] at h
      rcases h with h | ⟨rfl, h⟩
      · exact .inl ⟨0, x, y, fun i hi => by omega, by simp, by simp, h⟩
      · rcases ih h with ⟨j, c, d, h1, h2, h3, h4⟩ | ⟨h1, h2⟩
        · refine .inl ⟨j + 1, c, d, fun i hi => ?_, by simpa using h2, by simpa using h3, h4⟩
          cases i with
          | zero => simp
          | succ i => simpa using h1 i (by omega)
        · refine .inr ⟨by simpa using h1, fun i hi => ?_⟩
          cases i with
          | zero => simp
          | succ i => simpa using h2 i (by simpa using hi)

theorem take_get {t : W} {m i : Nat} (h : i < m) : (t.take m)[i]? = t[i]? := List.getElem?_take_of_lt h
end Wd

namespace Wd
noncomputable def rep (n : Nat) (l : W) : W := (List.replicate n l).flatten
theorem rep_succ (n : Nat) (l : W) : rep (n + 1) l = l ++ rep n l := by unfold rep; rw [List.replicate_succ, List.flatten_cons]
theorem rep_zero (l : W) : rep 0 l = [] := rfl
theorem rep_one (l : W) : rep 1 l = l := by rw [rep_succ, rep_zero, List.append_nil]
theorem rep_len (n : Nat) (l : W) : (rep n l).length = n * l.length := by
  induction n with
  | zero => rw [rep_zero, Nat.zero_mul]; rfl
  | succ n ih => rw [rep_succ, List.length_append, ih, Nat.succ_mul, Nat.add_comm]
theorem rep_get {l : W} {n i : Nat} (h : i < n * l.length) : (rep n l)[i]? = l[i % l.length]? := by
  induction n generalizing i with
  | zero => rw [Nat.zero_mul] at h; omega
  | succ n ih =>
    rw [rep_succ]
    rw [Nat.succ_mul] at h
    by_cases hi : i < l.length
    · rw [List.getElem?_append_left hi, Nat.mod_eq_of_lt hi]
    · rw [List.getElem?_append_right (by omega), ih (by omega)]
      congr 1
      rw [← Nat.mod_eq_sub_mod (by omega)]
noncomputable def Rp (w : W) (d : Nat) : Prop := ∀ i, w[i % w.length]? = w[(i + d) % w.length]?
theorem Rp.all (w : W) : Rp w w.length := fun i => by rw [Nat.add_mod_right]
theorem Rp.zero (w : W) : Rp w 0 := fun i => by rw [Nat.add_zero]
theorem Rp.add {w : W} {d e : Nat} (h : Rp w d) (h' : Rp w e) : Rp w (d + e) := fun i => by
  rw [h i, h' (i + d), Nat.add_assoc]
theorem Rp.sub {w : W} {d e : Nat} (h : Rp w d) (h' : Rp w (d + e)) : Rp w e := fun i => by
  rw [h' i, h (i + e)]
  congr 2
  omega
theorem Rp.mul {w : W} {d : Nat} (h : Rp w d) : ∀ q, Rp w (q * d)
  | 0 => by rw [Nat.zero_mul]; exact Rp.zero w
  | q + 1 => by rw [Nat.succ_mul]; exact (Rp.mul h q).add h
theorem rp_rot {w : W} {d : Nat} (hd : d ≤ w.length) : rot d w = w ↔ Rp w d := by
  constructor
  · intro h i
    rcases Nat.eq_zero_or_pos w.length with h0 | h0
    · rw [List.getElem?_eq_none (by omega), List.getElem?_eq_none (by omega)]
    · have e := rot_get (k := d) (i := i % w.length) hd (Nat.mod_lt _ h0)
      rw [h] at e
      rw [e, Nat.add_mod_mod, Nat.add_comm]
  · intro h
    apply ext_get (rot_length d w)
    intro i hi
    rw [rot_length] at hi
    rw [rot_get hd hi, Nat.add_comm, ← h i, Nat.mod_eq_of_lt hi]
theorem rep_of_rp {w : W} {d : Nat} (h : Rp w d) (h0 : 0 < d) (hd : d ≤ w.length) (hn : w.length % d = 0) : rep (w.length / d) (w.take d) = w := by
  have hl : (w.take d).length = d := by rw [List.length_take]; omega
  have hm : w.length / d * d = w.length := Nat.div_mul_cancel (Nat.dvd_of_mod_eq_zero hn)
  apply ext_get
  · rw [rep_len, hl, hm]
  · intro i hi
    rw [rep_len, hl, hm] at hi
    rw [rep_get (by rw [hl, hm]; exact hi), hl, take_get (Nat.mod_lt _ h0)]
    have e := (h.mul (i / d)) (i % d)
    have e2 : i % d + i / d * d = i := by rw [Nat.mul_comm]; exact Nat.mod_add_div i d
    rw [e2, Nat.mod_eq_of_lt hi, Nat.mod_eq_of_lt (by have := Nat.mod_lt i h0; omega)] at e
    exact e
theorem rp_of_rep {w : W} {p : Nat} (hp : p ≤ w.length) (h : rep (w.length / p) (w.take p) = w) (h0 : 0 < w.length) : 0 < p ∧ w.length % p = 0 ∧ Rp w p := by
  have hl : (w.take p).length = p := by rw [List.length_take]; omega
  have hm : w.length / p * p = w.length := by
    have e := congrArg List.length h
    rw [rep_len, hl] at e
    exact e
  have hp0 : 0 < p := by
    rcases Nat.eq_zero_or_pos p with q | q
    · rw [q, Nat.mul_zero] at hm
      omega
    · exact q
  have hd : w.length % p = 0 := by
    have := Nat.div_add_mod w.length p
    rw [Nat.mul_comm] at this
    omega
  refine ⟨hp0, hd, ?_⟩
  rw [← rp_rot hp]
  apply ext_get (rot_length p w)
  intro i hi
  rw [rot_length] at hi
  have gt : ∀ j, j < w.length → w[j]? = (w.take p)[j % p]? := fun j hj => by
    have e := rep_get (n := w.length / p) (l := w.take p) (i := j) (by rw [hl, hm]; exact hj)
    rw [h, hl] at e
    exact e
  rw [rot_get hp hi, gt i hi, gt _ (Nat.mod_lt _ h0)]
  congr 1
  rw [Nat.mod_mod_of_dvd _ (Nat.dvd_of_mod_eq_zero hd), Nat.add_mod_left]
theorem least_rp {w : W} (h0 : 0 < w.length) : ∃ d, 0 < d ∧ d ≤ w.length ∧ Rp w d ∧ ∀ e, 0 < e → e < d → ¬ Rp w e := by
  have key : ∀ n, (∃ d, 0 < d ∧ d ≤ n ∧ Rp w d) → ∃ d, 0 < d ∧ d ≤ n ∧ Rp w d ∧ ∀ e, 0 < e → e < d → ¬ Rp w e := by
    intro n
    induction n with
    | zero => rintro ⟨d, h1, h2, _⟩; omega
    | succ n ih =>
      rintro ⟨d, h1, h2, h3⟩
      by_cases hs : ∃ e, 0 < e ∧ e < d ∧ Rp w e
      · obtain ⟨e, e1, e2, e3⟩ := hs
        obtain ⟨d', g1, g2, g3⟩ := ih ⟨e, e1, by omega, e3⟩
        exact ⟨d', g1, by omega, g3⟩
      · exact ⟨d, h1, h2, h3, fun e e1 e2 e3 => hs ⟨e, e1, e2, e3⟩⟩
  exact key w.length ⟨w.length, h0, Nat.le_refl _, Rp.all w⟩
theorem least_dvd {w : W} {d k : Nat} (h1 : 0 < d) (h2 : Rp w d) (h3 : ∀ e, 0 < e → e < d → ¬ Rp w e) (hk : Rp w k) : k % d = 0 := by
  apply Classical.byContradiction
  intro hn
  refine h3 (k % d) (by omega) (Nat.mod_lt _ h1) ?_
  refine Rp.sub (h2.mul (k / d)) ?_
  have e : k / d * d + k % d = k := by rw [Nat.mul_comm]; exact Nat.div_add_mod k d
  rw [e]
  exact hk
set_option genInjectivity false in
structure RootLen (w : W) (p : Nat) : Prop where
  pos : 0 < p
  le : p ≤ w.length
  is : rep (w.length / p) (w.take p) = w
  no : ∀ q, 0 < q → q < p → rep (w.length / q) (w.take q) ≠ w
theorem RootLen.rp {w : W} {p : Nat} (h : RootLen w p) : Rp w p ∧ w.length % p = 0 ∧ ∀ e, 0 < e → e < p → ¬ Rp w e := by
  have h0 : 0 < w.length := Nat.lt_of_lt_of_le h.pos h.le
  obtain ⟨_, hd, hr⟩ := rp_of_rep h.le h.is h0
  refine ⟨hr, hd, fun e e1 e2 e3 => ?_⟩
  obtain ⟨d, g1, g2, g3, g4⟩ := least_rp h0
  have hdn := least_dvd g1 g3 g4 (Rp.all w)
  have hde : d ≤ e := by
    apply Classical.byContradiction
    intro z
    have := least_dvd g1 g3 g4 e3
    rw [Nat.mod_eq_of_lt (by omega)] at this
    omega
  exact h.no d g1 (by omega) (rep_of_rp g3 g1 g2 hdn)
theorem RootLen.uniq {w : W} {p q : Nat} (h : RootLen w p) (h' : RootLen w q) : p = q := by
  rcases Nat.lt_trichotomy p q with z | z | z
  · exact absurd h.is (h'.no p h.pos z)
  · exact z
  · exact absurd h'.is (h.no q h'.pos z)
end Wd
namespace Wd
theorem rootLen_ex {w : W} (h0 : 0 < w.length) : ∃ p, RootLen w p := by
  have key : ∀ n, (∃ p, 0 < p ∧ p ≤ n ∧ p ≤ w.length ∧ rep (w.length / p) (w.take p) = w) → ∃ p, RootLen w p := by
    intro n
    induction n with
    | zero => rintro ⟨p, h1, h2, _⟩; omega
    | succ n ih =>
      rintro ⟨p, h1, h2, h3, h4⟩
      by_cases hs : ∃ q, 0 < q ∧ q < p ∧ rep (w.length / q) (w.take q) = w
      · obtain ⟨q, q1, q2, q3⟩ := hs
        exact ih ⟨q, q1, by omega, by omega, q3⟩
      · exact ⟨p, h1, h3, h4, fun q q1 q2 q3 => hs ⟨q, q1, q2, q3⟩⟩
  exact key w.length ⟨w.length, h0, Nat.le_refl _, Nat.le_refl _, by rw [Nat.div_self h0, List.take_length, rep_one]⟩
end Wd

namespace Wd
end Wd

namespace Wd
noncomputable def spell (k : Nat) : Nat → Nat → W
  | 0, _ => []
  | n + 1, N => spell k n (N / k) ++ [97 + N % k]
theorem spell_len (k : Nat) : ∀ n N, (spell k n N).length = n
  | 0, _ => rfl
  | n + 1, N => by rw [spell, List.length_append, spell_len k n]; rfl
theorem spell_lt {k : Nat} (hk : 0 < k) : ∀ n N M, N < M → M < k ^ n → spell k n N < spell k n M
  | 0, N, M, h1, h2 => by rw [Nat.pow_zero] at h2; omega
  | n + 1, N, M, h1, h2 => by
    rw [spell, spell]
    have hle : N / k ≤ M / k := Nat.div_le_div_right (Nat.le_of_lt h1)
    rcases Nat.lt_or_eq_of_le hle with h | h
    · exact lt_app (spell_lt hk n _ _ h (Nat.div_lt_of_lt_mul (by rw [Nat.mul_comm, ← Nat.pow_succ]; exact h2))) (by rw [spell_len, spell_len]; exact Nat.le_refl _) _ _
    · rw [h, lt_app_left]
      have e1 := Nat.div_add_mod N k
      have e2 := Nat.div_add_mod M k
      rw [h] at e1
      have : N % k < M % k := by omega
      rw [List.cons_lt_cons_iff]
      left
      omega
theorem spell_mem {k : Nat} (hk : 0 < k) : ∀ n N, ∀ c ∈ spell k n N, 97 ≤ c ∧ c < 97 + k
  | 0, _, c, h => by cases h
  | n + 1, N, c, h => by
    rw [spell, List.mem_append] at h
    rcases h with h | h
    · exact spell_mem hk n _ c h
    · have e : c = 97 + N % k := by simpa using h
      have := Nat.mod_lt N hk
      omega
noncomputable def num (k : Nat) (w : W) : Nat := w.foldl (fun a c => a * k + (c - 97)) 0
theorem num_snoc (k : Nat) (w : W) (c : Nat) : num k (w ++ [c]) = num k w * k + (c - 97) := by
  unfold num
  rw [List.foldl_append]
  rfl
theorem snoc_ex {w : W} (h : 0 < w.length) : ∃ u c, w = u ++ [c] := by
  exact ⟨w.dropLast, w.getLast (List.length_pos_iff.mp h), (List.dropLast_concat_getLast _).symm⟩
theorem spell_num {k : Nat} : ∀ (n : Nat) (w : W), w.length = n → (∀ c ∈ w, 97 ≤ c ∧ c < 97 + k) → spell k n (num k w) = w ∧ num k w < k ^ n
  | 0, w, h, _ => by
    have : w = [] := List.length_eq_zero_iff.mp h
    subst this
    exact ⟨rfl, by rw [Nat.pow_zero]; exact Nat.zero_lt_one⟩
  | n + 1, w, h, hw => by
    obtain ⟨u, c, rfl⟩ := snoc_ex (w := w) (by omega)
    rw [List.length_append] at h
    have hu : u.length = n := by
      have : [c].length = 1 := rfl
      omega
    obtain ⟨h1, h2⟩ := spell_num n u hu fun d hd => hw d (List.mem_append_left _ hd)
    have hc := hw c (by simp)
    have hk : 0 < k := by omega
    have hd : (num k u * k + (c - 97)) / k = num k u := by rw [Nat.add_comm, Nat.add_mul_div_right _ _ hk, Nat.div_eq_of_lt (by omega), Nat.zero_add]
    have hm : (num k u * k + (c - 97)) % k = c - 97 := by rw [Nat.add_comm, Nat.add_mul_mod_self_right, Nat.mod_eq_of_lt (by omega)]
    rw [num_snoc, spell, hd, hm, h1]
    refine ⟨by rw [show 97 + (c - 97) = c by omega], ?_⟩
    rw [Nat.pow_succ]
    have : num k u * k + k ≤ k ^ n * k := by rw [← Nat.succ_mul]; exact Nat.mul_le_mul_right k h2
    omega
noncomputable def allW (k n : Nat) : List W := (List.range (k ^ n)).map (spell k n)
theorem allW_len (k n : Nat) : (allW k n).length = k ^ n := by rw [allW, List.length_map, List.length_range]
end Wd

namespace Wd
noncomputable def Nle (f : Nat → Nat) (n k : Nat) : Prop := ∃ i, i < n ∧ (∀ t, t < i → f ((k + t) % n) = f t) ∧ f ((k + i) % n) < f i
theorem nle_same {f : Nat → Nat} {n k : Nat} (hw : ¬ Nle f n k) : ∀ m, m ≤ n → (∀ t, t < m → f ((k + t) % n) ≤ f t) → ∀ t, t < m → f ((k + t) % n) = f t
  | 0, _, _, t, ht => by omega
  | m + 1, hm, h, t, ht => by
    have ih := nle_same hw m (by omega) (fun t ht => h t (by omega))
    by_cases e : t = m
    · subst e
      have h1 := h t (by omega)
      apply Classical.byContradiction
      intro hne
      exact hw ⟨t, by omega, ih, by omega⟩
    · exact ih t (by omega)
theorem grow_core {u w : Nat → Nat} {n j top : Nat} (hj : j < n) (hw : ∀ k, k < n → ¬ Nle w n k) (ha : ∀ i, i < j → u i = w i) (hb : w j ≤ u j) (hc : ∀ i, j < i → i < n → u i = top) (ht : ∀ i, i < n → w i ≤ top ∧ u i ≤ top) : ∀ k, k < n → ¬ Nle u n k := by
  rintro k hk ⟨i, hi, he, hl⟩
  have hn : 0 < n := by omega
  have hle : ∀ t, t < n → w t ≤ u t := fun t h => by
    rcases Nat.lt_trichotomy t j with h1 | h1 | h1
    · exact Nat.le_of_eq (ha t h1).symm
    · subst h1; exact hb
    · rw [hc t h1 h]; exact (ht t h).1
  have hm : ∀ x, x % n < n := fun x => Nat.mod_lt _ hn
  have hk0 : 0 < k := by
    rcases Nat.eq_zero_or_pos k with h0 | h0
    · subst h0
      rw [Nat.zero_add, Nat.mod_eq_of_lt hi] at hl
      omega
    · exact h0
  have hij : j ≤ i := by
    apply Classical.byContradiction
    intro hij
    have h1 := nle_same (hw k hk) i (by omega) (fun t h => by
      rw [← ha t (by omega), ← he t h]
      exact hle _ (hm _))
    refine hw k hk ⟨i, hi, h1, ?_⟩
    rw [← ha i (by omega)]
    exact Nat.lt_of_le_of_lt (hle _ (hm _)) hl
  have hki : n ≤ k + i := by
    apply Classical.byContradiction
    intro h
    rw [Nat.mod_eq_of_lt (by omega), hc (k + i) (by omega) (by omega)] at hl
    have := (ht i hi).2
    omega
  have hall : (∀ t, t < n → u t = top) → False := fun h => by
    rw [h i hi, h _ (hm _)] at hl
    omega
  by_cases hc1 : n - k ≤ j
  · have h1 := nle_same (hw k hk) (n - k) (by omega) (fun t h => by
      rw [← ha t (by omega), ← he t (by omega)]
      exact hle _ (hm _))
    have h2 : ∀ t, k ≤ t → t < n → w t = u t := fun t h3 h4 => by
      have e1 := h1 (t - k) (by omega)
      have e2 := he (t - k) (by omega)
      rw [show k + (t - k) = t by omega, Nat.mod_eq_of_lt h4] at e1 e2
      rw [e1, e2, ha (t - k) (by omega)]
    by_cases hkj : k ≤ j
    · have h3 : ∀ t, t < n → u t = w t := fun t h => by
        by_cases h4 : t < j
        · exact ha t h4
        · exact (h2 t (by omega) h).symm
      refine hw k hk ⟨i, hi, fun t h => ?_, ?_⟩
      · rw [← h3 _ (hm _), ← h3 t (by omega)]; exact he t h
      · rw [← h3 _ (hm _), ← h3 i hi]; exact hl
    · have h3 : w 0 = top := by
        have e1 := h1 0 (by omega)
        rw [Nat.add_zero, Nat.mod_eq_of_lt hk] at e1
        rw [← e1, h2 k (Nat.le_refl _) hk, hc k (by omega) hk]
      apply hall
      intro t h
      have h4 : top ≤ w t := by
        apply Classical.byContradiction
        intro h5
        refine hw t h ⟨0, hn, fun s h6 => by omega, ?_⟩
        rw [Nat.add_zero, Nat.mod_eq_of_lt h, h3]
        omega
      have h5 := hle t h
      have h6 := (ht t h).2
      omega
  · apply hall
    have h3 : ∀ m t, t < n → n - t ≤ m → u t = top := by
      intro m
      induction m with
      | zero => intro t h1 h2; omega
      | succ m ih =>
        intro t h1 h2
        by_cases h4 : t + k < n
        · have e2 := he t (by omega)
          rw [Nat.mod_eq_of_lt (by omega)] at e2
          rw [← e2]
          exact ih (k + t) (by omega) (by omega)
        · exact hc t (by omega) h1
    intro t h
    exact h3 n t h (by omega)

noncomputable def Okk (k : Nat) (w : W) : Prop := ∀ c ∈ w, 97 ≤ c ∧ c < 97 + k
noncomputable def Lst (w : W) : Prop := w = least w
theorem lst_iff {w : W} : Lst w ↔ ∀ k, k < w.length → ¬ rot k w < w := by
  constructor
  · intro h k hk
    have := least_min hk
    rw [← h] at this
    exact this
  · intro h
    rcases Nat.eq_zero_or_pos w.length with h0 | h0
    · have : w = [] := List.length_eq_zero_iff.mp h0
      subst this
      rfl
    · obtain ⟨i, hi, e⟩ := least_mem h0
      have h1 := h i hi
      rw [← e] at h1
      have h2 := least_min h0
      rw [rot_zero] at h2
      exact tri h2 h1
theorem gD {w : W} {i : Nat} (h : i < w.length) : w[i]? = some (w.getD i 0) := by
  rw [List.getD_eq_getElem?_getD, List.getElem?_eq_getElem h]; rfl
theorem rot_lt_iff {w : W} {k : Nat} (hk : k < w.length) : rot k w < w ↔ Nle (fun i => w.getD i 0) w.length k := by
  have hn : 0 < w.length := by omega
  have hm : ∀ x, x % w.length < w.length := fun x => Nat.mod_lt _ hn
  have hg : ∀ t, t < w.length → (rot k w)[t]? = some (w.getD ((k + t) % w.length) 0) := fun t ht => by
    rw [rot_get (Nat.le_of_lt hk) ht, gD (hm _)]
  constructor
  · intro h
    rcases lt_parts h with ⟨j, c, d, h1, h2, h3, h4⟩ | ⟨h1, _⟩
    · have hj : j < w.length := (List.getElem?_eq_some_iff.mp h3).1
      refine ⟨j, hj, fun t ht => ?_, ?_⟩
      · have e := h1 t ht
        rw [hg t (by omega), gD (by omega)] at e
        exact Option.some.inj e
      · rw [hg j hj] at h2
        rw [gD hj] at h3
        have e1 := Option.some.inj h2
        have e2 := Option.some.inj h3
        show w.getD ((k + j) % w.length) 0 < w.getD j 0
        omega
    · rw [rot_length] at h1
      omega
  · rintro ⟨i, hi, h1, h2⟩
    refine lt_at (j := i) (fun t ht => ?_) (hg i hi) (gD hi) h2
    rw [hg t (by omega), gD (by omega)]
    exact congrArg some (h1 t ht)
theorem lst_nle {w : W} : Lst w ↔ ∀ k, k < w.length → ¬ Nle (fun i => w.getD i 0) w.length k := by
  rw [lst_iff]
  constructor
  · intro h k hk h1; exact h k hk ((rot_lt_iff hk).mpr h1)
  · intro h k hk h1; exact h k hk ((rot_lt_iff hk).mp h1)

noncomputable def fill (k n : Nat) (p : W) : W := p ++ List.replicate (n - p.length) (96 + k)
theorem fill_len {k n : Nat} {p : W} (h : p.length ≤ n) : (fill k n p).length = n := by
  unfold fill; rw [List.length_append, List.length_replicate]; omega
theorem fill_all {k n : Nat} {p : W} (h : n ≤ p.length) : fill k n p = p := by
  unfold fill; rw [show n - p.length = 0 by omega]; exact List.append_nil _
theorem fill_snoc {k n : Nat} {p : W} (h : p.length < n) : fill k n (p ++ [96 + k]) = fill k n p := by
  unfold fill
  rw [List.length_append, List.length_singleton, List.append_assoc, List.singleton_append, ← List.replicate_succ]
  congr 2
  omega
theorem okk_app {k : Nat} {p q : W} : Okk k (p ++ q) ↔ Okk k p ∧ Okk k q := by
  unfold Okk
  constructor
  · intro h; exact ⟨fun c hc => h c (List.mem_append_left _ hc), fun c hc => h c (List.mem_append_right _ hc)⟩
  · rintro ⟨h1, h2⟩ c hc
    rcases List.mem_append.mp hc with h | h
    · exact h1 c h
    · exact h2 c h
theorem okk_fill {k n : Nat} {p : W} (hk : 0 < k) (h : Okk k p) : Okk k (fill k n p) := by
  unfold fill
  rw [okk_app]
  refine ⟨h, fun c hc => ?_⟩
  have := List.eq_of_mem_replicate hc
  omega
theorem okk_getD {k : Nat} {w : W} {i : Nat} (h : Okk k w) (hi : i < w.length) : 97 ≤ w.getD i 0 ∧ w.getD i 0 < 97 + k := by
  apply h
  rw [List.getD_eq_getElem?_getD, List.getElem?_eq_getElem hi]
  exact List.getElem_mem hi
theorem lst_grow {k : Nat} {p r : W} {c d : Nat} (hk : 0 < k) (hw : Lst (p ++ c :: r)) (ho : Okk k (p ++ c :: r)) (hcd : c ≤ d) (hd : d < 97 + k) : Lst (fill k (p ++ c :: r).length (p ++ [d])) := by
  generalize hW : p ++ c :: r = w at *
  have hn : w.length = p.length + 1 + r.length := by rw [← hW, List.length_append, List.length_cons]; omega
  have hl : (fill k w.length (p ++ [d])).length = w.length := fill_len (by rw [List.length_append, List.length_singleton]; omega)
  rw [lst_nle, hl]
  have hc97 : 97 ≤ c := (ho c (by rw [← hW]; exact List.mem_append_right _ (List.mem_cons_self))).1
  have hop : Okk k p := (okk_app.mp (hW ▸ ho)).1
  have hu : Okk k (fill k w.length (p ++ [d])) := okk_fill hk (okk_app.mpr ⟨hop, fun x hx => by
    rw [List.mem_singleton] at hx; omega⟩)
  refine grow_core (w := fun i => w.getD i 0) (j := p.length) (top := 96 + k) (by omega) (lst_nle.mp hw) ?_ ?_ ?_ ?_
  · intro i hi
    simp only [List.getD_eq_getElem?_getD, ← hW]
    unfold fill
    rw [List.append_assoc, List.getElem?_append_left hi, List.getElem?_append_left hi]
  · simp only [List.getD_eq_getElem?_getD, ← hW]
    unfold fill
    rw [List.append_assoc, List.getElem?_append_right (Nat.le_refl _), List.getElem?_append_right (Nat.le_refl _)]
    simp only [Nat.sub_self]
    exact hcd
  · intro i h1 h2
    simp only [List.getD_eq_getElem?_getD]
    unfold fill
    rw [List.getElem?_append_right (by rw [List.length_append, List.length_singleton]; omega), List.getElem?_replicate_of_lt (by rw [List.length_append, List.length_singleton]; omega)]
    rfl
  · intro i hi
    have h1 := okk_getD ho hi
    have h2 := okk_getD hu (i := i) (by rw [hl]; exact hi)
    exact ⟨by show w.getD i 0 ≤ _; omega, by show (fill k w.length (p ++ [d])).getD i 0 ≤ _; omega⟩
noncomputable def IsB (k n : Nat) (p : W) : Prop := p.length ≤ n ∧ Lst (fill k n p)
noncomputable instance (w : W) : Decidable (Lst w) := inferInstanceAs (Decidable (w = least w))
noncomputable instance (k n : Nat) (p : W) : Decidable (IsB k n p) := inferInstanceAs (Decidable (_ ∧ _))
set_option genInjectivity false in
structure LW (k n : Nat) (w : W) : Prop where
  len : w.length = n
  ok : Okk k w
  lst : Lst w
theorem LW.isB {k n : Nat} {w p q : W} (hk : 0 < k) (h : LW k n w) (e : w = p ++ q) : IsB k n p := by
  subst e
  have hl := h.len
  rw [List.length_append] at hl
  refine ⟨by omega, ?_⟩
  cases q with
  | nil => rw [List.append_nil] at h; rw [List.length_nil] at hl; rw [fill_all (by omega)]; exact h.lst
  | cons c r =>
    rw [List.length_cons] at hl
    have h1 := lst_grow hk h.lst h.ok (d := 96 + k) (by have := (h.ok c (List.mem_append_right _ List.mem_cons_self)).2; omega) (by omega)
    rw [h.len, fill_snoc (by omega)] at h1
    exact h1
theorem IsB.lw {k n : Nat} {p : W} (hk : 0 < k) (h : IsB k n p) (ho : Okk k p) : LW k n (fill k n p) := ⟨fill_len h.1, okk_fill hk ho, h.2⟩
theorem IsB.snoc {k n : Nat} {p : W} (h : IsB k n p) (hn : p.length < n) : IsB k n (p ++ [96 + k]) := by
  refine ⟨by rw [List.length_append, List.length_singleton]; omega, ?_⟩
  rw [fill_snoc hn]
  exact h.2
end Wd

namespace Wd
set_option genInjectivity false in
structure LF (k n : Nat) (p q : W) : Prop where
  isb : IsB k n q
  ok : Okk k q
  pre : ∃ s, q = p ++ s
  low : ∀ w, LW k n w → (∃ s, w = p ++ s) → ¬ w.take q.length < q
theorem LF.start {k n : Nat} {p : W} (h : IsB k n p) (ho : Okk k p) : LF k n p p := ⟨h, ho, ⟨[], (List.append_nil _).symm⟩, fun w _ ⟨s, e⟩ => by
  rw [e, List.take_left' rfl]
  exact ltir _⟩
theorem take_split {w : W} {m : Nat} (h : m < w.length) : w = w.take m ++ w.getD m 0 :: w.drop (m + 1) := by
  have : w.getD m 0 = w[m] := by rw [List.getD_eq_getElem?_getD, List.getElem?_eq_getElem h]; rfl
  rw [this, ← List.drop_eq_getElem_cons h, List.take_append_drop]
theorem take_snoc {w : W} {m : Nat} (h : m < w.length) : w.take (m + 1) = w.take m ++ [w.getD m 0] := by
  rw [List.take_add_one, gD h]; rfl
theorem LF.step {k n : Nat} {p q : W} {c : Nat} (hk : 0 < k) (h : LF k n p q) (hq : q.length < n) (hc : 97 ≤ c ∧ c < 97 + k) (hb : IsB k n (q ++ [c])) (hno : ∀ d, 97 ≤ d → d < c → ¬ IsB k n (q ++ [d])) : LF k n p (q ++ [c]) := by
  refine ⟨hb, okk_app.mpr ⟨h.ok, fun x hx => by rw [List.mem_singleton] at hx; omega⟩, ?_, ?_⟩
  · obtain ⟨s, e⟩ := h.pre
    exact ⟨s ++ [c], by rw [e, List.append_assoc]⟩
  · intro w hw hs hl
    have h1 := h.low w hw hs
    have hlen := hw.len
    rw [List.length_append, List.length_singleton, take_snoc (by omega)] at hl
    rcases lt_of_app (by rw [List.length_take]; omega) hl with h2 | ⟨h2, h3⟩
    · exact h1 h2
    · have hd := okk_getD hw.ok (i := q.length) (by omega)
      have h4 : w.getD q.length 0 < c := by
        rcases lt_parts h3 with ⟨j, a, b, _, e2, e3, h5⟩ | ⟨h5, _⟩
        · have hj : j < [c].length := (List.getElem?_eq_some_iff.mp e3).1
          rw [List.length_singleton] at hj
          have : j = 0 := by omega
          subst this
          have e4 := Option.some.inj e2
          have e5 := Option.some.inj e3
          omega
        · simp at h5
      refine hno _ hd.1 h4 (hw.isB hk (q := w.drop (q.length + 1)) ?_)
      rw [← h2, List.append_assoc, List.singleton_append]
      rw [List.length_take, Nat.min_eq_left (by omega)]
      exact take_split (by omega)
set_option genInjectivity false in
structure LB (k n : Nat) (p r : W) : Prop where
  lw : LW k n r
  pre : ∃ s, r = p ++ s
  low : ∀ w, LW k n w → (∃ s, w = p ++ s) → ¬ w < r
theorem LF.done {k n : Nat} {p q : W} (h : LF k n p q) (hq : n ≤ q.length) : LB k n p q := by
  have hl : q.length = n := by have := h.isb.1; omega
  have h1 := h.isb.2
  rw [fill_all hq] at h1
  refine ⟨⟨hl, h.ok, h1⟩, h.pre, fun w hw hs => ?_⟩
  have h2 := h.low w hw hs
  rw [hl, List.take_of_length_le (by rw [hw.len]; exact Nat.le_refl _)] at h2
  exact h2
theorem lt_split {a b : W} (hl : a.length = b.length) (h : a < b) : ∃ p, p < a.length ∧ a.take p = b.take p ∧ a.getD p 0 < b.getD p 0 := by
  rcases lt_parts h with ⟨j, c, d, h1, h2, h3, h4⟩ | ⟨h1, _⟩
  · have hj : j < a.length := (List.getElem?_eq_some_iff.mp h2).1
    refine ⟨j, hj, ?_, ?_⟩
    · apply ext_get
      · rw [List.length_take, List.length_take, hl]
      · intro i hi
        rw [List.length_take] at hi
        rw [take_get (by omega), take_get (by omega)]
        exact h1 i (by omega)
    · rw [gD hj] at h2
      rw [gD (by omega)] at h3
      have e1 := Option.some.inj h2
      have e2 := Option.some.inj h3
      omega
  · omega
theorem lt_join {a b : W} {p : Nat} (ha : p < a.length) (hb : p < b.length) (h1 : a.take p = b.take p) (h2 : a.getD p 0 < b.getD p 0) : a < b := by
  refine lt_at (j := p) (fun i hi => ?_) (gD ha) (gD hb) h2
  rw [← take_get hi, h1, take_get hi]
theorem getD_take {v w : W} {m p : Nat} (h : p < m) (e : v.take m = w.take m) : v.getD p 0 = w.getD p 0 := by
  rw [List.getD_eq_getElem?_getD, List.getD_eq_getElem?_getD, ← take_get h, e, take_get h]
noncomputable def Nn (k : Nat) (w : W) (m : Nat) : Prop := ∀ v, LW k w.length v → ∀ p, m ≤ p → p < w.length → v.take p = w.take p → ¬ w.getD p 0 < v.getD p 0
theorem Nn.start (k : Nat) (w : W) : Nn k w w.length := fun v _ p h1 h2 => by omega
theorem Nn.step {k : Nat} {w : W} {m : Nat} (hk : 0 < k) (h : Nn k w (m + 1)) (hm : m < w.length) (hno : ∀ d, 97 ≤ d → d < 97 + k → w.getD m 0 < d → ¬ IsB k w.length (w.take m ++ [d])) : Nn k w m := by
  intro v hv p h1 h2 h3 h4
  by_cases e : p = m
  · subst e
    have hl := hv.len
    have h5 := okk_getD hv.ok (i := p) (by omega)
    refine hno _ h5.1 h5.2 h4 (hv.isB hk (q := v.drop (p + 1)) ?_)
    rw [← h3, List.append_assoc, List.singleton_append]
    exact take_split (by omega)
  · exact h v hv p (by omega) h2 h3 h4
set_option genInjectivity false in
structure NX (k : Nat) (w r : W) : Prop where
  lw : LW k w.length r
  gt : w < r
  low : ∀ v, LW k w.length v → w < v → ¬ v < r
theorem Nn.found {k : Nat} {w r : W} {m c : Nat} (hk : 0 < k) (h : Nn k w (m + 1)) (hm : m < w.length) (hc : w.getD m 0 < c) (hno : ∀ d, 97 ≤ d → d < c → w.getD m 0 < d → ¬ IsB k w.length (w.take m ++ [d])) (hr : LB k w.length (w.take m ++ [c]) r) : NX k w r := by
  have hrl := hr.lw.len
  obtain ⟨s, es⟩ := hr.pre
  have hmt : (w.take m).length = m := by rw [List.length_take]; omega
  have e1 : r.take m = w.take m := by
    rw [es, List.append_assoc, List.take_left' hmt]
  have e2 : r.getD m 0 = c := by
    rw [es, List.getD_eq_getElem?_getD, List.append_assoc, List.getElem?_append_right (by omega), hmt, Nat.sub_self]
    rfl
  refine ⟨hr.lw, lt_join hm (by omega) e1.symm (by rw [e2]; exact hc), ?_⟩
  intro v hv hwv hvr
  have hvl := hv.len
  obtain ⟨p, h1, h2, h3⟩ := lt_split hvl.symm hwv
  rcases Nat.lt_trichotomy p m with h4 | h4 | h4
  · refine ltir v (ltt hvr (lt_join (p := p) (by omega) (by omega) ?_ ?_))
    · have := congrArg (List.take p) e1
      rw [List.take_take, List.take_take, Nat.min_eq_left (by omega)] at this
      rw [this, h2]
    · have : r.getD p 0 = w.getD p 0 := by
        rw [List.getD_eq_getElem?_getD, List.getD_eq_getElem?_getD, ← take_get h4, e1, take_get h4]
      rw [this]; exact h3
  · subst h4
    have h5 := okk_getD hv.ok (i := p) (by omega)
    have hpre : v = (w.take p ++ [v.getD p 0]) ++ v.drop (p + 1) := by
      rw [h2, List.append_assoc, List.singleton_append]
      exact take_split (by omega)
    rcases Nat.lt_trichotomy (v.getD p 0) c with h6 | h6 | h6
    · exact hno _ h5.1 h6 h3 (hv.isB hk hpre)
    · exact hr.low v hv ⟨v.drop (p + 1), by rw [← h6]; exact hpre⟩ hvr
    · exact ltir v (ltt hvr (lt_join (p := p) (by omega) (by omega) (by rw [e1, h2]) (by rw [e2]; exact h6)))
  · exact h v hv p (by omega) h1 h2.symm h3
theorem Nn.none {k : Nat} {w : W} (h : Nn k w 0) : ∀ v, LW k w.length v → ¬ w < v := fun v hv hwv => by
  obtain ⟨p, h1, h2, h3⟩ := lt_split hv.len.symm hwv
  exact h v hv p (Nat.zero_le _) h1 h2.symm h3
set_option genInjectivity false in
structure LL (k : Nat) (w r : W) : Prop where
  lw : LW k w.length r
  le : ¬ w < r
  high : ∀ v, LW k w.length v → ¬ w < v → ¬ r < v
noncomputable def Jn (k : Nat) (w : W) (m : Nat) : Prop := ∀ v, LW k w.length v → ¬ w < v → v.take m ≠ w.take m
theorem Jn.start {k : Nat} {w : W} (h : ¬ Lst w) : Jn k w w.length := fun v hv _ e => by
  have h1 := hv.len
  rw [List.take_of_length_le (by omega), List.take_of_length_le (Nat.le_refl _)] at e
  subst e
  exact h hv.lst
theorem Jn.part {k : Nat} {w v : W} {m : Nat} (h : Jn k w m) (hm : m ≤ w.length) (hv : LW k w.length v) (hle : ¬ w < v) : ∃ p, p < m ∧ v.take p = w.take p ∧ v.getD p 0 < w.getD p 0 := by
  have hl := hv.len
  have h1 : v < w := by
    apply Classical.byContradiction
    intro h2
    exact h v hv hle (by rw [tri hle h2])
  obtain ⟨p, h2, h3, h4⟩ := lt_split hl h1
  refine ⟨p, ?_, h3, h4⟩
  apply Classical.byContradiction
  intro h5
  apply h v hv hle
  have := congrArg (List.take m) h3
  rw [List.take_take, List.take_take, Nat.min_eq_left (by omega)] at this
  exact this
theorem Jn.a {k : Nat} {w : W} {m : Nat} (h : Jn k w (m + 1)) (hm : m < w.length) (ha : w.getD m 0 ≤ 97) : Jn k w m := by
  intro v hv hle e
  obtain ⟨p, h1, h2, h3⟩ := h.part (by omega) hv hle
  have hl := hv.len
  have h4 := okk_getD hv.ok (i := p) (by omega)
  by_cases h5 : p = m
  · subst h5; omega
  · have : v.getD p 0 = w.getD p 0 := by
      rw [List.getD_eq_getElem?_getD, List.getD_eq_getElem?_getD, ← take_get (show p < m by omega), e, take_get (by omega)]
    omega
theorem Jn.down {k : Nat} {w : W} {m : Nat} (hk : 0 < k) (ho : Okk k w) (h : Jn k w (m + 1)) (hm : m < w.length) (hno : ¬ Lst (fill k w.length (w.take m ++ [w.getD m 0 - 1]))) : Jn k w m := by
  intro v hv hle e
  obtain ⟨p, h1, h2, h3⟩ := h.part (by omega) hv hle
  have hl := hv.len
  by_cases h5 : p = m
  · subst h5
    apply hno
    have h6 := okk_getD ho hm
    have hs := take_split (w := v) (m := p) (by omega)
    have hlw := hv.lst
    have hok := hv.ok
    have hln := hl
    rw [hs] at hlw hok hln
    have h7 := lst_grow hk hlw hok (d := w.getD p 0 - 1) (by omega) (by omega)
    rw [hln, h2] at h7
    exact h7
  · have : v.getD p 0 = w.getD p 0 := by
      rw [List.getD_eq_getElem?_getD, List.getD_eq_getElem?_getD, ← take_get (show p < m by omega), e, take_get (by omega)]
    omega
theorem le_fill {k : Nat} {v p s : W} (hv : Okk k v) (e : v = p ++ s) : ¬ fill k v.length p < v := by
  intro h
  have hl : (fill k v.length p).length = v.length := fill_len (by rw [e, List.length_append]; omega)
  obtain ⟨j, h1, h2, h3⟩ := lt_split hl h
  rw [hl] at h1
  by_cases hj : j < p.length
  · have e1 : (fill k v.length p).getD j 0 = v.getD j 0 := by
      rw [List.getD_eq_getElem?_getD, List.getD_eq_getElem?_getD]
      unfold fill
      rw [List.getElem?_append_left hj]
      rw [e, List.getElem?_append_left hj]
    omega
  · have e1 : (fill k v.length p).getD j 0 = 96 + k := by
      rw [List.getD_eq_getElem?_getD]
      unfold fill
      rw [List.getElem?_append_right (by omega), List.getElem?_replicate_of_lt (by omega)]
      rfl
    have := (okk_getD hv h1).2
    omega
theorem Jn.found {k : Nat} {w : W} {m : Nat} (hk : 0 < k) (ho : Okk k w) (h : Jn k w (m + 1)) (hm : m < w.length) (ha : 97 < w.getD m 0) (hl : Lst (fill k w.length (w.take m ++ [w.getD m 0 - 1]))) : LL k w (fill k w.length (w.take m ++ [w.getD m 0 - 1])) := by
  have hg := okk_getD ho hm
  have hmt : (w.take m).length = m := by rw [List.length_take]; omega
  have hlen : (fill k w.length (w.take m ++ [w.getD m 0 - 1])).length = w.length := fill_len (by rw [List.length_append, List.length_singleton]; omega)
  have hot : Okk k (w.take m) := fun c hc => ho c (List.mem_of_mem_take hc)
  have e1 : (fill k w.length (w.take m ++ [w.getD m 0 - 1])).take m = w.take m := by
    unfold fill
    rw [List.append_assoc, List.take_left' hmt]
  have e2 : (fill k w.length (w.take m ++ [w.getD m 0 - 1])).getD m 0 = w.getD m 0 - 1 := by
    rw [List.getD_eq_getElem?_getD]
    unfold fill
    rw [List.append_assoc, List.getElem?_append_right (by omega), hmt, Nat.sub_self]
    rfl
  refine ⟨⟨hlen, okk_fill hk (okk_app.mpr ⟨hot, fun x hx => by rw [List.mem_singleton] at hx; omega⟩), hl⟩, ?_, ?_⟩
  · intro hlt
    exact ltir _ (ltt hlt (lt_join (p := m) (by omega) hm e1 (by omega)))
  · intro v hv hle hlt
    have hvl := hv.len
    obtain ⟨p, h1, h2, h3⟩ := h.part (by omega) hv hle
    by_cases h5 : p = m
    · subst h5
      rcases Nat.lt_or_ge (v.getD p 0) (w.getD p 0 - 1) with h6 | h6
      · exact ltir _ (ltt hlt (lt_join (p := p) (by omega) (by omega) (by rw [e1, h2]) (by omega)))
      · have hs := take_split (w := v) (m := p) (by omega)
        have h7 := le_fill hv.ok (p := w.take p ++ [w.getD p 0 - 1]) (s := v.drop (p + 1)) (by
          rw [← h2, List.append_assoc, List.singleton_append, show w.getD p 0 - 1 = v.getD p 0 by omega]
          exact hs)
        rw [hvl] at h7
        exact h7 hlt
    · refine ltir _ (ltt hlt (lt_join (p := p) (by omega) (by omega) ?_ ?_))
      · have := congrArg (List.take p) e1
        rw [List.take_take, List.take_take, Nat.min_eq_left (by omega)] at this
        rw [this, h2]
      · have : (fill k w.length (w.take m ++ [w.getD m 0 - 1])).getD p 0 = w.getD p 0 := getD_take (show p < m by omega) e1
        omega
theorem LL.self {k : Nat} {w : W} (ho : Okk k w) (h : Lst w) : LL k w w := ⟨⟨rfl, ho, h⟩, ltir _, fun _ _ h => h⟩
theorem lst_rep (c n : Nat) : Lst (List.replicate n c) := by
  rw [lst_iff]
  intro j hj
  have : rot j (List.replicate n c) = List.replicate n c := by
    apply ext_get
    · rw [rot_length]
    · intro i hi
      rw [rot_length] at hi
      have hn : 0 < (List.replicate n c).length := by omega
      rw [rot_get (Nat.le_of_lt hj) hi]
      rw [List.length_replicate] at *
      rw [List.getElem?_replicate_of_lt hi, List.getElem?_replicate_of_lt (Nat.mod_lt _ (by omega))]
  rw [this]
  exact ltir _
theorem rep_low {k : Nat} {w : W} (ho : Okk k w) : ¬ w < List.replicate w.length 97 := by
  intro h
  obtain ⟨p, h1, _, h3⟩ := lt_split (by rw [List.length_replicate]) h
  have := okk_getD ho h1
  rw [show (List.replicate w.length 97).getD p 0 = 97 by rw [List.getD_eq_getElem?_getD, List.getElem?_replicate_of_lt h1]; rfl] at h3
  omega
theorem Jn.zero {k : Nat} {w : W} (hk : 0 < k) (ho : Okk k w) : ¬ Jn k w 0 := fun h => by
  refine h (List.replicate w.length 97) ⟨List.length_replicate .., fun c hc => ?_, lst_rep _ _⟩ (rep_low ho) rfl
  have := List.eq_of_mem_replicate hc
  omega
end Wd

namespace Wd
theorem mem_allW {k n : Nat} {w : W} (hk : 0 < k) : w ∈ allW k n ↔ w.length = n ∧ Okk k w := by
  unfold allW
  rw [List.mem_map]
  constructor
  · rintro ⟨i, _, rfl⟩
    exact ⟨spell_len k n i, spell_mem hk n i⟩
  · rintro ⟨hl, ho⟩
    obtain ⟨h1, h2⟩ := spell_num n w hl ho
    exact ⟨num k w, List.mem_range.mpr h2, h1⟩
theorem allW_sorted {k n : Nat} (hk : 0 < k) : (allW k n).Pairwise (· < ·) := by
  unfold allW
  rw [List.pairwise_map]
  refine List.Pairwise.imp_of_mem ?_ List.pairwise_lt_range
  intro a b _ hb hab
  exact spell_lt hk n a b hab (List.mem_range.mp hb)
noncomputable def LO (k n : Nat) : List W := (allW k n).filter fun w => decide (least w = w)
theorem mem_LO {k n : Nat} {w : W} (hk : 0 < k) : w ∈ LO k n ↔ LW k n w := by
  unfold LO
  rw [List.mem_filter, mem_allW hk, decide_eq_true_iff]
  constructor
  · rintro ⟨⟨h1, h2⟩, h3⟩; exact ⟨h1, h2, h3.symm⟩
  · rintro ⟨h1, h2, h3⟩; exact ⟨⟨h1, h2⟩, Eq.symm h3⟩
theorem LO_sorted {k n : Nat} (hk : 0 < k) : (LO k n).Pairwise (· < ·) := (allW_sorted hk).filter _
theorem LO_pos {k n : Nat} (hk : 0 < k) : 0 < (LO k n).length := by
  have : List.replicate n 97 ∈ LO k n := (mem_LO hk).mpr ⟨List.length_replicate .., fun c hc => by have := List.eq_of_mem_replicate hc; omega, lst_rep _ _⟩
  exact List.length_pos_of_mem this
theorem sorted_head {l : List W} {p : W → Bool} (h : l.Pairwise (· < ·)) {w : W} {r : List W} (e : l.filter p = w :: r) : w ∈ l ∧ p w = true ∧ ∀ v ∈ l, p v = true → ¬ v < w := by
  have h1 : w ∈ l.filter p := by rw [e]; exact List.mem_cons_self
  have h2 := h.filter p
  rw [e] at h2
  refine ⟨(List.mem_filter.mp h1).1, (List.mem_filter.mp h1).2, fun v hv hp hlt => ?_⟩
  have h3 : v ∈ w :: r := by rw [← e]; exact List.mem_filter.mpr ⟨hv, hp⟩
  rcases List.mem_cons.mp h3 with h4 | h4
  · rw [h4] at hlt; exact ltir _ hlt
  · exact ltir _ (ltt hlt ((List.pairwise_cons.mp h2).1 v h4))
noncomputable def begs (p w : W) : Bool := decide (w.take p.length = p)
theorem begs_iff {p w : W} : begs p w = true ↔ ∃ s, w = p ++ s := by
  unfold begs
  rw [decide_eq_true_iff]
  constructor
  · intro h
    exact ⟨w.drop p.length, by conv => lhs; rw [← List.take_append_drop p.length w, h]⟩
  · rintro ⟨s, rfl⟩
    exact List.take_left' rfl
theorem begs_head {k n : Nat} {p w : W} {r : List W} (hk : 0 < k) (e : (LO k n).filter (begs p) = w :: r) : LB k n p w := by
  obtain ⟨h1, h2, h3⟩ := sorted_head (LO_sorted hk) e
  refine ⟨(mem_LO hk).mp h1, begs_iff.mp h2, fun v hv hs => h3 v ((mem_LO hk).mpr hv) (begs_iff.mpr hs)⟩
theorem rep_letter (m c : Nat) : rep m [c] = List.replicate m c := by
  induction m with
  | zero => rfl
  | succ m ih => rw [rep_succ, ih, List.replicate_succ]; rfl
theorem allW_succ (k n : Nat) (hk : 0 < k) : allW k (n + 1) = (allW k n).flatMap fun w => (List.range k).map fun c => w ++ [97 + c] := by
  unfold allW
  rw [List.flatMap_map, Nat.pow_succ]
  generalize k ^ n = m
  induction m with
  | zero => simp
  | succ m ih =>
    rw [Nat.succ_mul, List.range_add, List.map_append, ih, List.range_succ, List.flatMap_append]
    congr 1
    simp only [List.flatMap_cons, List.flatMap_nil, List.append_nil, List.map_map]
    apply List.map_congr_left
    intro c hc
    have hc' := List.mem_range.mp hc
    show spell k (n + 1) (m * k + c) = _
    rw [spell]
    have e1 : (m * k + c) / k = m := by rw [Nat.mul_comm, Nat.mul_add_div hk, Nat.div_eq_of_lt hc']; omega
    have e2 : (m * k + c) % k = c := by rw [Nat.mul_comm, Nat.mul_add_mod, Nat.mod_eq_of_lt hc']
    rw [e1, e2]
end Wd

namespace Wd
end Wd

namespace Wd
theorem okk_rot {k j : Nat} {w : W} (h : Okk k w) : Okk k (rot j w) := fun c hc => by
  unfold rot at hc
  rcases List.mem_append.mp hc with z | z
  · exact h c (List.mem_of_mem_drop z)
  · exact h c (List.mem_of_mem_take z)
theorem lw_least {k : Nat} {w : W} (h0 : 0 < w.length) (ho : Okk k w) : LW k w.length (least w) := by
  obtain ⟨i, hi, e⟩ := least_mem h0
  refine ⟨by rw [e, rot_length], by rw [e]; exact okk_rot ho, ?_⟩
  show least w = least (least w)
  conv => rhs; rw [e, least_rot hi]
theorem between {p a b v : W} (ha : ∃ s, a = p ++ s) (hb : ∃ s, b = p ++ s) (hv : p.length ≤ v.length) (h1 : ¬ v < a) (h2 : ¬ b < v) : ∃ s, v = p ++ s := by
  obtain ⟨x, rfl⟩ := ha
  obtain ⟨y, rfl⟩ := hb
  refine ⟨v.drop p.length, ?_⟩
  have hl : (v.take p.length).length = p.length := by rw [List.length_take]; omega
  have e : v = v.take p.length ++ v.drop p.length := (List.take_append_drop _ _).symm
  have h3 : ¬ v.take p.length < p := fun z => h1 (by rw [e]; exact lt_app z (by omega) _ _)
  have h4 : ¬ p < v.take p.length := fun z => h2 (by rw [e]; exact lt_app z (by omega) _ _)
  conv => lhs; rw [e, tri h3 h4]
end Wd

namespace Wd
theorem rp_of_rots {w : W} {i j : Nat} (hij : i ≤ j) (hj : j ≤ w.length) (h : rot i w = rot j w) : Rp w (j - i) := by
  intro x
  rcases Nat.eq_zero_or_pos w.length with z | hn
  · have : w = [] := List.length_eq_zero_iff.mp z
    subst this
    rfl
  · have hm := Nat.mod_lt (x % w.length + w.length - i) hn
    have e := congrArg (fun l : W => l[(x % w.length + w.length - i) % w.length]?) h
    rw [rot_get (by omega) hm, rot_get hj hm, Nat.add_mod_mod, Nat.add_mod_mod] at e
    rw [show i + (x % w.length + w.length - i) = x % w.length + w.length by omega, Nat.add_mod_right, Nat.mod_mod] at e
    rw [show j + (x % w.length + w.length - i) = (x % w.length + (j - i)) + w.length by omega, Nat.add_mod_right, Nat.mod_add_mod] at e
    exact e
theorem rot_mod {w : W} {p k : Nat} (h : Rp w p) (hk : k ≤ w.length) : rot k w = rot (k % p) w := by
  have hle : k % p ≤ w.length := Nat.le_trans (Nat.mod_le _ _) hk
  apply ext_get
  · rw [rot_length, rot_length]
  · intro m hm
    rw [rot_length] at hm
    rw [rot_get hk hm, rot_get hle hm]
    have e := h.mul (k / p) (k % p + m)
    rw [e]
    congr 2
    have := Nat.div_add_mod k p
    rw [Nat.mul_comm] at this
    omega
theorem nodup_le : ∀ (a b : List W), a.Nodup → (∀ x ∈ a, x ∈ b) → a.length ≤ b.length
  | [], b, _, _ => Nat.zero_le _
  | x :: a, b, hn, hs => by
    obtain ⟨h1, h2⟩ := List.nodup_cons.mp hn
    have hx : x ∈ b := hs x List.mem_cons_self
    have := nodup_le a (b.erase x) h2 fun y hy => (List.mem_erase_of_ne (fun e => h1 (by rw [← e]; exact hy))).mpr (hs y (List.mem_cons_of_mem _ hy))
    rw [List.length_erase_of_mem hx] at this
    have hp : 0 < b.length := List.length_pos_of_mem hx
    rw [List.length_cons]
    omega
theorem turns_count {w : W} {p : Nat} (h : RootLen w p) (u : List W) (hu : u.Nodup) (hm : ∀ x, x ∈ u ↔ x ∈ (List.range w.length).map fun k => rot k w) : u.length = p := by
  obtain ⟨r1, r2, r3⟩ := h.rp
  have hpos := h.pos
  have hle := h.le
  have hd : ((List.range p).map fun k => rot k w).Nodup := by
    unfold List.Nodup
    rw [List.pairwise_iff_getElem]
    intro i j hi hj hij e
    rw [List.length_map, List.length_range] at hi hj
    rw [List.getElem_map, List.getElem_map, List.getElem_range, List.getElem_range] at e
    exact r3 (j - i) (by omega) (by omega) (rp_of_rots (by omega) (by omega) e)
  have hs : ∀ x, x ∈ u ↔ x ∈ (List.range p).map fun k => rot k w := fun x => by
    rw [hm x, List.mem_map, List.mem_map]
    constructor
    · rintro ⟨k, hk, rfl⟩
      have hk' := List.mem_range.mp hk
      exact ⟨k % p, List.mem_range.mpr (Nat.mod_lt _ hpos), (rot_mod r1 (by omega)).symm⟩
    · rintro ⟨k, hk, rfl⟩
      have hk' := List.mem_range.mp hk
      exact ⟨k, List.mem_range.mpr (by omega), rfl⟩
  have l1 := nodup_le u _ hu fun x hx => (hs x).mp hx
  have l2 := nodup_le _ u hd fun x hx => (hs x).mpr hx
  rw [List.length_map, List.length_range] at l1 l2
  omega
end Wd

set_option Elab.async false
set_option linter.all false
namespace Wd
noncomputable def Exq (w s : W) : Prop := ∃ p, p < s.length ∧ p < w.length ∧ (∀ t, t < p → s.getD t 0 = w.getD t 0) ∧ w.getD p 0 < s.getD p 0
noncomputable def Pd (w v : W) : Prop := ∀ d, d < v.length → Exq w (v.drop d)
theorem getD_drop (v : W) (d t : Nat) : (v.drop d).getD t 0 = v.getD (d + t) 0 := by
  rw [List.getD_eq_getElem?_getD, List.getD_eq_getElem?_getD, List.getElem?_drop]
theorem getD_app_l {a b : W} {t : Nat} (h : t < a.length) : (a ++ b).getD t 0 = a.getD t 0 := by
  rw [List.getD_eq_getElem?_getD, List.getD_eq_getElem?_getD, List.getElem?_append_left h]
theorem getD_app_r {a b : W} {t : Nat} (h : a.length ≤ t) : (a ++ b).getD t 0 = b.getD (t - a.length) 0 := by
  rw [List.getD_eq_getElem?_getD, List.getD_eq_getElem?_getD, List.getElem?_append_right h]
theorem getD_tk {a : W} {t m : Nat} (h : t < m) : (a.take m).getD t 0 = a.getD t 0 := by
  rw [List.getD_eq_getElem?_getD, List.getD_eq_getElem?_getD, List.getElem?_take_of_lt h]
theorem ext_getD {a b : W} (hl : a.length = b.length) (h : ∀ i, i < a.length → a.getD i 0 = b.getD i 0) : a = b :=
  ext_get hl fun i hi => by rw [gD hi, gD (by omega), h i hi]
theorem Exq.app {w s : W} (h : Exq w s) (r : W) : Exq w (s ++ r) := by
  obtain ⟨p, h1, h2, h3, h4⟩ := h
  refine ⟨p, by rw [List.length_append]; omega, h2, fun t ht => ?_, ?_⟩
  · rw [getD_app_l (by omega)]; exact h3 t ht
  · rw [getD_app_l h1]; exact h4
theorem ex_lt {w u : W} (hl : u.length = w.length) : Exq w u ↔ w < u := by
  constructor
  · rintro ⟨p, h1, h2, h3, h4⟩
    refine lt_join (p := p) h2 h1 (ext_getD ?_ fun i hi => ?_) h4
    · rw [List.length_take, List.length_take, hl]
    · rw [List.length_take] at hi
      rw [getD_tk (by omega), getD_tk (by omega), h3 i (by omega)]
  · intro h
    obtain ⟨p, h1, h2, h3⟩ := lt_split hl.symm h
    exact ⟨p, by omega, h1, fun t ht => (getD_take ht h2).symm, h3⟩
theorem Exq.uniq {w s : W} {p q : Nat} (h1 : ∀ t, t < p → s.getD t 0 = w.getD t 0) (h2 : w.getD p 0 < s.getD p 0) (h3 : ∀ t, t < q → s.getD t 0 = w.getD t 0) (h4 : w.getD q 0 < s.getD q 0) : p = q := by
  rcases Nat.lt_trichotomy p q with h | h | h
  · have := h3 p h; omega
  · exact h
  · have := h1 q h; omega
theorem lst_cmp {w : W} (hw : Lst w) {d : Nat} : ∀ m, d + m ≤ w.length → (∀ t, t < m → w.getD (d + t) 0 = w.getD t 0) ∨ ∃ i, i < m ∧ (∀ t, t < i → w.getD (d + t) 0 = w.getD t 0) ∧ w.getD i 0 < w.getD (d + i) 0
  | 0, _ => .inl fun t ht => absurd ht (by omega)
  | m + 1, hm => by
    rcases lst_cmp (d := d) hw m (by omega) with h | ⟨i, hi, h1, h2⟩
    · have hno := lst_nle.mp hw d (by omega)
      have hle : ¬ w.getD (d + m) 0 < w.getD m 0 := fun hlt => hno ⟨m, by omega, fun t ht => by
        show w.getD ((d + t) % w.length) 0 = w.getD t 0
        rw [Nat.mod_eq_of_lt (by omega)]; exact h t ht, by
        show w.getD ((d + m) % w.length) 0 < w.getD m 0
        rw [Nat.mod_eq_of_lt (by omega)]; exact hlt⟩
      by_cases e : w.getD (d + m) 0 = w.getD m 0
      · refine .inl fun t ht => ?_
        by_cases et : t = m
        · rw [et]; exact e
        · exact h t (by omega)
      · exact .inr ⟨m, by omega, h, by omega⟩
    · exact .inr ⟨i, by omega, h1, h2⟩
theorem ex_in {w r : W} (hw : Lst w) {p d x : Nat} (hp : p < w.length) (hd : d ≤ p) (hx : w.getD p 0 < x) : Exq w ((w.take p).drop d ++ x :: r) := by
  have hl : ((w.take p).drop d).length = p - d := by rw [List.length_drop, List.length_take]; omega
  have hat : ∀ t, t < p - d → ((w.take p).drop d ++ x :: r).getD t 0 = w.getD (d + t) 0 := fun t ht => by
    rw [getD_app_l (by omega), getD_drop, getD_tk (by omega)]
  have hend : ((w.take p).drop d ++ x :: r).getD (p - d) 0 = x := by
    rw [getD_app_r (by omega), hl, Nat.sub_self]; rfl
  have hlen : ((w.take p).drop d ++ x :: r).length = p - d + 1 + r.length := by rw [List.length_append, hl, List.length_cons]; omega
  rcases lst_cmp hw (d := d) (p - d) (by omega) with h | ⟨i, hi, h1, h2⟩
  · refine ⟨p - d, by omega, by omega, fun t ht => by rw [hat t ht]; exact h t ht, ?_⟩
    rw [hend]
    rcases lst_cmp hw (d := d) (p - d + 1) (by omega) with h' | ⟨i, hi, h1, h2⟩
    · have := h' (p - d) (by omega)
      rw [show d + (p - d) = p by omega] at this
      omega
    · have e : i = p - d := by
        refine Classical.byContradiction fun e => ?_
        have := h i (by omega)
        omega
      subst e
      rw [show d + (p - d) = p by omega] at h2
      omega
  · exact ⟨i, by omega, by omega, fun t ht => by rw [hat t (by omega)]; exact h1 t ht, by rw [hat i hi]; exact h2⟩
theorem Pd.parts {w v : W} (h : Pd w v) (h0 : 0 < v.length) : ∃ p, p < v.length ∧ p < w.length ∧ v.take p = w.take p ∧ w.getD p 0 < v.getD p 0 ∧ v = w.take p ++ v.getD p 0 :: v.drop (p + 1) ∧ Pd w (v.drop (p + 1)) := by
  obtain ⟨p, h1, h2, h3, h4⟩ := h 0 h0
  rw [List.drop_zero] at h1 h3 h4
  have he : v.take p = w.take p := ext_getD (by rw [List.length_take, List.length_take]; omega) fun i hi => by
    rw [List.length_take] at hi
    rw [getD_tk (by omega), getD_tk (by omega), h3 i (by omega)]
  refine ⟨p, h1, h2, he, h4, ?_, fun d hd => ?_⟩
  · rw [← he]; exact take_split h1
  · rw [List.length_drop] at hd
    rw [List.drop_drop]
    exact h (p + 1 + d) (by omega)
theorem drop_blk {w r : W} {p x d : Nat} (hp : p < w.length) (hd : d ≤ p) : (w.take p ++ x :: r).drop d = (w.take p).drop d ++ x :: r := List.drop_append_of_le_length (by rw [List.length_take]; omega)
theorem drop_rest {w r : W} {p x d : Nat} (hp : p < w.length) (hd : p < d) : (w.take p ++ x :: r).drop d = r.drop (d - p - 1) := by
  have hl : (w.take p).length = p := by rw [List.length_take]; omega
  rw [List.drop_append, List.drop_eq_nil_of_le (by omega), List.nil_append, hl, show d - p = (d - p - 1) + 1 by omega, List.drop_succ_cons]
  rfl
theorem blk_len {w r : W} {p x : Nat} (hp : p < w.length) : (w.take p ++ x :: r).length = p + 1 + r.length := by rw [List.length_append, List.length_take, List.length_cons]; omega
theorem pd_blk {w r : W} (hw : Lst w) {p x : Nat} (hp : p < w.length) (hx : w.getD p 0 < x) (hr : Pd w r) : Pd w (w.take p ++ x :: r) := fun d hd => by
  rw [blk_len hp] at hd
  by_cases h : d ≤ p
  · rw [drop_blk hp h]; exact ex_in hw hp h hx
  · rw [drop_rest hp (by omega)]; exact hr _ (by omega)
noncomputable def gr (k : Nat) (w : W) (p : Nat) : List Nat := (List.range (96 + k - w.getD p 0)).map fun c => w.getD p 0 + 1 + c
theorem gr_len (k : Nat) (w : W) (p : Nat) : (gr k w p).length = 96 + k - w.getD p 0 := by rw [gr, List.length_map, List.length_range]
theorem mem_gr {k : Nat} {w : W} {p x : Nat} : x ∈ gr k w p ↔ w.getD p 0 < x ∧ x < 97 + k := by
  unfold gr
  rw [List.mem_map]
  constructor
  · rintro ⟨c, hc, rfl⟩
    have := List.mem_range.mp hc
    omega
  · intro h
    exact ⟨x - w.getD p 0 - 1, List.mem_range.mpr (by omega), by omega⟩
theorem gr_nodup (k : Nat) (w : W) (p : Nat) : (gr k w p).Nodup := List.pairwise_map.mpr (List.nodup_range.imp fun h e => h (by omega))
noncomputable def pw (k : Nat) (w : W) : Nat → List W
  | 0 => [[]]
  | t + 1 => (List.range (t + 1)).flatMap fun p => (gr k w p).flatMap fun x => (pw k w (t - p)).map fun r => w.take p ++ x :: r
termination_by t => t
decreasing_by omega
theorem pw_zero (k : Nat) (w : W) : pw k w 0 = [[]] := by rw [pw]
theorem pw_succ (k : Nat) (w : W) (t : Nat) : pw k w (t + 1) = (List.range (t + 1)).flatMap fun p => (gr k w p).flatMap fun x => (pw k w (t - p)).map fun r => w.take p ++ x :: r := by rw [pw]
theorem okk_take {k m : Nat} {w : W} (h : Okk k w) : Okk k (w.take m) := fun c hc => h c (List.mem_of_mem_take hc)
theorem okk_drop {k m : Nat} {w : W} (h : Okk k w) : Okk k (w.drop m) := fun c hc => h c (List.mem_of_mem_drop hc)
theorem mem_pw {k : Nat} {w : W} (hw : Lst w) (ho : Okk k w) : ∀ (n t : Nat), t ≤ n → t ≤ w.length → ∀ v, v ∈ pw k w t ↔ v.length = t ∧ Okk k v ∧ Pd w v := by
  intro n
  induction n with
  | zero =>
    intro t ht _ v
    obtain rfl : t = 0 := by omega
    rw [pw_zero, List.mem_singleton]
    constructor
    · rintro rfl
      exact ⟨rfl, fun c hc => by simp at hc, fun d hd => by simp at hd⟩
    · rintro ⟨h, _⟩
      exact List.length_eq_zero_iff.mp h
  | succ n ih =>
    intro t ht htw v
    cases t with
    | zero => exact ih 0 (by omega) (by omega) v
    | succ t =>
      rw [pw_succ, List.mem_flatMap]
      constructor
      · rintro ⟨p, hp, h⟩
        have hp := List.mem_range.mp hp
        obtain ⟨x, hx, h⟩ := List.mem_flatMap.mp h
        obtain ⟨r, hr, rfl⟩ := List.mem_map.mp h
        obtain ⟨h1, h2, h3⟩ := (ih (t - p) (by omega) (by omega) r).mp hr
        obtain ⟨x1, x2⟩ := mem_gr.mp hx
        have hok := okk_getD ho (i := p) (by omega)
        refine ⟨by rw [blk_len (by omega)]; omega, okk_app.mpr ⟨okk_take ho, fun c hc => ?_⟩, pd_blk hw (by omega) x1 h3⟩
        rcases List.mem_cons.mp hc with rfl | hc
        · omega
        · exact h2 c hc
      · rintro ⟨h1, h2, h3⟩
        obtain ⟨p, hp1, hp2, he, hx, e, hr⟩ := h3.parts (by omega)
        have hv := okk_getD h2 hp1
        refine ⟨p, List.mem_range.mpr (by omega), List.mem_flatMap.mpr ⟨v.getD p 0, mem_gr.mpr ⟨hx, hv.2⟩, List.mem_map.mpr ⟨v.drop (p + 1), (ih (t - p) (by omega) (by omega) _).mpr ⟨by rw [List.length_drop]; omega, okk_drop h2, hr⟩, e.symm⟩⟩⟩
theorem blk_inj {w r r' : W} {p p' x x' : Nat} (hp : p < w.length) (hp' : p' < w.length) (hx : w.getD p 0 < x) (hx' : w.getD p' 0 < x') (e : w.take p ++ x :: r = w.take p' ++ x' :: r') : p = p' ∧ x = x' ∧ r = r' := by
  have key : ∀ {p x : Nat} {r : W}, p < w.length → (∀ t, t < p → (w.take p ++ x :: r).getD t 0 = w.getD t 0) ∧ (w.take p ++ x :: r).getD p 0 = x := fun {p x r} hp => by
    have hl : (w.take p).length = p := by rw [List.length_take]; omega
    refine ⟨fun t ht => by rw [getD_app_l (by omega), getD_tk ht], ?_⟩
    rw [getD_app_r (by omega), hl, Nat.sub_self]; rfl
  have k1 := key (x := x) (r := r) hp
  have k2 := key (x := x') (r := r') hp'
  rw [← e] at k2
  have hpp : p = p' := Exq.uniq (w := w) (s := w.take p ++ x :: r) k1.1 (by rw [k1.2]; exact hx) k2.1 (by rw [k2.2]; exact hx')
  subst hpp
  have := List.append_cancel_left e
  exact ⟨rfl, List.cons.inj this⟩
theorem nodup_fm {α β : Type} {l : List α} {f : α → List β} (hl : l.Nodup) (h1 : ∀ a ∈ l, (f a).Nodup) (h2 : ∀ a ∈ l, ∀ b ∈ l, ∀ x, x ∈ f a → x ∈ f b → a = b) : (l.flatMap f).Nodup := by
  induction l with
  | nil => exact List.nodup_nil
  | cons a l ih =>
    rw [List.flatMap_cons]
    have hl' := List.nodup_cons.mp hl
    refine List.nodup_append.mpr ⟨h1 a (List.mem_cons_self ..), ih hl'.2 (fun b hb => h1 b (List.mem_cons_of_mem _ hb)) (fun b hb c hc => h2 b (List.mem_cons_of_mem _ hb) c (List.mem_cons_of_mem _ hc)), fun x hx y hy e => ?_⟩
    subst e
    obtain ⟨b, hb, hy⟩ := List.mem_flatMap.mp hy
    have := h2 a (List.mem_cons_self ..) b (List.mem_cons_of_mem _ hb) x hx hy
    exact hl'.1 (this ▸ hb)
theorem nodup_mp {α β : Type} {l : List α} {f : α → β} (hl : l.Nodup) (h : ∀ a ∈ l, ∀ b ∈ l, f a = f b → a = b) : (l.map f).Nodup :=
  List.pairwise_map.mpr (List.Pairwise.imp_of_mem (fun {a b} ha hb hab e => hab (h a ha b hb e)) hl)
theorem pw_nodup {k : Nat} {w : W} (hw : Lst w) (ho : Okk k w) : ∀ (n t : Nat), t ≤ n → t ≤ w.length → (pw k w t).Nodup := by
  intro n
  induction n with
  | zero =>
    intro t ht _
    obtain rfl : t = 0 := by omega
    rw [pw_zero]
    simp
  | succ n ih =>
    intro t ht htw
    cases t with
    | zero => exact ih 0 (by omega) (by omega)
    | succ t =>
      rw [pw_succ]
      refine nodup_fm List.nodup_range (fun p hp => nodup_fm (gr_nodup ..) (fun x hx => nodup_mp (ih _ (by omega) (by omega)) fun a _ b _ e => ?_) fun x hx y hy v hv hv' => ?_) fun p hp p' hp' v hv hv' => ?_
      · exact (List.cons.inj (List.append_cancel_left e)).2
      · obtain ⟨r, _, rfl⟩ := List.mem_map.mp hv
        obtain ⟨r', _, e⟩ := List.mem_map.mp hv'
        exact (List.cons.inj (List.append_cancel_left e)).1.symm
      · obtain ⟨x, hx, h⟩ := List.mem_flatMap.mp hv
        obtain ⟨r, _, rfl⟩ := List.mem_map.mp h
        obtain ⟨x', hx', h'⟩ := List.mem_flatMap.mp hv'
        obtain ⟨r', _, e⟩ := List.mem_map.mp h'
        have := List.mem_range.mp hp
        have := List.mem_range.mp hp'
        exact (blk_inj (by omega) (by omega) (mem_gr.mp hx').1 (mem_gr.mp hx).1 e).1.symm
theorem sum_const {α : Type} (l : List α) (c : Nat) : (l.map fun _ => c).sum = l.length * c := by
  induction l with
  | nil => simp
  | cons a l ih => rw [List.map_cons, List.sum_cons, ih, List.length_cons, Nat.succ_mul]; omega
theorem fm_len {α β : Type} (l : List α) (f : α → List β) (c : Nat) (h : ∀ a, (f a).length = c) : (l.flatMap f).length = l.length * c := by
  rw [List.length_flatMap, show (l.map fun a => (f a).length) = l.map fun _ => c from List.map_congr_left fun a _ => h a, sum_const]
theorem pw_len (k : Nat) (w : W) (t : Nat) : (pw k w (t + 1)).length = ((List.range (t + 1)).map fun p => (96 + k - w.getD p 0) * (pw k w (t - p)).length).sum := by
  rw [pw_succ, List.length_flatMap]
  refine congrArg List.sum (List.map_congr_left fun p _ => ?_)
  rw [fm_len _ _ (pw k w (t - p)).length (fun x => List.length_map ..), gr_len]
theorem rot_inj {j : Nat} {a b : W} (hl : a.length = b.length) (h : rot j a = rot j b) : a = b := by
  unfold rot at h
  obtain ⟨h1, h2⟩ := List.append_inj h (by rw [List.length_drop, List.length_drop, hl])
  rw [← List.take_append_drop j a, ← List.take_append_drop j b, h1, h2]
theorem Pd.turns {w v : W} (h : Pd w v) (hl : v.length = w.length) {d : Nat} (hd : d < v.length) : w < rot d v :=
  (ex_lt (by rw [rot_length, hl])).mp ((h d hd).app _)
theorem least_lst {u : W} (h0 : 0 < u.length) : Lst (least u) := by
  obtain ⟨i, hi, e⟩ := least_mem h0
  show least u = least (least u)
  rw [e, least_rot hi, ← e]
theorem least_len (u : W) : (least u).length = u.length := by rw [least_eq, rot_length]
theorem turns_least {w u : W} (h0 : 0 < u.length) : (∀ d, d < u.length → w < rot d u) ↔ w < least u := by
  constructor
  · intro h
    obtain ⟨i, hi, e⟩ := least_mem h0
    rw [e]; exact h i hi
  · intro h d hd
    exact ltle h (least_min hd)
theorem least_pd {w u : W} (hw : Lst w) (hl : u.length = w.length) (h0 : 0 < u.length) (h : w < least u) : Pd w (least u) := by
  intro d hd
  have hlv : (least u).length = w.length := by rw [least_len, hl]
  have hv := least_lst h0
  have hnle := lst_nle.mp hv
  have hturn : w < rot d (least u) := ltle h (lst_iff.mp hv d hd)
  generalize least u = v at hlv hv hnle h hd hturn
  obtain ⟨p, h1, h2, h3, h4⟩ := (ex_lt (by rw [rot_length, hlv])).mpr hturn
  rw [rot_length] at h1
  have hrot : ∀ t, t < v.length → (rot d v).getD t 0 = v.getD ((d + t) % v.length) 0 := fun t ht => by
    rw [List.getD_eq_getElem?_getD, rot_get (by omega) ht, ← List.getD_eq_getElem?_getD]
  by_cases hp : p < v.length - d
  · refine ⟨p, by rw [List.length_drop]; exact hp, h2, fun t ht => ?_, ?_⟩
    · rw [getD_drop, ← h3 t ht, hrot t (by omega), Nat.mod_eq_of_lt (by omega)]
    · rw [getD_drop]
      rw [hrot p h1, Nat.mod_eq_of_lt (by omega)] at h4
      exact h4
  · exfalso
    have hd0 : 0 < d := by omega
    obtain ⟨q, q1, q2, q3, q4⟩ := (ex_lt hlv).mpr h
    obtain ⟨m, hm⟩ : ∃ m, m = v.length - d := ⟨_, rfl⟩
    have a1 : ∀ t, t < m → v.getD (d + t) 0 = w.getD t 0 := fun t ht => by
      have := h3 t (by omega)
      rw [hrot t (by omega), Nat.mod_eq_of_lt (by omega)] at this
      exact this
    have hq : m ≤ q := by
      refine Classical.byContradiction fun hq => hnle d hd ⟨q, q1, fun t ht => ?_, ?_⟩
      · show v.getD ((d + t) % v.length) 0 = v.getD t 0
        rw [Nat.mod_eq_of_lt (by omega), a1 t (by omega), q3 t ht]
      · show v.getD ((d + q) % v.length) 0 < v.getD q 0
        rw [Nat.mod_eq_of_lt (by omega), a1 q (by omega)]
        exact q4
    have a2 : ∀ t, t < m → v.getD ((d + t) % v.length) 0 = v.getD t 0 := fun t ht => by
      rw [Nat.mod_eq_of_lt (by omega), a1 t ht, q3 t (by omega)]
    have a3 : ∀ n t, t < n → t < d → v.getD (m + t) 0 = v.getD t 0 := by
      intro n
      induction n with
      | zero => intro t ht; omega
      | succ n ih =>
        intro t ht htd
        have i1 : ¬ v.getD t 0 < v.getD (m + t) 0 := fun hlt => hnle d hd ⟨m + t, by omega, fun s hs => ?_, ?_⟩
        have i2 : ¬ v.getD (m + t) 0 < v.getD t 0 := fun hlt => hnle m (by omega) ⟨t, by omega, fun s hs => ?_, ?_⟩
        · omega
        · show v.getD ((m + s) % v.length) 0 = v.getD s 0
          rw [Nat.mod_eq_of_lt (by omega)]
          exact ih s (by omega) (by omega)
        · show v.getD ((m + t) % v.length) 0 < v.getD t 0
          rw [Nat.mod_eq_of_lt (by omega)]
          exact hlt
        · show v.getD ((d + s) % v.length) 0 = v.getD s 0
          by_cases hsm : s < m
          · exact a2 s hsm
          · rw [show d + s = (s - m) + v.length by omega, Nat.add_mod_right, Nat.mod_eq_of_lt (by omega), ← ih (s - m) (by omega) (by omega), show m + (s - m) = s by omega]
        · show v.getD ((d + (m + t)) % v.length) 0 < v.getD (m + t) 0
          rw [show d + (m + t) = t + v.length by omega, Nat.add_mod_right, Nat.mod_eq_of_lt (by omega)]
          exact hlt
    refine lst_nle.mp hw m (by omega) ⟨q - m, by omega, fun t ht => ?_, ?_⟩
    · show w.getD ((m + t) % w.length) 0 = w.getD t 0
      rw [Nat.mod_eq_of_lt (by omega), ← q3 (m + t) (by omega), ← q3 t (by omega)]
      exact a3 (t + 1) t (by omega) (by omega)
    · show w.getD ((m + (q - m)) % w.length) 0 < w.getD (q - m) 0
      have := a3 (q - m + 1) (q - m) (by omega) (by omega)
      rw [show m + (q - m) = q by omega] at this ⊢
      rw [Nat.mod_eq_of_lt (by omega), ← q3 (q - m) (by omega), ← this]
      exact q4
theorem pd_next {w r : W} (hw : Lst w) {p x : Nat} (hp : p < w.length) (hx : w.getD p 0 < x) (hr : Pd w r) : Pd w (r ++ (w.take p ++ [x])) := fun d hd => by
  rw [List.length_append, blk_len hp] at hd
  by_cases h : d < r.length
  · rw [List.drop_append_of_le_length (by omega)]
    exact (hr d h).app _
  · have e : d = r.length + (d - r.length) := by omega
    rw [e, List.drop_append]
    rw [show (r.drop (r.length + (d - r.length))) = [] from List.drop_eq_nil_of_le (by omega), List.nil_append, show r.length + (d - r.length) - r.length = d - r.length by omega]
    have : d - r.length ≤ p := by simp at hd; omega
    rw [drop_blk hp this]
    exact ex_in hw hp this hx
theorem rot_back {u : W} {j : Nat} (hj : j < u.length) : rot j (rot ((u.length - j) % u.length) u) = u := by
  have h0 : 0 < u.length := by omega
  rw [rot_rot hj (Nat.mod_lt _ h0), Nat.add_mod_mod, show j + (u.length - j) = u.length by omega, Nat.mod_self, rot_zero]
noncomputable def gl (k : Nat) (w : W) : List W := (List.range w.length).flatMap fun p => (List.range (p + 1)).flatMap fun j => (gr k w p).flatMap fun x => (pw k w (w.length - 1 - p)).map fun r => rot j (w.take p ++ x :: r)
theorem mem_gl {k : Nat} {w u : W} (hw : Lst w) (ho : Okk k w) : u ∈ gl k w ↔ (u.length = w.length ∧ Okk k u) ∧ w < least u := by
  unfold gl
  rw [List.mem_flatMap]
  constructor
  · rintro ⟨p, hp, h⟩
    have hp := List.mem_range.mp hp
    obtain ⟨j, hj, h⟩ := List.mem_flatMap.mp h
    have hj := List.mem_range.mp hj
    obtain ⟨x, hx, h⟩ := List.mem_flatMap.mp h
    obtain ⟨r, hr, rfl⟩ := List.mem_map.mp h
    obtain ⟨x1, x2⟩ := mem_gr.mp hx
    obtain ⟨r1, r2, r3⟩ := (mem_pw hw ho _ _ (Nat.le_refl _) (by omega) r).mp hr
    have hvl : (w.take p ++ x :: r).length = w.length := by rw [blk_len hp]; omega
    have hpd := pd_blk hw hp x1 r3
    have hok := okk_getD ho hp
    refine ⟨⟨by rw [rot_length, hvl], okk_rot (okk_app.mpr ⟨okk_take ho, fun c hc => ?_⟩)⟩, ?_⟩
    · rcases List.mem_cons.mp hc with rfl | hc
      · omega
      · exact r2 c hc
    · rw [least_rot (by omega)]
      exact (turns_least (by omega)).mp fun d hd => hpd.turns hvl hd
  · rintro ⟨⟨hl, hok⟩, hlt⟩
    have h0 : 0 < u.length := by
      refine Nat.pos_of_ne_zero fun e => ?_
      rw [List.length_eq_zero_iff.mp e] at hlt hl
      rw [List.length_eq_zero_iff.mp hl.symm] at hlt
      exact ltir _ hlt
  
    have hex : ∃ j, j < u.length ∧ Pd w (rot ((u.length - j) % u.length) u) := by
      obtain ⟨i, hi, e⟩ := least_mem h0
      have := least_pd hw hl h0 hlt
      rw [e] at this
      by_cases hi0 : i = 0
      · exact ⟨0, h0, by rw [Nat.sub_zero, Nat.mod_self]; rw [hi0] at this; exact this⟩
      · exact ⟨u.length - i, by omega, by rw [show u.length - (u.length - i) = i by omega, Nat.mod_eq_of_lt hi]; exact this⟩
    obtain ⟨j, ⟨hj, hpd⟩, hmin⟩ : ∃ j, (j < u.length ∧ Pd w (rot ((u.length - j) % u.length) u)) ∧ ∀ i, i < j → ¬ (i < u.length ∧ Pd w (rot ((u.length - i) % u.length) u)) := by
      obtain ⟨j, hj⟩ := hex
      have : ∀ n, ∀ j, j < n → (j < u.length ∧ Pd w (rot ((u.length - j) % u.length) u)) → ∃ j, (j < u.length ∧ Pd w (rot ((u.length - j) % u.length) u)) ∧ ∀ i, i < j → ¬ (i < u.length ∧ Pd w (rot ((u.length - i) % u.length) u)) := by
        intro n
        induction n with
        | zero => intro j hj; omega
        | succ n ih =>
          intro j hj h
          by_cases hm : ∃ i, i < j ∧ (i < u.length ∧ Pd w (rot ((u.length - i) % u.length) u))
          · obtain ⟨i, hi, h'⟩ := hm
            exact ih i (by omega) h'
          · exact ⟨j, h, fun i hi h' => hm ⟨i, hi, h'⟩⟩
      exact this (j + 1) j (by omega) hj
    have hu := rot_back hj
    generalize hv : rot ((u.length - j) % u.length) u = v at hpd hu
    have hvl : v.length = u.length := by rw [← hv, rot_length]
    have hvo : Okk k v := by rw [← hv]; exact okk_rot hok
    obtain ⟨p, hp1, hp2, he, hx, e, hr⟩ := hpd.parts (by omega)
    have hjp : j ≤ p := by
      refine Classical.byContradiction fun hjp => hmin (j - p - 1) (by omega) ⟨by omega, ?_⟩
      have h1 := pd_next hw hp2 hx hr
      have h2 : rot (p + 1) v = v.drop (p + 1) ++ (w.take p ++ [v.getD p 0]) := by
        unfold rot
        rw [← he, ← take_snoc hp1]
      rw [← h2, ← hv, rot_rot (by omega) (Nat.mod_lt _ h0), Nat.add_mod_mod] at h1
      rw [show u.length - (j - p - 1) = p + 1 + (u.length - j) by omega]
      exact h1
    refine ⟨p, List.mem_range.mpr hp2, List.mem_flatMap.mpr ⟨j, List.mem_range.mpr (by omega), List.mem_flatMap.mpr ⟨v.getD p 0, mem_gr.mpr ⟨hx, (okk_getD hvo hp1).2⟩, List.mem_map.mpr ⟨v.drop (p + 1), (mem_pw hw ho _ _ (Nat.le_refl _) (by omega) _).mpr ⟨by rw [List.length_drop]; omega, okk_drop hvo, hr⟩, ?_⟩⟩⟩⟩
    rw [← e]
    exact hu
theorem not_ex_self {w : W} {d : Nat} : ¬ Exq w (w.take d) := by
  rintro ⟨p, h1, h2, h3, h4⟩
  rw [List.length_take] at h1
  rw [getD_tk (by omega)] at h4
  omega
theorem rot_blk_lt {w r r' : W} {p p' j j' x x' : Nat} (hp : p < w.length) (hp' : p' < w.length) (hj : j ≤ p) (hj' : j' ≤ p') (hx : w.getD p 0 < x) (hl : (w.take p ++ x :: r).length = w.length) (hl' : (w.take p' ++ x' :: r').length = w.length) (hpd : Pd w (w.take p ++ x :: r)) (e : rot j (w.take p ++ x :: r) = rot j' (w.take p' ++ x' :: r')) : ¬ j < j' := by
  intro hlt
  generalize hv : w.take p ++ x :: r = v at *
  have h1 : v = rot (j' - j) (w.take p' ++ x' :: r') := by
    refine rot_inj (j := j) (by rw [rot_length]; omega) ?_
    rw [rot_rot (by omega) (by omega), show j + (j' - j) = j' by omega, Nat.mod_eq_of_lt (by omega)]
    exact e
  have h2 := hpd (w.length - (j' - j)) (by omega)
  have h3 : v.drop (w.length - (j' - j)) = w.take (j' - j) := by
    rw [h1]
    unfold rot
    rw [List.drop_append, List.length_drop, hl', Nat.sub_self, List.drop_zero, List.drop_eq_nil_of_le (by rw [List.length_drop, hl']; omega), List.nil_append, List.take_append_of_le_length (by rw [List.length_take]; omega), List.take_take, show min (j' - j) p' = j' - j by omega]
  rw [h3] at h2
  exact not_ex_self h2
theorem gl_nodup {k : Nat} {w : W} (hw : Lst w) (ho : Okk k w) : (gl k w).Nodup := by
  have key : ∀ {p p' j j' x x' : Nat} {r r' : W}, p < w.length → p' < w.length → j ≤ p → j' ≤ p' → x ∈ gr k w p → x' ∈ gr k w p' → r ∈ pw k w (w.length - 1 - p) → r' ∈ pw k w (w.length - 1 - p') → rot j (w.take p ++ x :: r) = rot j' (w.take p' ++ x' :: r') → p = p' ∧ j = j' ∧ x = x' ∧ r = r' := fun {p p' j j' x x' r r'} hp hp' hj hj' hx hx' hr hr' e => by
    obtain ⟨x1, x2⟩ := mem_gr.mp hx
    obtain ⟨x1', x2'⟩ := mem_gr.mp hx'
    obtain ⟨r1, r2, r3⟩ := (mem_pw hw ho _ _ (Nat.le_refl _) (by omega) r).mp hr
    obtain ⟨r1', r2', r3'⟩ := (mem_pw hw ho _ _ (Nat.le_refl _) (by omega) r').mp hr'
    have hvl : (w.take p ++ x :: r).length = w.length := by rw [blk_len hp]; omega
    have hvl' : (w.take p' ++ x' :: r').length = w.length := by rw [blk_len hp']; omega
    have n1 := rot_blk_lt hp hp' hj hj' x1 hvl hvl' (pd_blk hw hp x1 r3) e
    have n2 := rot_blk_lt hp' hp hj' hj x1' hvl' hvl (pd_blk hw hp' x1' r3') e.symm
    obtain rfl : j = j' := by omega
    have e2 := rot_inj (by omega) e
    obtain ⟨h1, h2, h3⟩ := blk_inj hp hp' x1 x1' e2
    exact ⟨h1, rfl, h2, h3⟩
  have nle : ∀ {n j : Nat}, j ∈ List.range (n + 1) → j ≤ n := fun h => by have := List.mem_range.mp h; omega
  refine nodup_fm List.nodup_range (fun p hp => nodup_fm List.nodup_range (fun j hj => nodup_fm (gr_nodup ..) (fun x hx => nodup_mp (pw_nodup hw ho _ _ (Nat.le_refl _) (by omega)) fun a ha b hb e => ?_) fun x hx y hy v hv hv' => ?_) fun j hj j' hj' v hv hv' => ?_) fun p hp p' hp' v hv hv' => ?_
  · have hp := List.mem_range.mp hp
    exact (key hp hp (nle hj) (nle hj) hx hx ha hb e).2.2.2
  · have hp := List.mem_range.mp hp
    obtain ⟨r, hr, rfl⟩ := List.mem_map.mp hv
    obtain ⟨r', hr', e⟩ := List.mem_map.mp hv'
    exact (key hp hp (nle hj) (nle hj) hx hy hr hr' e.symm).2.2.1
  · have hp := List.mem_range.mp hp
    obtain ⟨x, hx, h⟩ := List.mem_flatMap.mp hv
    obtain ⟨r, hr, rfl⟩ := List.mem_map.mp h
    obtain ⟨x', hx', h'⟩ := List.mem_flatMap.mp hv'
    obtain ⟨r', hr', e⟩ := List.mem_map.mp h'
    exact (key hp hp (nle hj) (nle hj') hx hx' hr hr' e.symm).2.1
  · have hp := List.mem_range.mp hp
    have hp' := List.mem_range.mp hp'
    obtain ⟨j, hj, h⟩ := List.mem_flatMap.mp hv
    obtain ⟨x, hx, h⟩ := List.mem_flatMap.mp h
    obtain ⟨r, hr, rfl⟩ := List.mem_map.mp h
    obtain ⟨j', hj', h'⟩ := List.mem_flatMap.mp hv'
    obtain ⟨x', hx', h'⟩ := List.mem_flatMap.mp h'
    obtain ⟨r', hr', e⟩ := List.mem_map.mp h'
    exact (key hp hp' (nle hj) (nle hj') hx hx' hr hr' e.symm).1
theorem gl_len (k : Nat) (w : W) : (gl k w).length = ((List.range w.length).map fun p => (p + 1) * (96 + k - w.getD p 0) * (pw k w (w.length - 1 - p)).length).sum := by
  unfold gl
  rw [List.length_flatMap]
  refine congrArg List.sum (List.map_congr_left fun p _ => ?_)
  rw [fm_len _ _ ((96 + k - w.getD p 0) * (pw k w (w.length - 1 - p)).length) (fun j => by rw [fm_len _ _ (pw k w (w.length - 1 - p)).length (fun x => List.length_map ..), gr_len]), List.length_range, Nat.mul_assoc]
noncomputable def upN (k : Nat) (w : W) : Nat := ((allW k w.length).filter fun u => !decide (w < least u)).length
theorem allW_nd {k n : Nat} (hk : 0 < k) : (allW k n).Nodup := (allW_sorted hk).imp fun h e => by rw [e] at h; exact ltir _ h
theorem LL.gt {k : Nat} {w l u : W} (h : LL k w l) (h0 : 0 < w.length) (hu : u.length = w.length) (ho : Okk k u) : l < least u ↔ w < least u := by
  obtain ⟨h1, h2, h3⟩ := h
  have hlw : LW k w.length (least u) := by rw [← hu]; exact lw_least (by omega) ho
  constructor
  · intro hl
    refine Classical.byContradiction fun hn => ?_
    exact h3 _ hlw hn hl
  · intro hl
    exact Classical.byContradiction fun hn => hn (by
      rcases Classical.em (l < least u) with g | g
      · exact g
      · exact absurd (ltle hl (fun z => g z)) h2)
theorem filter_two (l : List W) (p : W → Bool) : (l.filter p).length + (l.filter fun u => !p u).length = l.length := by
  induction l with
  | nil => rfl
  | cons a l ih =>
    rw [List.filter_cons, List.filter_cons, List.length_cons]
    cases h : p a
    · simp only [Bool.false_eq_true, if_false, Bool.not_false, if_true, List.length_cons]; omega
    · simp only [if_true, Bool.not_true, Bool.false_eq_true, if_false, List.length_cons]; omega
theorem up_len {k : Nat} {w l : W} (hk : 0 < k) (h0 : 0 < w.length) (h : LL k w l) : upN k w + (gl k l).length = k ^ w.length := by
  obtain ⟨hl1, hl2, hl3⟩ := h.1
  have hperm : (gl k l).Perm ((allW k w.length).filter fun u => decide (w < least u)) := by
    refine (List.perm_ext_iff_of_nodup (gl_nodup hl3 hl2) ((allW_nd hk).filter _)).mpr fun u => ?_
    rw [mem_gl hl3 hl2, List.mem_filter, mem_allW hk, hl1, decide_eq_true_iff]
    constructor
    · rintro ⟨⟨a, b⟩, c⟩
      exact ⟨⟨a, b⟩, (LL.gt h h0 a b).mp c⟩
    · rintro ⟨⟨a, b⟩, c⟩
      exact ⟨⟨a, b⟩, (LL.gt h h0 a b).mpr c⟩
  rw [hperm.length_eq, upN, Nat.add_comm, ← allW_len k w.length]
  exact filter_two _ _
end Wd

set_option Elab.async false
set_option linter.all false
namespace Wd
theorem up_all {k : Nat} {w : W} (hk : 0 < k) (h0 : 0 < w.length) (h : ∀ v, LW k w.length v → ¬ w < v) : upN k w = k ^ w.length := by
  unfold upN
  rw [List.filter_eq_self.mpr, allW_len]
  intro u hu
  obtain ⟨h1, h2⟩ := (mem_allW hk).mp hu
  have : ¬ w < least u := h _ (by rw [← h1]; exact lw_least (by omega) h2)
  simp [this]
theorem filter_or (l : List W) (p q : W → Bool) (h : ∀ x ∈ l, ¬ (p x = true ∧ q x = true)) : (l.filter fun x => p x || q x).length = (l.filter p).length + (l.filter q).length := by
  induction l with
  | nil => rfl
  | cons a l ih =>
    have ih := ih fun x hx => h x (List.mem_cons_of_mem _ hx)
    have ha := h a (List.mem_cons_self ..)
    rw [List.filter_cons, List.filter_cons, List.filter_cons]
    cases hp : p a <;> cases hq : q a
    · simp only [Bool.or_self, Bool.false_eq_true, if_false]; exact ih
    · simp only [Bool.false_or, if_true, Bool.false_eq_true, if_false, List.length_cons, ih]; omega
    · simp only [Bool.or_false, if_true, Bool.false_eq_true, if_false, List.length_cons, ih]; omega
    · exact absurd ⟨hp, hq⟩ ha
theorem least_count {k : Nat} {r : W} {p : Nat} (hk : 0 < k) (h0 : 0 < r.length) (hr : LW k r.length r) (hp : RootLen r p) : ((allW k r.length).filter fun u => decide (least u = r)).length = p := by
  refine turns_count hp _ ((allW_nd hk).filter _) fun u => ?_
  rw [List.mem_filter, mem_allW hk, decide_eq_true_iff, List.mem_map]
  constructor
  · rintro ⟨⟨h1, h2⟩, h3⟩
    have ht := turnBy_lt (w := u) (by omega)
    rw [least_eq] at h3
    refine ⟨(u.length - turnBy u) % u.length, List.mem_range.mpr (by rw [← h1]; exact Nat.mod_lt _ (by omega)), ?_⟩
    rw [← h3, rot_rot (Nat.mod_lt _ (by omega)) ht, Nat.mod_add_mod, show u.length - turnBy u + turnBy u = u.length by omega, Nat.mod_self, rot_zero]
  · rintro ⟨i, hi, rfl⟩
    have hi := List.mem_range.mp hi
    exact ⟨⟨rot_length .., okk_rot hr.ok⟩, by rw [least_rot hi]; exact hr.lst.symm⟩
theorem up_next {k : Nat} {w r : W} {p : Nat} (hk : 0 < k) (h0 : 0 < w.length) (h : NX k w r) (hp : RootLen r p) : upN k r = upN k w + p := by
  have hl := h.lw.len
  have hc := least_count hk (by omega) (by rw [hl]; exact h.lw) hp
  unfold upN
  rw [hl] at hc ⊢
  rw [← hc, ← filter_or]
  · refine congrArg List.length (List.filter_congr fun u hu => ?_)
    obtain ⟨h1, h2⟩ := (mem_allW hk).mp hu
    have hlw : LW k w.length (least u) := by rw [← h1]; exact lw_least (by omega) h2
    rw [Bool.eq_iff_iff, Bool.or_eq_true, Bool.not_eq_true', decide_eq_false_iff_not, Bool.not_eq_true', decide_eq_false_iff_not, decide_eq_true_iff]
    constructor
    · intro hn
      by_cases hw : w < least u
      · exact .inr (tri (h.low _ hlw hw) hn)
      · exact .inl hw
    · rintro (hn | rfl)
      · exact fun hlt => hn (ltt h.gt hlt)
      · exact ltir _
  · rintro u hu ⟨h1, h2⟩
    have h2 := of_decide_eq_true h2
    rw [h2] at h1
    simp [h.gt] at h1
end Wd

set_option Elab.async false
set_option linter.all false
namespace Wd
open Classical in
noncomputable def prs (k : Nat) (w : W) (e : Nat) : List W := (allW k e).filter fun q => decide (Prime q ∧ ¬ w < rep (w.length / e) q)
noncomputable def pc (k : Nat) (w : W) (e : Nat) : Nat := (prs k w e).length
noncomputable def gw (k : Nat) (w : W) (d : Nat) : W := if w < rep (w.length / d) (w.take d) then spell k d (num k (w.take d) - 1) else w.take d
end Wd

set_option Elab.async false
set_option linter.all false
namespace Wd
noncomputable def topW (k n : Nat) : W := List.replicate n (96 + k)
theorem topW_len (k n : Nat) : (topW k n).length = n := List.length_replicate
theorem topW_ok {k n : Nat} (hk : 0 < k) : Okk k (topW k n) := fun c hc => by rw [(List.mem_replicate.mp hc).2]; omega
theorem top_le {k n : Nat} {v : W} (hl : v.length = n) (ho : Okk k v) : ¬ topW k n < v := fun h => by
  obtain ⟨p, h1, h2, h3⟩ := lt_split (by rw [topW_len, hl]) h
  rw [topW_len] at h1
  have hd : (topW k n).getD p 0 = 96 + k := by
    unfold topW
    rw [List.getD_eq_getElem?_getD, List.getElem?_replicate, if_pos h1]; rfl
  have := okk_getD ho (i := p) (by omega)
  omega
theorem up_top {k n : Nat} (hk : 0 < k) (hn : 0 < n) : upN k (topW k n) = k ^ n := by
  have := up_all (w := topW k n) hk (by rw [topW_len]; exact hn) fun v hv => top_le (by rw [hv.len, topW_len]) hv.ok
  rw [topW_len] at this
  exact this
end Wd

set_option Elab.async false
set_option linter.all false
namespace Wd
end Wd

namespace Wd
noncomputable def ringAt (t : W) (n i : Nat) : W := (List.range n).map fun k => t.getD ((i + k) % t.length) 0
theorem ringAt_len (t : W) (n i : Nat) : (ringAt t n i).length = n := by rw [ringAt, List.length_map, List.length_range]
theorem ringAt_get {t : W} {n i k : Nat} (h : k < n) (ht : 0 < t.length) : (ringAt t n i)[k]? = t[(i + k) % t.length]? := by
  rw [ringAt, List.getElem?_map, List.getElem?_range h]
  show some (t.getD ((i + k) % t.length) 0) = _
  rw [List.getD_eq_getElem?_getD, List.getElem?_eq_getElem (Nat.mod_lt _ ht)]
  rfl
theorem row_at {t : W} {n i : Nat} (h : i + n ≤ t.length) : (t.drop i).take n = ringAt t n i := by
  apply ext_get
  · rw [List.length_take, List.length_drop, ringAt_len]
    omega
  · intro k hk
    rw [List.length_take, List.length_drop] at hk
    rw [List.getElem?_take_of_lt (by omega), List.getElem?_drop, ringAt_get (by omega) (by omega), Nat.mod_eq_of_lt (by omega)]
noncomputable def rowW (t : W) (n : Nat) : List W := (List.range (t.length + 1 - n)).map (ringAt t n)
noncomputable def ringW (t : W) (n : Nat) : List W := (List.range t.length).map (ringAt t n)
theorem ringW_len (t : W) (n : Nat) : (ringW t n).length = t.length := by rw [ringW, List.length_map, List.length_range]
end Wd

set_option linter.all false
namespace Wd
theorem ringAt_mod {t : W} {n i : Nat} : ringAt t n (i % t.length) = ringAt t n i := by
  unfold ringAt
  refine List.map_congr_left fun k _ => ?_
  rw [Nat.mod_add_mod]
theorem ringW_get {t : W} {n i : Nat} (h : i < t.length) : (ringW t n)[i]? = some (ringAt t n i) := by
  rw [ringW, List.getElem?_map, List.getElem?_range h]; rfl
theorem sorted_same : ∀ {xs ys : List W}, xs.Perm ys → xs.Pairwise (fun a b => ¬ b < a) → ys.Pairwise (fun a b => ¬ b < a) → xs = ys := by
  intro xs ys h h1 h2
  refine List.Perm.eq_of_pairwise ?_ h1 h2 h
  intro a b _ _ z1 z2
  exact Std.Trichotomous.trichotomous a b z2 z1
end Wd

set_option Elab.async false
set_option linter.all false
namespace Wd
noncomputable def rootL (w : W) : Nat := if h : 0 < w.length then Classical.choose (rootLen_ex h) else 0
theorem rootL_is {w : W} (h : 0 < w.length) : RootLen w (rootL w) := by
  unfold rootL
  rw [dif_pos h]
  exact Classical.choose_spec (rootLen_ex h)
theorem rootL_eq {w : W} {p : Nat} (h : RootLen w p) : rootL w = p := (rootL_is (Nat.lt_of_lt_of_le h.pos h.le)).uniq h
noncomputable def rootW (w : W) : W := w.take (rootL w)
theorem rootW_len {w : W} (h : 0 < w.length) : (rootW w).length = rootL w := by
  have := (rootL_is h).le
  rw [rootW, List.length_take]
  omega
theorem rootW_is {w : W} (h : 0 < w.length) : ∃ t, 0 < t ∧ w = rep t (rootW w) ∧ t * rootL w = w.length := by
  have h1 := rootL_is h
  obtain ⟨_, h2, _⟩ := h1.rp
  exact ⟨w.length / rootL w, Nat.div_pos h1.le h1.pos, h1.is.symm, Nat.div_mul_cancel (Nat.dvd_of_mod_eq_zero h2)⟩
theorem rep_snoc (t : Nat) (q : W) : rep (t + 1) q = rep t q ++ q := by
  induction t with
  | zero => rw [rep_succ, rep_zero, List.append_nil]; rfl
  | succ t ih =>
    calc rep (t + 1 + 1) q = q ++ rep (t + 1) q := rep_succ ..
      _ = q ++ (rep t q ++ q) := by rw [ih]
      _ = (q ++ rep t q) ++ q := by rw [List.append_assoc]
      _ = rep (t + 1) q ++ q := by rw [← rep_succ]
noncomputable def ringOf (ls : List W) : W := (ls.map rootW).flatten
theorem ringOf_cons (l : W) (ls : List W) : ringOf (l :: ls) = rootW l ++ ringOf ls := by unfold ringOf; rw [List.map_cons, List.flatten_cons]
theorem ringOf_app (a b : List W) : ringOf (a ++ b) = ringOf a ++ ringOf b := by unfold ringOf; rw [List.map_append, List.flatten_append]
theorem LO_nodup {k n : Nat} (hk : 0 < k) : (LO k n).Nodup := (LO_sorted hk).imp fun h e => by rw [e] at h; exact ltir _ h
theorem nx_of {k n : Nat} {pre post : List W} {l l' : W} (hk : 0 < k) (e : LO k n = pre ++ l :: l' :: post) : NX k l l' := by
  have hs := LO_sorted (k := k) (n := n) hk
  rw [e] at hs
  obtain ⟨_, h2, h3⟩ := List.pairwise_append.mp hs
  obtain ⟨h4, h5⟩ := List.pairwise_cons.mp h2
  obtain ⟨h6, _⟩ := List.pairwise_cons.mp h5
  have hm : ∀ v, v ∈ LO k n ↔ LW k n v := fun v => mem_LO hk
  have hl : LW k n l := (hm l).mp (by rw [e]; simp)
  have hl' : LW k n l' := (hm l').mp (by rw [e]; simp)
  refine ⟨by rw [hl.len]; exact hl', h4 l' (by simp), fun v hv hlv hvl => ?_⟩
  rw [hl.len] at hv
  have hv := (hm v).mpr hv
  rw [e] at hv
  rcases List.mem_append.mp hv with g | g
  · exact ltir _ (ltt (h3 v g l (by simp)) hlv)
  · rcases List.mem_cons.mp g with rfl | g
    · exact ltir _ hlv
    · rcases List.mem_cons.mp g with rfl | g
      · exact ltir _ hvl
      · exact ltir _ (ltt (h6 v g) hvl)
theorem topW_LW {k n : Nat} (hk : 0 < k) : LW k n (topW k n) := ⟨topW_len k n, topW_ok hk, lst_rep _ _⟩
theorem last_top {k n : Nat} {pre : List W} {l : W} (hk : 0 < k) (e : LO k n = pre ++ [l]) : l = topW k n := by
  have hs := LO_sorted (k := k) (n := n) hk
  have ht : topW k n ∈ LO k n := (mem_LO hk).mpr (topW_LW hk)
  have hl : l ∈ LO k n := by rw [e]; simp
  have hl := (mem_LO hk).mp hl
  rw [e] at hs ht
  obtain ⟨_, _, h3⟩ := List.pairwise_append.mp hs
  rcases List.mem_append.mp ht with g | g
  · exact absurd (h3 _ g l (by simp)) (top_le hl.len hl.ok)
  · exact (List.mem_singleton.mp g).symm
theorem next_begins {k n : Nat} {l l' y x : W} (hk : 0 < k) (hl : LW k n l) (h : NX k l l') (e : l = y ++ x) (hx : ∃ c ∈ x, c ≠ 96 + k) : ∃ s, l' = y ++ s := by
  obtain ⟨c, hc, hne⟩ := hx
  obtain ⟨x1, x2, rfl⟩ := List.append_of_mem hc
  have hcb := hl.ok c (by rw [e]; simp)
  have e2 : l = (y ++ x1) ++ c :: x2 := by rw [e, List.append_assoc]
  have hg := lst_grow (k := k) (p := y ++ x1) (r := x2) (c := c) (d := c + 1) hk (by rw [← e2]; exact hl.lst) (by rw [← e2]; exact hl.ok) (by omega) (by omega)
  have hlen : ((y ++ x1) ++ c :: x2).length = n := by rw [← e2]; exact hl.len
  rw [hlen] at hg
  have hpl : ((y ++ x1) ++ [c + 1]).length ≤ n := by rw [← hlen]; simp
  have hv : LW k n (fill k n ((y ++ x1) ++ [c + 1])) := ⟨fill_len hpl, okk_fill hk (okk_app.mpr ⟨fun d hd => hl.ok d (by rw [e2]; exact List.mem_append_left _ hd), fun d hd => by rw [List.mem_singleton.mp hd]; omega⟩), hg⟩
  have hf : fill k n ((y ++ x1) ++ [c + 1]) = (y ++ x1) ++ (c + 1) :: List.replicate (n - ((y ++ x1) ++ [c + 1]).length) (96 + k) := by unfold fill; rw [List.append_assoc]; rfl
  have hgt : l < fill k n ((y ++ x1) ++ [c + 1]) := by
    rw [hf, e2]
    exact (lt_app_left _).mpr (List.cons_lt_cons_iff.mpr (.inl (Nat.lt_succ_self c)))
  refine between (a := l) (b := fill k n ((y ++ x1) ++ [c + 1])) ⟨_, e⟩ ⟨x1 ++ (c + 1) :: _, by rw [hf, List.append_assoc]⟩ ?_ (fun z => ltir _ (ltt z h.gt)) (fun z => h.low _ (by rw [hl.len]; exact hv) hgt z)
  have := h.lw.len
  rw [hl.len] at this
  have : l.length = y.length + (x1 ++ c :: x2).length := by rw [e, List.length_append]
  rw [hl.len] at this
  omega
theorem all_top {k : Nat} {x : W} (h : ¬ ∃ c ∈ x, c ≠ 96 + k) : x = topW k x.length :=
  List.eq_replicate_iff.mpr ⟨rfl, fun c hc => Classical.byContradiction fun z => h ⟨c, hc, z⟩⟩
theorem rep_top {k t p : Nat} : rep t (topW k p) = topW k (t * p) := by
  induction t with
  | zero => rw [Nat.zero_mul]; rfl
  | succ t ih => rw [rep_succ, ih, topW, topW, topW, List.replicate_append_replicate, Nat.succ_mul, Nat.add_comm]
theorem top_begins {k n : Nat} {l : W} {c : Nat} {s : W} (hl : LW k n l) (e : l = (96 + k) :: s) : l = topW k n := by
  refine Classical.byContradiction fun hne => ?_
  have hlen := hl.len
  have hx : ∃ c ∈ l, c ≠ 96 + k := Classical.byContradiction fun z => hne (by rw [all_top z, hlen])
  obtain ⟨c, hc, hcn⟩ := hx
  have hcb := hl.ok c hc
  obtain ⟨i, hi⟩ := List.getElem?_of_mem hc
  have hil := (List.getElem?_eq_some_iff.mp hi).1
  have h0 : 0 < l.length := by omega
  refine lst_iff.mp hl.lst i hil (lt_at (j := 0) (fun j hj => absurd hj (by omega)) (c := c) (d := 96 + k) ?_ (by rw [e]; rfl) (by omega))
  rw [rot_get (by omega) h0, Nat.add_zero, Nat.mod_eq_of_lt hil]
  exact hi
theorem read_self {k n : Nat} (hk : 0 < k) (hn : 0 < n) : ∀ (ls : List W) (l : W) (pre : List W), LO k n = pre ++ l :: ls → l ≠ topW k n → ∃ z, ringOf (l :: ls) = l ++ z
  | [], l, pre, e, hne => absurd (last_top hk e) hne
  | l' :: ls, l, pre, e, hne => by
    have hl : LW k n l := (mem_LO hk).mp (by rw [e]; simp)
    have hl' : LW k n l' := (mem_LO hk).mp (by rw [e]; simp)
    have hnx := nx_of hk e
    have h0 : 0 < l.length := by rw [hl.len]; exact hn
    obtain ⟨t, ht, hrep, htl⟩ := rootW_is h0
    rw [ringOf_cons]
    by_cases h1 : t = 1
    · rw [h1, rep_one] at hrep
      exact ⟨ringOf (l' :: ls), by rw [← hrep]⟩
    · have hq : ∃ c ∈ rootW l, c ≠ 96 + k := Classical.byContradiction fun z => hne (by
        have := all_top z
        rw [hrep, this, rep_top, rootW_len h0, htl, hl.len])
      have hsp : l = rep (t - 1) (rootW l) ++ rootW l := by
        rw [← rep_snoc, show t - 1 + 1 = t by omega]
        exact hrep
      obtain ⟨s, hs⟩ := next_begins hk hl hnx hsp hq
      have hne' : l' ≠ topW k n := fun z => by
        obtain ⟨c, hc, hcn⟩ := hq
        have hm : c ∈ l' := by
          rw [hs, show t - 1 = (t - 2) + 1 by omega, rep_succ]
          exact List.mem_append_left _ (List.mem_append_left _ hc)
        rw [z] at hm
        exact hcn (List.mem_replicate.mp hm).2
      obtain ⟨z, hz⟩ := read_self hk hn ls l' (pre ++ [l]) (by rw [e]; simp) hne'
      refine ⟨s ++ z, ?_⟩
      rw [hz, hs]
      conv => rhs; rw [hrep, show t = t - 1 + 1 by omega, rep_succ]
      simp only [List.append_assoc]
theorem ahead_ends {k n : Nat} {y b u : W} (hk : 0 < k) (hn : 0 < n) (hb : LB k n y b) (hu : LW k n u) (h : NX k u b) : ∃ z, rootW u = z ++ topW k (n - y.length) := by
  obtain ⟨s, hs⟩ := hb.pre
  have hbl := hb.lw.len
  have hyl : y.length ≤ n := by rw [← hbl, hs, List.length_append]; omega
  have hul := hu.len
  have htl : (u.take y.length).length = y.length := by rw [List.length_take]; omega
  have hne : u.take y.length ≠ y := fun z => hb.low u hu ⟨u.drop y.length, by conv => lhs; rw [← List.take_append_drop y.length u, z]⟩ h.gt
  have hlt : u.take y.length < y := by
    have h1 := h.gt
    rw [hs] at h1
    conv at h1 => lhs; rw [← List.take_append_drop y.length u]
    rcases lt_of_app htl h1 with g | ⟨g, _⟩
    · exact g
    · exact absurd g hne
  have hisb := hu.isB hk (List.take_append_drop y.length u).symm
  have hv := hisb.lw hk (fun c hc => hu.ok c (List.mem_of_mem_take hc))
  have hf : fill k n (u.take y.length) = u.take y.length ++ topW k (n - y.length) := by unfold fill topW; rw [htl]
  have hvb : fill k n (u.take y.length) < b := by
    rw [hf, hs]
    exact lt_app hlt (by omega) _ _
  have hle := le_fill (k := k) (v := u) (p := u.take y.length) (s := u.drop y.length) hu.ok (List.take_append_drop y.length u).symm
  rw [hul] at hle
  have hueq : u = u.take y.length ++ topW k (n - y.length) := by
    rw [← hf]
    exact tri (fun z => h.low _ (by rw [hul]; exact hv) z hvb) hle
  have h0 : 0 < u.length := by omega
  obtain ⟨t, ht, hrep, hp⟩ := rootW_is h0
  have hsuf : u = rep (t - 1) (rootW u) ++ rootW u := by
    rw [← rep_snoc, show t - 1 + 1 = t by omega]
    exact hrep
  have hrl := rootW_len h0
  have hle2 := (rootL_is h0).le
  generalize rootL u = p at hrl hp hle2
  generalize rootW u = q at hrl hrep hsuf ⊢
  have hql : (rep (t - 1) q).length = n - p := by
    have := congrArg List.length hsuf
    rw [List.length_append, hrl, hul] at this
    omega
  by_cases hc : n - y.length ≤ p
  · refine ⟨q.take (p - (n - y.length)), ?_⟩
    have h1 : u.drop y.length = topW k (n - y.length) := by
      conv => lhs; rw [hueq]
      exact List.drop_left' htl
    have h2 : u.drop y.length = q.drop (p - (n - y.length)) := by
      conv => lhs; rw [hsuf]
      rw [List.drop_append, List.drop_eq_nil_of_le (by omega), List.nil_append, hql]
      congr 1
      omega
    rw [← h1, h2, List.take_append_drop]
  · exfalso
    have hq : q = topW k p := by
      have h1 : u.drop (n - p) = q := by
        conv => lhs; rw [hsuf]
        exact List.drop_left' hql
      have h2 : u.drop (n - p) = topW k p := by
        conv => lhs; rw [hueq]
        rw [List.drop_append, List.drop_eq_nil_of_le (by omega), List.nil_append, htl, topW, List.drop_replicate, topW]
        congr 1
        omega
      rw [← h1, h2]
    have : u = topW k n := by rw [hrep, hq, rep_top, hp, hul]
    rw [this] at h
    exact top_le hbl hb.lw.ok h.gt
end Wd

set_option Elab.async false
set_option linter.all false
namespace Wd
noncomputable def cb (k : Nat) (l : W) : Nat := ((allW k l.length).filter fun u => decide (least u < l)).length
theorem up_cb {k : Nat} {l : W} (hk : 0 < k) (h0 : 0 < l.length) (hl : LW k l.length l) : upN k l = cb k l + rootL l := by
  have hc := least_count hk h0 hl (rootL_is h0)
  unfold upN cb
  rw [← hc, ← filter_or]
  · refine congrArg List.length (List.filter_congr fun u hu => ?_)
    rw [Bool.eq_iff_iff, Bool.or_eq_true, Bool.not_eq_true', decide_eq_false_iff_not, decide_eq_true_iff, decide_eq_true_iff]
    constructor
    · intro h
      by_cases c : least u < l
      · exact .inl c
      · exact .inr (tri c h)
    · rintro (h | h)
      · exact fun z => ltir _ (ltt h z)
      · rw [h]; exact ltir _
  · rintro u hu ⟨h1, h2⟩
    have h1 := of_decide_eq_true h1
    have h2 := of_decide_eq_true h2
    rw [h2] at h1
    exact ltir _ h1
theorem cb_next {k n : Nat} {l l' : W} (hk : 0 < k) (hn : 0 < n) (hl : LW k n l) (h : NX k l l') : cb k l' = cb k l + rootL l := by
  have hll := hl.len
  have hll' : l'.length = n := by rw [h.lw.len, hll]
  have h1 := up_next hk (by omega) h (rootL_is (w := l') (by omega))
  have h2 := up_cb (l := l') hk (by omega) (by rw [hll', ← hll]; exact h.lw)
  have h3 := up_cb (l := l) hk (by omega) (by rw [hll]; exact hl)
  omega
theorem ring_len {k n : Nat} (hk : 0 < k) (hn : 0 < n) : ∀ (a pre b : List W) (l f : W), LO k n = pre ++ (a ++ l :: b) → (a ++ l :: b).head? = some f → (ringOf a).length + cb k f = cb k l
  | [], pre, b, l, f, e, hf => by
    obtain rfl : l = f := Option.some.inj hf
    show 0 + cb k l = cb k l
    omega
  | g :: a, pre, b, l, f, e, hf => by
    obtain rfl : g = f := Option.some.inj hf
    have hg : LW k n g := (mem_LO hk).mp (by rw [e]; simp)
    obtain ⟨f', t', e2⟩ : ∃ f' t', a ++ l :: b = f' :: t' := by
      cases a with
      | nil => exact ⟨_, _, rfl⟩
      | cons x a => exact ⟨_, _, rfl⟩
    have hnx : NX k g f' := nx_of (pre := pre) (post := t') hk (by rw [e, List.cons_append, e2])
    have ih := ring_len hk hn a (pre ++ [g]) b l f' (by rw [e]; simp) (by rw [e2]; rfl)
    have hc := cb_next hk hn hg hnx
    rw [ringOf_cons, List.length_append, rootW_len (by rw [hg.len]; exact hn)]
    omega
theorem rootL_top {k n : Nat} (hn : 0 < n) : rootL (topW k n) = 1 := by
  refine rootL_eq ⟨Nat.one_pos, by rw [topW_len]; exact hn, ?_, fun q h1 h2 => by omega⟩
  rw [topW_len, Nat.div_one]
  have : (topW k n).take 1 = topW k 1 := by unfold topW; rw [List.take_replicate, show min 1 n = 1 by omega]
  rw [this, rep_top, Nat.mul_one]
theorem rootW_top {k n : Nat} (hn : 0 < n) : rootW (topW k n) = topW k 1 := by
  unfold rootW
  rw [rootL_top hn]
  unfold topW
  rw [List.take_replicate, show min 1 n = 1 by omega]
theorem ends_top {k n : Nat} {pre ls : List W} {f : W} (hk : 0 < k) (e : LO k n = pre ++ f :: ls) : ∃ a, f :: ls = a ++ [topW k n] := by
  obtain ⟨a, x, hx⟩ : ∃ a x, f :: ls = a ++ [x] := ⟨(f :: ls).dropLast, (f :: ls).getLast (by simp), (List.dropLast_concat_getLast (by simp)).symm⟩
  have := last_top (pre := pre ++ a) (l := x) hk (by rw [e, hx, List.append_assoc])
  exact ⟨a, by rw [hx, this]⟩
theorem ring_total {k n : Nat} {pre ls : List W} {f : W} (hk : 0 < k) (hn : 0 < n) (e : LO k n = pre ++ f :: ls) : (ringOf (f :: ls)).length + cb k f = k ^ n := by
  obtain ⟨a, ha⟩ := ends_top hk e
  have h1 := ring_len hk hn a pre [] (topW k n) f (by rw [e, ha]) (by rw [← ha]; rfl)
  have h2 := up_cb (l := topW k n) hk (by rw [topW_len]; exact hn) (by rw [topW_len]; exact topW_LW hk)
  have h3 := up_top hk hn
  rw [ha, ringOf_app, List.length_append, ringOf_cons, List.length_append, rootW_len (by rw [topW_len]; exact hn)]
  show (ringOf a).length + (rootL (topW k n) + 0) + cb k f = k ^ n
  omega
theorem ring_end {k n : Nat} {pre ls : List W} {f : W} (hk : 0 < k) (hn : 0 < n) (e : LO k n = pre ++ f :: ls) (hf : f ≠ topW k n) : ∃ z, ringOf (f :: ls) = z ++ topW k n := by
  obtain ⟨a, ha⟩ := ends_top hk e
  have hane : a ≠ [] := fun z => by rw [z] at ha; exact hf (List.cons.inj ha).1
  obtain ⟨c, u, rfl⟩ : ∃ c u, a = c ++ [u] := ⟨a.dropLast, a.getLast hane, (List.dropLast_concat_getLast hane).symm⟩
  have e2 : LO k n = (pre ++ c) ++ u :: topW k n :: [] := by rw [e, ha]; simp
  have hu : LW k n u := (mem_LO hk).mp (by rw [e2]; simp)
  have hnx := nx_of hk e2
  have hlb : LB k n [96 + k] (topW k n) := ⟨topW_LW hk, ⟨topW k (n - 1), by unfold topW; rw [show n = n - 1 + 1 by omega, List.replicate_succ]; rfl⟩, fun v hv ⟨s, hs⟩ => by rw [top_begins (c := 0) hv hs]; exact ltir _⟩
  obtain ⟨z, hz⟩ := ahead_ends hk hn hlb hu hnx
  refine ⟨ringOf c ++ z, ?_⟩
  rw [ha, ringOf_app, ringOf_app, ringOf_cons, ringOf_cons, hz, rootW_top hn]
  show (ringOf c ++ (z ++ topW k (n - 1) ++ [])) ++ (topW k 1 ++ []) = ringOf c ++ z ++ topW k n
  have h1 : topW k n = topW k (n - 1) ++ topW k 1 := by
    unfold topW
    rw [List.replicate_append_replicate, show n - 1 + 1 = n by omega]
  rw [h1]
  simp only [List.append_nil, List.append_assoc]
theorem ringAt_mid {t a v b : W} (e : t = a ++ v ++ b) : ringAt t v.length a.length = v := by
  rw [← row_at (by rw [e, List.length_append, List.length_append]; omega), e, List.append_assoc, List.drop_left' rfl, List.take_left' rfl]
theorem ring_wrap {t a x y b : W} (h1 : t = a ++ x) (h2 : t = y ++ b) (h0 : 0 < t.length) : ringAt t (x.length + y.length) a.length = x ++ y := by
  have l1 : t.length = a.length + x.length := by rw [h1, List.length_append]
  have l2 : t.length = y.length + b.length := by conv => lhs; rw [h2, List.length_append]
  apply ext_get
  · rw [ringAt_len, List.length_append]
  · intro i hi
    rw [ringAt_len] at hi
    rw [ringAt_get hi h0]
    by_cases c : i < x.length
    · rw [Nat.mod_eq_of_lt (by omega), List.getElem?_append_left c]
      conv => lhs; rw [h1]
      rw [List.getElem?_append_right (by omega), Nat.add_sub_cancel_left]
    · rw [show a.length + i = (i - x.length) + t.length by omega, Nat.add_mod_right, Nat.mod_eq_of_lt (by omega), List.getElem?_append_right (by omega)]
      conv => lhs; rw [h2]
      rw [List.getElem?_append_left (by omega)]
theorem turn_root {w : W} (h0 : 0 < w.length) : turnBy w < rootL (least w) := by
  have hl0 : 0 < (least w).length := by rw [least_len]; exact h0
  have hp := rootL_is hl0
  obtain ⟨r1, _, _⟩ := hp.rp
  have hb := turnBy_lt h0
  have hle := hp.le
  rw [least_len] at hle
  have hpos := hp.pos
  refine Classical.byContradiction fun hc => ?_
  have hj := turnBy_first (w := w) (j := turnBy w - rootL (least w)) (by omega)
  have h1 := (rp_rot hp.le).mpr r1
  have hrl : (rot (turnBy w - rootL (least w)) w).length = w.length := rot_length ..
  have h2 : rot (rootL (least w)) (rot (turnBy w - rootL (least w)) w) = rot (turnBy w) w := by
    by_cases e : rootL (least w) = w.length
    · exfalso; omega
    · rw [rot_rot (by omega) (by omega), show rootL (least w) + (turnBy w - rootL (least w)) = turnBy w by omega, Nat.mod_eq_of_lt hb]
  rw [← least_eq] at h2 hj

  have h3 : rot (rootL (least w)) (rot (turnBy w - rootL (least w)) w) = rot (rootL (least w)) (least w) := by rw [h2, h1]
  have h4 := rot_inj (by rw [rot_length, least_len]) h3
  rw [h4] at hj
  exact ltir _ hj
set_option genInjectivity false in
structure At (R : W) (n : Nat) (w : W) (i : Nat) : Prop where
  lt : i < R.length
  is : ringAt R n i = w
section
variable {k n : Nat} {pre ls : List W} {f : W}
theorem split_at (hk : 0 < k) (e : LO k n = pre ++ f :: ls) {l : W} (hl : LW k n l) (hge : ¬ l < f) : ∃ a b, f :: ls = a ++ l :: b := by
  have hm : l ∈ LO k n := (mem_LO hk).mpr hl
  have hs := LO_sorted (k := k) (n := n) hk
  rw [e] at hm hs
  obtain ⟨_, _, h3⟩ := List.pairwise_append.mp hs
  rcases List.mem_append.mp hm with g | g
  · exact absurd (h3 l g f (by simp)) hge
  · exact List.append_of_mem g
theorem ring_pos (hk : 0 < k) (hn : 0 < n) (e : LO k n = pre ++ f :: ls) : 0 < (ringOf (f :: ls)).length := by
  have hf : LW k n f := (mem_LO hk).mp (by rw [e]; simp)
  rw [ringOf_cons, List.length_append, rootW_len (by rw [hf.len]; exact hn)]
  have := (rootL_is (w := f) (by rw [hf.len]; exact hn)).pos
  omega
theorem at_top (hk : 0 < k) (hn : 0 < n) (e : LO k n = pre ++ f :: ls) : ∃ i : Nat, ((((ringOf (f :: ls)).length : Nat) : Int) - (n : Int)) % (((ringOf (f :: ls)).length : Nat) : Int) = (i : Int) ∧ At (ringOf (f :: ls)) n (topW k n) i := by
  have hpos := ring_pos hk hn e
  by_cases hf : f = topW k n
  · have hls : ls = [] := by
      obtain ⟨a, ha⟩ := ends_top hk e
      cases a with
      | nil => exact (List.cons.inj ha).2
      | cons x a =>
        exfalso
        have hnd := LO_nodup (k := k) (n := n) hk
        rw [e] at hnd
        have h2 := (List.nodup_append.mp hnd).2.1
        rw [ha, hf.symm] at h2
        have hx : x = f := (List.cons.inj ha).1.symm
        rw [hx] at h2
        have := (List.nodup_cons.mp h2).1
        exact this (by simp)
    have hR : ringOf (f :: ls) = topW k 1 := by rw [hls, hf, ringOf_cons, rootW_top hn]; exact List.append_nil _
    refine ⟨0, by rw [hR, topW_len]; omega, by rw [hR, topW_len]; omega, ?_⟩
    rw [hR]
    apply ext_get
    · rw [ringAt_len, topW_len]
    · intro i hi
      rw [ringAt_len] at hi
      rw [ringAt_get hi (by rw [topW_len]; omega), topW_len, Nat.mod_one]
      unfold topW
      rw [List.getElem?_replicate, List.getElem?_replicate, if_pos (by omega), if_pos hi]
  · obtain ⟨z, hz⟩ := ring_end hk hn e hf
    have hl : (ringOf (f :: ls)).length = z.length + n := by rw [hz, List.length_append, topW_len]
    refine ⟨z.length, ?_, by omega, ?_⟩
    · rw [hl, show (((z.length + n : Nat) : Int)) - (n : Int) = (z.length : Int) by omega, Int.emod_eq_of_lt (by omega) (by omega)]
    · have := ringAt_mid (t := ringOf (f :: ls)) (a := z) (v := topW k n) (b := []) (by rw [hz, List.append_nil])
      rw [topW_len] at this
      exact this
theorem rot_parts (w : W) : w = w.take (turnBy w) ++ w.drop (turnBy w) ∧ least w = w.drop (turnBy w) ++ w.take (turnBy w) := ⟨(List.take_append_drop _ _).symm, least_eq w⟩
theorem at_in (hk : 0 < k) (hn : 0 < n) (e : LO k n = pre ++ f :: ls) {w : W} (hw : w.length = n ∧ Okk k w) (hge : ¬ least w < f) (hx : w.take (turnBy w) ≠ topW k (turnBy w)) :
    cb k f ≤ cb k (least w) ∧ turnBy w ≤ rootL (least w) ∧ At (ringOf (f :: ls)) n w (cb k (least w) - cb k f + rootL (least w) - turnBy w) := by
  have h0 : 0 < w.length := by omega
  have hlw : LW k n (least w) := by rw [← hw.1]; exact lw_least h0 hw.2
  have hby := turn_root h0
  have hbl := turnBy_lt h0
  obtain ⟨p1, p2⟩ := rot_parts w
  have hxl : (w.take (turnBy w)).length = turnBy w := by rw [List.length_take]; omega
  have hyl : (w.drop (turnBy w)).length = n - turnBy w := by rw [List.length_drop, hw.1]
  generalize hxe : w.take (turnBy w) = x at *
  generalize hye : w.drop (turnBy w) = y at *
  have hxc : ∃ c ∈ x, c ≠ 96 + k := Classical.byContradiction fun z => hx (by have := all_top z; rw [hxl] at this; exact this)
  obtain ⟨a, b, hab⟩ := split_at hk e hlw hge
  have hlen := ring_len hk hn a pre b (least w) f (by rw [e, hab]) (by rw [← hab]; rfl)
  have hl0 : 0 < (least w).length := by rw [hlw.len]; exact hn
  have hltop : least w ≠ topW k n := fun z => by
    obtain ⟨c, hc, hcn⟩ := hxc
    have : c ∈ least w := by rw [p2]; exact List.mem_append_right _ hc
    rw [z] at this
    exact hcn (List.mem_replicate.mp this).2
  cases b with
  | nil => exact absurd (last_top (pre := pre ++ a) hk (by rw [e, hab, List.append_assoc])) hltop
  | cons l' b =>
    have e2 : LO k n = (pre ++ a) ++ least w :: l' :: b := by rw [e, hab]; simp
    obtain ⟨s, hs⟩ := next_begins hk hlw (nx_of hk e2) p2 hxc
    have hl' : LW k n l' := (mem_LO hk).mp (by rw [e2]; simp)
    have hl'top : l' ≠ topW k n := fun z => by
      cases y with
      | nil => simp at hyl; omega
      | cons c y =>
        rw [hs] at z
        have hc : c = 96 + k := by
          have := congrArg List.head? z
          unfold topW at this
          rw [show n = n - 1 + 1 by omega, List.replicate_succ] at this
          exact Option.some.inj this
        exact hltop (top_begins (c := 0) (s := y ++ x) hlw (by rw [p2, hc]; rfl))
    obtain ⟨z, hz⟩ := read_self hk hn b l' (pre ++ a ++ [least w]) (by rw [e2]; simp) hl'top
    obtain ⟨t, ht, hrep, htl⟩ := rootW_is hl0
    have hrl := rootW_len hl0
  
    obtain ⟨q1, hq1⟩ : ∃ q1, rootW (least w) = q1 ++ x := by
      refine ⟨(rootW (least w)).take (rootL (least w) - turnBy w), ?_⟩
      have hsuf : least w = rep (t - 1) (rootW (least w)) ++ rootW (least w) := by
        rw [← rep_snoc, show t - 1 + 1 = t by omega]
        exact hrep
      generalize rootW (least w) = q at hsuf hrl ⊢
      generalize rootL (least w) = p at hrl hby ⊢
      have h1 : (y ++ x).drop (n - turnBy w) = x := List.drop_left' hyl
      rw [← p2, hsuf, List.drop_append] at h1
      have h2 : (rep (t - 1) q).length = n - p := by
        have := congrArg List.length hsuf
        rw [List.length_append, hrl, hlw.len] at this
        omega
      rw [List.drop_eq_nil_of_le (by omega), List.nil_append, h2] at h1
      have hpn : p ≤ n := by
        have := congrArg List.length hsuf
        rw [List.length_append, hrl, hlw.len] at this
        omega
      rw [show n - turnBy w - (n - p) = p - turnBy w by omega] at h1
      conv => lhs; rw [← List.take_append_drop (p - turnBy w) q, h1]
    have hR : ringOf (f :: ls) = (ringOf a ++ q1) ++ w ++ (s ++ z) := by
      rw [hab, ringOf_app, ringOf_cons, hz, hq1, hs]
      conv => rhs; rw [p1]
      simp only [List.append_assoc]
    have hq1l : q1.length = rootL (least w) - turnBy w := by
      have := congrArg List.length hq1
      rw [List.length_append, hrl, hxl] at this
      omega
    have hpos : cb k (least w) - cb k f + rootL (least w) - turnBy w = (ringOf a ++ q1).length := by rw [List.length_append]; omega
    refine ⟨by omega, by omega, ?_, ?_⟩
    · have h9 := congrArg List.length hR
      have h8 := hw.1
      rw [hpos]
      simp only [List.length_append] at h9 ⊢
      omega
    · rw [hpos]
      have := ringAt_mid hR
      rw [hw.1] at this
      exact this
theorem at_begin (hk : 0 < k) (hn : 0 < n) (e : LO k n = pre ++ f :: ls) {w bb : W} (hw : w.length = n ∧ Okk k w) (hge : ¬ least w < f) (hx : w.take (turnBy w) = topW k (turnBy w)) (hne : w ≠ topW k n) (hb : LB k n (w.drop (turnBy w)) bb) :
    ∃ i : Nat, (((cb k (if f < bb then bb else f) : Nat) : Int) - ((cb k f : Nat) : Int) - ((turnBy w : Nat) : Int)) % (((ringOf (f :: ls)).length : Nat) : Int) = (i : Int) ∧ At (ringOf (f :: ls)) n w i := by
  have h0 : 0 < w.length := by omega
  have hpos := ring_pos hk hn e
  have hlw : LW k n (least w) := by rw [← hw.1]; exact lw_least h0 hw.2
  have hbl := turnBy_lt h0
  obtain ⟨p1, p2⟩ := rot_parts w
  have hxl : (w.take (turnBy w)).length = turnBy w := by rw [List.length_take]; omega
  have hyl : (w.drop (turnBy w)).length = n - turnBy w := by rw [List.length_drop, hw.1]
  rw [hx] at p1 p2
  generalize hye : w.drop (turnBy w) = y at *
  generalize hbe : turnBy w = by_ at *
  have hf : LW k n f := (mem_LO hk).mp (by rw [e]; simp)

  have hyt : ∀ {v s : W}, v = y ++ s → v ≠ topW k n := fun {v s} hv z => by
    cases y with
    | nil => simp at hyl; omega
    | cons c y =>
      rw [hv] at z
      have hc : c = 96 + k := by
        have := congrArg List.head? z
        unfold topW at this
        rw [show n = n - 1 + 1 by omega, List.replicate_succ] at this
        exact Option.some.inj this
      have hlt : least w = topW k n := top_begins (c := 0) (s := y ++ topW k by_) hlw (by rw [p2, hc]; rfl)
      have h1 : y = topW k (n - by_ - 1) ∧ True := by
        refine ⟨?_, trivial⟩
        rw [hlt] at p2
        have h2 : ∀ d ∈ (c :: y) ++ topW k by_, d = 96 + k := fun d hd => by rw [← p2] at hd; exact (List.mem_replicate.mp hd).2
        refine List.eq_replicate_iff.mpr ⟨by simp at hyl; omega, fun d hd => h2 d (by simp [hd])⟩
      refine hne ?_
      rw [p1, h1.1, hc]
      refine List.eq_replicate_iff.mpr ⟨by simp [topW_len]; omega, fun d hd => ?_⟩
      simp [topW] at hd
      omega
  obtain ⟨s, hs⟩ := hb.pre
  by_cases hlt : f < bb
  · rw [if_pos hlt]
    obtain ⟨a, b, hab⟩ := split_at hk e hb.lw (fun z => ltir _ (ltt z hlt))
    have hane : a ≠ [] := fun z => by
      rw [z] at hab
      have := (List.cons.inj hab).1
      rw [this] at hlt
      exact ltir _ hlt
    obtain ⟨c, u, rfl⟩ : ∃ c u, a = c ++ [u] := ⟨a.dropLast, a.getLast hane, (List.dropLast_concat_getLast hane).symm⟩
    have e2 : LO k n = (pre ++ c) ++ u :: bb :: b := by rw [e, hab]; simp
    have hu : LW k n u := (mem_LO hk).mp (by rw [e2]; simp)
    obtain ⟨z1, hz1⟩ := ahead_ends hk hn hb hu (nx_of hk e2)
    rw [hyl, show n - (n - by_) = by_ by omega] at hz1
    obtain ⟨z2, hz2⟩ := read_self hk hn b bb (pre ++ (c ++ [u])) (by rw [e, hab]; simp) (hyt hs)
    have hlen := ring_len hk hn (c ++ [u]) pre b bb f (by rw [e, hab]) (by rw [← hab]; rfl)
    have hR : ringOf (f :: ls) = (ringOf c ++ z1) ++ w ++ (s ++ z2) := by
      rw [hab, ringOf_app, ringOf_app, ringOf_cons, hz2, hs, hz1]
      conv => rhs; rw [p1]
      show (ringOf c ++ (z1 ++ topW k by_ ++ [])) ++ (y ++ s ++ z2) = ringOf c ++ z1 ++ (topW k by_ ++ y) ++ (s ++ z2)
      simp only [List.append_nil, List.append_assoc]
    have hl1 : (ringOf (c ++ [u])).length = (ringOf c ++ z1).length + by_ := by
      rw [ringOf_app, ringOf_cons, hz1]
      show (ringOf c ++ (z1 ++ topW k by_ ++ [])).length = _
      simp only [List.append_nil, List.length_append, topW_len]
      omega
    have hRl : (ringOf (f :: ls)).length = (ringOf c ++ z1).length + n + (s ++ z2).length := by rw [hR, List.length_append, List.length_append, hw.1]
    refine ⟨(ringOf c ++ z1).length, ?_, by omega, ?_⟩
    · rw [show ((cb k bb : Nat) : Int) - ((cb k f : Nat) : Int) - ((by_ : Nat) : Int) = (((ringOf c ++ z1).length : Nat) : Int) by omega]
      exact Int.emod_eq_of_lt (by omega) (by omega)
    · have := ringAt_mid hR
      rw [hw.1] at this
      exact this
  · rw [if_neg hlt]
    obtain ⟨s', hs'⟩ : ∃ s', f = y ++ s' := between ⟨s, hs⟩ ⟨topW k by_, p2⟩ (by rw [hyl, hf.len]; omega) hlt hge
    obtain ⟨z0, hz0⟩ := read_self hk hn ls f pre e (hyt hs')
    obtain ⟨z, hz⟩ := ring_end hk hn e (hyt hs')
    have htop : topW k n = topW k (n - by_) ++ topW k by_ := by unfold topW; rw [List.replicate_append_replicate, show n - by_ + by_ = n by omega]
    have hR1 : ringOf (f :: ls) = (z ++ topW k (n - by_)) ++ topW k by_ := by rw [hz, htop, List.append_assoc]
    have hR2 : ringOf (f :: ls) = y ++ (s' ++ z0) := by rw [hz0, hs', List.append_assoc]
    have hw2 := ring_wrap hR1 hR2 hpos
    rw [topW_len, hyl, show by_ + (n - by_) = n by omega, ← p1] at hw2
    have hl1 : (ringOf (f :: ls)).length = (z ++ topW k (n - by_)).length + by_ := by rw [hR1, List.length_append, topW_len]
    refine ⟨(z ++ topW k (n - by_)).length % (ringOf (f :: ls)).length, ?_, Nat.mod_lt _ hpos, by rw [ringAt_mod]; exact hw2⟩
    rw [Int.sub_self, Int.natCast_emod, show (0 : Int) - ((by_ : Nat) : Int) = (((z ++ topW k (n - by_)).length : Nat) : Int) - (((ringOf (f :: ls)).length : Nat) : Int) by omega, Int.sub_emod_right]
end
end Wd

set_option Elab.async false
set_option linter.all false
namespace Wd
theorem nodup_of_all : ∀ {a b : List W}, b.Nodup → (∀ x ∈ b, x ∈ a) → a.length ≤ b.length → a.Nodup
  | [], _, _, _, _ => List.nodup_nil
  | x :: a, b, hb, h, hl => by
    have hx : x ∉ a := fun hx => by
      have := nodup_le b a hb fun y hy => by
        rcases List.mem_cons.mp (h y hy) with rfl | g
        · exact hx
        · exact g
      rw [List.length_cons] at hl
      omega
    refine List.nodup_cons.mpr ⟨hx, nodup_of_all (b := b.erase x) (hb.erase x) (fun y hy => ?_) ?_⟩
    · have h1 := (List.Nodup.mem_erase_iff hb).mp hy
      exact (List.mem_cons.mp (h y h1.2)).resolve_left h1.1
    · rw [List.length_cons] at hl
      have := List.length_erase (a := x) (l := b)
      split at this <;> omega
noncomputable def due (k n : Nat) (f : W) : List W := (allW k n).filter fun w => !decide (least w < f)
theorem mem_due {k n : Nat} {f w : W} (hk : 0 < k) : w ∈ due k n f ↔ (w.length = n ∧ Okk k w) ∧ ¬ least w < f := by
  unfold due
  rw [List.mem_filter, mem_allW hk]
  simp
theorem due_nodup {k n : Nat} {f : W} (hk : 0 < k) : (due k n f).Nodup := (allW_nd hk).filter _
section
variable {k n : Nat} {pre ls : List W} {f : W}
theorem due_len (hk : 0 < k) (hn : 0 < n) (e : LO k n = pre ++ f :: ls) : (due k n f).length = (ringOf (f :: ls)).length := by
  have hf : LW k n f := (mem_LO hk).mp (by rw [e]; simp)
  have h1 := ring_total hk hn e
  have h2 := filter_two (allW k n) fun u => decide (least u < f)
  rw [allW_len] at h2
  have h3 : cb k f = ((allW k n).filter fun u => decide (least u < f)).length := by unfold cb; rw [hf.len]
  unfold due
  omega
theorem lb_ex (hk : 0 < k) {y x : W} (h : LW k n (y ++ x)) : ∃ b, LB k n y b := by
  have hm : y ++ x ∈ (LO k n).filter (begs y) := List.mem_filter.mpr ⟨(mem_LO hk).mpr h, begs_iff.mpr ⟨x, rfl⟩⟩
  cases he : (LO k n).filter (begs y) with
  | nil => rw [he] at hm; cases hm
  | cons b r => exact ⟨b, begs_head hk he⟩
theorem stands (hk : 0 < k) (hn : 0 < n) (e : LO k n = pre ++ f :: ls) {w : W} (hw : w ∈ due k n f) : ∃ i, At (ringOf (f :: ls)) n w i := by
  obtain ⟨h1, h2⟩ := (mem_due hk).mp hw
  by_cases ht : w = topW k n
  · obtain ⟨i, _, hi⟩ := at_top hk hn e
    exact ⟨i, by rw [ht]; exact hi⟩
  · by_cases hx : w.take (turnBy w) = topW k (turnBy w)
    · obtain ⟨b, hb⟩ := lb_ex (n := n) (y := w.drop (turnBy w)) (x := w.take (turnBy w)) hk (by rw [← (rot_parts w).2, ← h1.1]; exact lw_least (by omega) h1.2)
      obtain ⟨i, _, hi⟩ := at_begin hk hn e h1 h2 hx ht hb
      exact ⟨i, hi⟩
    · exact ⟨_, (at_in hk hn e h1 h2 hx).2.2⟩
theorem At.get {R : W} {w : W} {i : Nat} (h : At R n w i) : (ringW R n)[i]? = some w := by rw [ringW_get h.lt, h.is]
theorem At.mem {R : W} {w : W} {i : Nat} (h : At R n w i) : w ∈ ringW R n := List.mem_of_getElem? h.get
theorem fkm (hk : 0 < k) (hn : 0 < n) (e : LO k n = pre ++ f :: ls) : (ringW (ringOf (f :: ls)) n).Nodup ∧ (ringW (ringOf (f :: ls)) n).Perm (due k n f) := by
  have hl : (ringW (ringOf (f :: ls)) n).length = (due k n f).length := by rw [ringW_len, due_len hk hn e]
  have hall : ∀ w ∈ due k n f, w ∈ ringW (ringOf (f :: ls)) n := fun w hw => (stands hk hn e hw).elim fun _ h => h.mem
  have hnd := nodup_of_all (due_nodup hk) hall (by omega)
  refine ⟨hnd, (List.perm_ext_iff_of_nodup hnd (due_nodup hk)).mpr fun w => ⟨fun hw => ?_, hall w⟩⟩
  refine Classical.byContradiction fun hno => ?_
  have := nodup_le (w :: due k n f) (ringW (ringOf (f :: ls)) n) (List.nodup_cons.mpr ⟨hno, due_nodup hk⟩) fun y hy => by
    rcases List.mem_cons.mp hy with rfl | hy
    · exact hw
    · exact hall y hy
  rw [List.length_cons] at this
  omega
set_option genInjectivity false in
structure Walk (R : W) (f : W) (k : Nat) (ls : List W) (p : Nat) (t u : W) : Prop where
  mem : u ∈ ls
  rd : t = ringAt R t.length p
  at_ : (p + t.length) % R.length = cb k u - cb k f
  ge : cb k f ≤ cb k u
theorem Walk.step (hk : 0 < k) (hn : 0 < n) (e : LO k n = pre ++ f :: ls) {p : Nat} {t u : W} (h : Walk (ringOf (f :: ls)) f k (f :: ls) p t u) : t ++ rootW u = ringAt (ringOf (f :: ls)) (t ++ rootW u).length p ∧ cb k u - cb k f + rootL u ≤ (ringOf (f :: ls)).length ∧ (p + (t ++ rootW u).length) % (ringOf (f :: ls)).length = (cb k u - cb k f + rootL u) % (ringOf (f :: ls)).length := by
  have hpos := ring_pos hk hn e
  obtain ⟨a, b, hab⟩ := List.append_of_mem h.mem
  have hu : LW k n u := (mem_LO hk).mp (by rw [e, hab]; simp)
  have hu0 : 0 < u.length := by rw [hu.len]; exact hn
  have hlen := ring_len hk hn a pre b u f (by rw [e, hab]) (by rw [← hab]; rfl)
  have hrl := rootW_len hu0
  have hR : ringOf (f :: ls) = ringOf a ++ rootW u ++ ringOf b := by rw [hab, ringOf_app, ringOf_cons, List.append_assoc]
  have hRl : (ringOf (f :: ls)).length = (ringOf a).length + rootL u + (ringOf b).length := by rw [hR, List.length_append, List.length_append, hrl]
  have hbeg : cb k u - cb k f = (ringOf a).length := by omega
  have hat := h.at_
  rw [hbeg] at hat
  refine ⟨?_, by omega, ?_⟩
  · apply ext_get
    · rw [ringAt_len]
    · intro i hi
      rw [List.length_append] at hi
      rw [ringAt_get (by rw [List.length_append]; exact hi) hpos]
      by_cases c : i < t.length
      · rw [List.getElem?_append_left c]
        conv => lhs; rw [h.rd]
        rw [ringAt_get c hpos]
      · rw [List.getElem?_append_right (by omega)]
        have e1 : (p + i) % (ringOf (f :: ls)).length = (ringOf a).length + (i - t.length) := by
          rw [show p + i = (p + t.length) + (i - t.length) by omega, Nat.add_mod, hat]
          rw [hrl] at hi
          rw [Nat.mod_eq_of_lt (show i - t.length < (ringOf (f :: ls)).length by omega), Nat.mod_eq_of_lt (by omega)]
        rw [e1]
        conv => rhs; rw [hR, List.append_assoc]
        rw [List.getElem?_append_right (by omega), Nat.add_sub_cancel_left, List.getElem?_append_left (by omega)]
  · rw [List.length_append, hrl, ← Nat.add_assoc, Nat.add_mod, hat, hbeg]
    conv => rhs; rw [Nat.add_mod]
    rw [Nat.mod_eq_of_lt (show (ringOf a).length < (ringOf (f :: ls)).length by have := (rootL_is hu0).pos; omega)]
theorem Walk.next (hk : 0 < k) (hn : 0 < n) (e : LO k n = pre ++ f :: ls) {p : Nat} {t u v : W} (h : Walk (ringOf (f :: ls)) f k (f :: ls) p t u) (hv : (NX k u v) ∨ (v = f ∧ ∀ x, LW k n x → ¬ u < x)) : Walk (ringOf (f :: ls)) f k (f :: ls) p (t ++ rootW u) v := by
  obtain ⟨h1, h2, h3⟩ := h.step hk hn e
  have hu : LW k n u := (mem_LO hk).mp (by rw [e]; exact List.mem_append_right _ h.mem)
  rcases hv with hv | ⟨rfl, hno⟩
  · have hc := cb_next hk hn hu hv
    have hvl : LW k n v := by have := hv.lw; rwa [hu.len] at this
    have hge := h.ge
    have hm : v ∈ f :: ls := by
      have hfu : ¬ u < f := fun z => by
        obtain ⟨a, b, hab⟩ := List.append_of_mem h.mem
        have hs := LO_sorted (k := k) (n := n) hk
        rw [e] at hs
        obtain ⟨_, h2, _⟩ := List.pairwise_append.mp hs
        rcases List.mem_cons.mp h.mem with rfl | hm
        · exact ltir _ z
        · exact ltir _ (ltt z ((List.pairwise_cons.mp h2).1 u hm))
      obtain ⟨a, b, hab⟩ := split_at hk e hvl (fun z => hfu (ltt hv.gt z))
      rw [hab]; simp
    refine ⟨hm, h1, ?_, by omega⟩
    rw [h3, hc, show cb k u + rootL u - cb k f = cb k u - cb k f + rootL u by omega]
    refine Nat.mod_eq_of_lt ?_
    have hvp := (rootL_is (w := v) (by rw [hvl.len]; exact hn)).pos
    obtain ⟨a, b, hab⟩ := List.append_of_mem hm
    have hlen := ring_len hk hn a pre b v f (by rw [e, hab]) (by rw [← hab]; rfl)
    have hRl : (ringOf (f :: ls)).length = (ringOf a).length + (rootL v + (ringOf b).length) := by rw [hab, ringOf_app, List.length_append, ringOf_cons, List.length_append, rootW_len (by rw [hvl.len]; exact hn)]
    omega
  · have htop : u = topW k n := tri (hno _ (topW_LW hk)) (top_le hu.len hu.ok) |>.symm ▸ rfl
    have htot := ring_total hk hn e
    have hup := up_top (k := k) (n := n) hk hn
    have hucb := up_cb (l := topW k n) hk (by rw [topW_len]; exact hn) (by rw [topW_len]; exact topW_LW hk)
    have hge := h.ge
    rw [htop] at h1 h2 h3 hge ⊢
    refine ⟨by simp, h1, ?_, Nat.le_refl _⟩
    rw [h3, show cb k (topW k n) - cb k v + rootL (topW k n) = (ringOf (v :: ls)).length by omega, Nat.mod_self, Nat.sub_self]
end
end Wd

set_option Elab.async false
set_option linter.all false
namespace Wd
noncomputable def ringF (k : Nat) (f : W) : W := ringOf ((LO k f.length).filter fun v => !decide (v < f))
theorem ringF_is {k n : Nat} {f : W} (hk : 0 < k) (hf : LW k n f) : ∃ pre ls, LO k n = pre ++ f :: ls ∧ ringF k f = ringOf (f :: ls) := by
  obtain ⟨pre, ls, e⟩ := List.append_of_mem ((mem_LO hk).mpr hf)
  refine ⟨pre, ls, e, ?_⟩
  have hs := LO_sorted (k := k) (n := n) hk
  rw [e] at hs
  obtain ⟨_, h2, h3⟩ := List.pairwise_append.mp hs
  obtain ⟨h4, _⟩ := List.pairwise_cons.mp h2
  unfold ringF
  rw [hf.len, e, List.filter_append, List.filter_eq_nil_iff.mpr (fun v hv => by simp [h3 v hv f (by simp)]), List.nil_append]
  rw [List.filter_eq_self.mpr]
  intro v hv
  rcases List.mem_cons.mp hv with rfl | hv
  · simp [ltir]
  · have : ¬ v < f := fun z => ltir _ (ltt z (h4 v hv))
    simp [this]
theorem ringF_len {k n : Nat} {f : W} (hk : 0 < k) (hn : 0 < n) (hf : LW k n f) : (ringF k f).length + cb k f = k ^ n ∧ 0 < (ringF k f).length := by
  obtain ⟨pre, ls, e, h⟩ := ringF_is hk hf
  rw [h]
  exact ⟨ring_total hk hn e, ring_pos hk hn e⟩
theorem ringAt_all {R : W} (hR : 0 < R.length) : ringAt R R.length 0 = R := by
  apply ext_get
  · rw [ringAt_len]
  · intro i hi
    rw [ringAt_len] at hi
    rw [ringAt_get hi hR, Nat.zero_add, Nat.mod_eq_of_lt hi]
end Wd

set_option Elab.async false
set_option linter.all false
set_option maxRecDepth 100000
namespace Wd
section
variable {k n : Nat} {pre ls : List W} {f : W}
theorem least_at (hk : 0 < k) (hn : 0 < n) (e : LO k n = pre ++ f :: ls) {l : W} (hl : LW k n l) (hge : ¬ l < f) (hne : l ≠ topW k n) : cb k f ≤ cb k l ∧ At (ringOf (f :: ls)) n l (cb k l - cb k f) := by
  obtain ⟨a, b, hab⟩ := split_at hk e hl hge
  have h1 := ring_len hk hn a pre b l f (by rw [← hab]; exact e) (by rw [← hab]; rfl)
  obtain ⟨z, hz⟩ := read_self hk hn b l (pre ++ a) (by rw [List.append_assoc, ← hab]; exact e) hne
  have hR : ringOf (f :: ls) = ringOf a ++ l ++ z := by rw [hab, ringOf_app, hz, List.append_assoc]
  have hll := hl.len
  refine ⟨by omega, ?_, ?_⟩
  · rw [hR, List.length_append, List.length_append]; omega
  · have := ringAt_mid hR
    rw [hll] at this
    rw [show cb k l - cb k f = (ringOf a).length by omega]
    exact this
theorem top_alone (hk : 0 < k) (hn : 0 < n) (e : LO k n = pre ++ f :: ls) (hf : f = topW k n) : (ringOf (f :: ls)).length = 1 := by
  have h1 := ring_total hk hn e
  have h2 := up_cb (k := k) (l := topW k n) hk (by rw [topW_len]; exact hn) (by rw [topW_len]; exact topW_LW hk)
  rw [up_top hk hn, rootL_top hn, ← hf] at h2
  omega
theorem first_at (hk : 0 < k) (hn : 0 < n) (e : LO k n = pre ++ f :: ls) : At (ringOf (f :: ls)) n f 0 := by
  have hf : LW k n f := (mem_LO hk).mp (by rw [e]; simp)
  by_cases h : f = topW k n
  · obtain ⟨i, _, hat⟩ := at_top hk hn e
    have := hat.lt
    rw [top_alone hk hn e h] at this
    obtain rfl : i = 0 := by omega
    rw [h] at hat ⊢
    exact hat
  · have := (least_at hk hn e hf (ltir _) h).2
    rw [Nat.sub_self] at this
    exact this
end
section
variable {k n : Nat} {f : W}
theorem ringF_first (hk : 0 < k) (hn : 0 < n) (hf : LW k n f) : At (ringF k f) n f 0 := by
  obtain ⟨pre, ls, e, hR⟩ := ringF_is hk hf
  rw [hR]
  exact first_at hk hn e
end
end Wd
namespace Wd
end Wd
namespace Wd
section
variable {k n : Nat} {f : W}
end
end Wd

set_option linter.all false
namespace Dt
noncomputable abbrev Mx := Nat → Nat → Int
noncomputable def sg (j : Nat) : Int := if j % 2 = 0 then 1 else -1
section
variable {n N p q i j k l : Nat} {A B : Mx} {f g : Nat → Int} {c m : Int}
noncomputable def tr (p i : Nat) : Nat := if i = p then p + 1 else if i = p + 1 then p else i
noncomputable def mv (p : Nat) (A : Mx) : Mx := fun i k => if i = 0 then A p k else if i ≤ p then A (i - 1) k else A i k
end
end Dt

set_option linter.all false
namespace Dt
noncomputable def sN : Nat → (Nat → Nat) → Nat
  | 0, _ => 0
  | n + 1, f => sN n f + f n
section
variable {n N p q i j k l : Nat} {A B : Mx} {f g : Nat → Nat} {c m : Int}
end
end Dt

set_option linter.all false
namespace Hg
variable {bg en : List Nat → List Nat}
inductive Rch (bg en : List Nat → List Nat) (ms : List (List Nat)) (p : List Nat) : List Nat → Prop
  | self : Rch bg en ms p p
  | fw {w : List Nat} : w ∈ ms → Rch bg en ms p (bg w) → Rch bg en ms p (en w)
  | bw {w : List Nat} : w ∈ ms → Rch bg en ms p (en w) → Rch bg en ms p (bg w)
noncomputable def Cl (bg en : List Nat → List Nat) (ls : List (List Nat)) (w : List Nat) : Prop := bg w ∈ ls ↔ en w ∈ ls
theorem Rch.inside {ms ls : List (List Nat)} {p z : List Nat} (hp : p ∈ ls) (hc : ∀ w ∈ ms, Cl bg en ls w) (h : Rch bg en ms p z) : z ∈ ls := by
  induction h with
  | self => exact hp
  | fw hw _ ih => exact (hc _ hw).mp ih
  | bw hw _ ih => exact (hc _ hw).mpr ih
noncomputable def addT (ls : List (List Nat)) (t : List Nat) : List (List Nat) := if t ∈ ls then ls else ls ++ [t]
theorem addT_mem {ls : List (List Nat)} {t z : List Nat} : z ∈ addT ls t ↔ z ∈ ls ∨ z = t := by
  unfold addT
  split
  · rename_i h
    exact ⟨.inl, fun g => g.elim id fun e => e ▸ h⟩
  · rw [List.mem_append, List.mem_singleton]
theorem addT_nd {ls : List (List Nat)} {t : List Nat} (h : ls.Nodup) : (addT ls t).Nodup := by
  unfold addT
  split
  · exact h
  · rename_i g
    refine List.nodup_append.mpr ⟨h, by simp, fun a ha b hb e => ?_⟩
    rw [List.mem_singleton] at hb
    exact g (hb ▸ e ▸ ha)
theorem addT_pre (ls : List (List Nat)) (t : List Nat) : ls <+: addT ls t := by
  unfold addT
  split
  · exact List.prefix_refl _
  · exact List.prefix_append ..
theorem addT_len (ls : List (List Nat)) (t : List Nat) : (addT ls t).length ≤ ls.length + 1 := by
  unfold addT
  split
  · omega
  · simp
set_option genInjectivity false in
structure Pass (bg en : List Nat → List Nat) (ms : List (List Nat)) (p : List Nat) (fs : List (List Nat)) (i : Nat) (ls : List (List Nat)) : Prop where
  nd : ls.Nodup
  pre : fs <+: ls
  rch : ∀ z ∈ ls, Rch bg en ms p z
  cl : ls.length = fs.length → ∀ w ∈ ms.take i, Cl bg en fs w
theorem Pass.zero {ms fs : List (List Nat)} {p : List Nat} (nd : fs.Nodup) (rch : ∀ z ∈ fs, Rch bg en ms p z) : Pass bg en ms p fs 0 fs := ⟨nd, List.prefix_refl _, rch, fun _ w hw => by rw [List.take_zero] at hw; cases hw⟩
theorem take_mem {ms : List (List Nat)} {i : Nat} {w v : List Nat} (h : ms[i]? = some w) (hv : v ∈ ms.take (i + 1)) : v ∈ ms.take i ∨ v = w := by
  rw [List.take_add_one, h, List.mem_append] at hv
  rcases hv with z | z
  · exact .inl z
  · exact .inr (by simpa using z)
theorem Pass.yes {ms fs ls : List (List Nat)} {p w : List Nat} {i : Nat} (h : Pass bg en ms p fs i ls) (hw : ms[i]? = some w) (hi : bg w ∈ ls ∨ en w ∈ ls) : Pass bg en ms p fs (i + 1) (addT (addT ls (bg w)) (en w)) := by
  have hm := List.mem_of_getElem? hw
  have p1 := (addT_pre ls (bg w)).trans (addT_pre (addT ls (bg w)) (en w))
  refine ⟨addT_nd (addT_nd h.nd), h.pre.trans p1, fun z hz => ?_, fun e v hv => ?_⟩
  · rw [addT_mem, addT_mem] at hz
    have hb : Rch bg en ms p (bg w) ∧ Rch bg en ms p (en w) := by
      rcases hi with g | g
      · exact ⟨h.rch _ g, .fw hm (h.rch _ g)⟩
      · exact ⟨.bw hm (h.rch _ g), h.rch _ g⟩
    rcases hz with (z | rfl) | rfl
    · exact h.rch _ z
    · exact hb.1
    · exact hb.2
  · have l1 := h.pre.length_le
    have l2 := p1.length_le
    have e1 : ls.length = fs.length := by omega
    rcases take_mem hw hv with g | rfl
    · exact h.cl e1 v g
    · have q1 := h.pre.eq_of_length (by omega)
      have q2 := p1.eq_of_length (by omega)
      subst q1
      have m1 : bg v ∈ fs := by rw [q2, addT_mem, addT_mem]; exact .inl (.inr rfl)
      have m2 : en v ∈ fs := by rw [q2, addT_mem]; exact .inr rfl
      exact ⟨fun _ => m2, fun _ => m1⟩
theorem Pass.no {ms fs ls : List (List Nat)} {p w : List Nat} {i : Nat} (h : Pass bg en ms p fs i ls) (hw : ms[i]? = some w) (h1 : ¬ bg w ∈ ls) (h2 : ¬ en w ∈ ls) : Pass bg en ms p fs (i + 1) ls := by
  refine ⟨h.nd, h.pre, h.rch, fun e v hv => ?_⟩
  rcases take_mem hw hv with g | rfl
  · exact h.cl e v g
  · exact ⟨fun z => absurd (h.pre.subset z) h1, fun z => absurd (h.pre.subset z) h2⟩
noncomputable def allP (bg en : List Nat → List Nat) (ms : List (List Nat)) : List (List Nat) := ms.map bg ++ ms.map en
theorem rch_in {ms : List (List Nat)} {p z : List Nat} (h : Rch bg en ms p z) : z = p ∨ z ∈ allP bg en ms := by
  cases h with
  | self => exact .inl rfl
  | fw hw _ => exact .inr (List.mem_append.mpr (.inr (List.mem_map_of_mem hw)))
  | bw hw _ => exact .inr (List.mem_append.mpr (.inl (List.mem_map_of_mem hw)))
theorem nd_len {α : Type} [BEq α] [LawfulBEq α] : ∀ {ls ms : List α}, ls.Nodup → (∀ z ∈ ls, z ∈ ms) → ls.length ≤ ms.length
  | [], _, _, _ => Nat.zero_le _
  | a :: ls, ms, h, hs => by
    rw [List.nodup_cons] at h
    have ha := hs a (List.mem_cons_self ..)
    have ih := nd_len (ls := ls) (ms := ms.erase a) h.2 fun z hz => (List.mem_erase_of_ne (fun e : z = a => h.1 (e ▸ hz))).mpr (hs z (List.mem_cons_of_mem _ hz))
    have := List.length_erase_of_mem ha
    have := List.length_pos_of_mem ha
    rw [List.length_cons]
    omega
theorem len_le {ms ls : List (List Nat)} {p : List Nat} (h : ls.Nodup) (hr : ∀ z ∈ ls, Rch bg en ms p z) : ls.length ≤ 2 * ms.length + 1 := by
  have := nd_len (ms := p :: allP bg en ms) h fun z hz => List.mem_cons.mpr (rch_in (hr z hz))
  unfold allP at this
  rw [List.length_cons, List.length_append, List.length_map, List.length_map] at this
  omega
noncomputable def miss (ps met : List (List Nat)) : Nat := (ps.filter fun z => decide (¬ z ∈ met)).length
set_option genInjectivity false in
structure Walk (bg en : List Nat → List Nat) (ms : List (List Nat)) (p : List Nat) (fs : List (List Nat)) (i : Nat) (ls : List (List Nat)) (ch : Bool) : Prop where
  sub : ∀ z ∈ fs, z ∈ ls
  rch : ∀ z ∈ ls, Rch bg en ms p z
  len : ls.length + 2 * miss (allP bg en ms) ls ≤ fs.length + 2 * miss (allP bg en ms) fs
  no : ch = false → ls = fs ∧ ∀ w ∈ ms.take i, Cl bg en fs w
  yes : ch = true → miss (allP bg en ms) ls < miss (allP bg en ms) fs
end Hg

set_option linter.all false
namespace Dt
section
variable {N F b d e n : Nat}
noncomputable def pm (N : Nat) : Nat → Nat → Nat → Nat
  | 0, _, _ => 1 % N
  | f + 1, b, e => if e = 0 then 1 % N else if e % 2 = 1 then b * pm N f (b * b % N) (e / 2) % N else pm N f (b * b % N) (e / 2)
end
end Dt

set_option linter.all false
namespace Dt
section
variable {N F b d e n : Nat}
end
end Dt

set_option linter.all false
namespace Dt
end Dt
namespace Dt
noncomputable def rs (n : Nat) (r : List Int) : Nat := sN n fun k => (r.getD k 0).natAbs
noncomputable def kn : List Nat := [133, 211, 598, 652, 721, 850, 1282]
end Dt

set_option linter.all false
namespace Dt
section
variable {n m p q i j k l : Nat} {A B T U : Mx} {f g : Nat → Int} {c : Nat → Int}
end
end Dt

set_option linter.all false
namespace Dt
section
variable {n i j k l m : Nat} {A B : Mx} {f : Nat → Nat} {c : Int}
noncomputable def un (i k : Nat) : Int := if k = i then 1 else 0
end
end Dt

set_option linter.all false
namespace Dt
noncomputable def rowW (n i w : Nat) : Nat → Int := fun k => un i k - if w < n then un w k else 0
section
variable {n m i : Nat} {A : Mx} {Ws : Nat → List Nat} {c : List Nat}
noncomputable def goF (n : Nat) (c : List Nat) (i : Nat) : Nat := if i < n then c.getD i n else i
noncomputable def goN (n : Nat) (c : List Nat) : Nat → Nat → Nat
  | 0, i => i
  | k + 1, i => goF n c (goN n c k i)
noncomputable def comes (n : Nat) (c : List Nat) : Prop := ∀ i, i < n → ¬ goN n c n i < n
end
end Dt

set_option linter.all false
namespace Dt
noncomputable def cE (words : List (List Nat)) (o : List Nat) : Int := ((words.countP fun w => decide (w.drop 1 = o) : Nat) : Int)
noncomputable def rI (texts : List (List Nat)) (t : List Nat) (words : List (List Nat)) : List Int := texts.map fun o => if o = t then ((words.length : Nat) : Int) - cE words t else - cE words o
end Dt

set_option linter.all false
namespace Dt
end Dt

set_option linter.all false
namespace Dt
inductive R2 {α β : Type} (R : α → β → Prop) : List α → List β → Prop
  | nil : R2 R [] []
  | cons {a : α} {b : β} {as : List α} {bs : List β} : R a b → R2 R as bs → R2 R (a :: as) (b :: bs)
section
variable {α β : Type} {R R' : α → β → Prop} {as : List α} {bs : List β}
end
noncomputable abbrev W := List Nat
end Dt

set_option linter.all false
namespace Hg
variable {bg en : List Nat → List Nat}
noncomputable def Tr (bg en : List Nat → List Nat) : List Nat → List (List Nat) → List Nat → Prop
  | p, [], q => p = q
  | p, w :: ws, q => bg w = p ∧ Tr bg en (en w) ws q
theorem Tr.mem : ∀ {ws : List (List Nat)} {p q : List Nat}, Tr bg en p ws q → ∀ w ∈ ws, bg w ∈ p :: ws.map en
  | v :: ws, p, q, h, w, hw => by
    rcases List.mem_cons.mp hw with rfl | hw
    · rw [h.1]
      exact List.mem_cons_self ..
    · exact List.mem_cons_of_mem _ (Tr.mem h.2 w hw)
theorem Tr.exc (χ : List Nat → Bool) : ∀ {ws : List (List Nat)} {p q : List Nat}, Tr bg en p ws q → ((ws.filter fun l => χ (bg l)).length : Int) - ((ws.filter fun l => χ (en l)).length : Int) = (if χ p then 1 else 0) - (if χ q then 1 else 0)
  | [], p, q, h => by
    cases h
    simp
  | w :: ws, p, q, h => by
    have ih := Tr.exc χ h.2
    rw [List.filter_cons, List.filter_cons, h.1]
    by_cases h1 : χ p <;> by_cases h2 : χ (en w) <;> simp [h1, h2] at ih ⊢ <;> omega
theorem Tr.rch {ms : List (List Nat)} {p : List Nat} : ∀ {ws : List (List Nat)} {r q : List Nat}, Tr bg en r ws q → (∀ w ∈ ws, w ∈ ms) → Rch bg en ms p r → ∀ w ∈ ws, Rch bg en ms p (bg w) ∧ Rch bg en ms p (en w)
  | v :: ws, r, q, h, hs, hr, w, hw => by
    have h1 : Rch bg en ms p (bg v) := by rw [h.1]; exact hr
    have h2 : Rch bg en ms p (en v) := .fw (hs v (List.mem_cons_self ..)) h1
    rcases List.mem_cons.mp hw with rfl | hw
    · exact ⟨h1, h2⟩
    · exact Tr.rch h.2 (fun w hw => hs w (List.mem_cons_of_mem _ hw)) h2 w hw
theorem Rch.trans {ms : List (List Nat)} {p z y : List Nat} (h1 : Rch bg en ms p z) (h2 : Rch bg en ms z y) : Rch bg en ms p y := by
  induction h2 with
  | self => exact h1
  | fw hw _ ih => exact .fw hw ih
  | bw hw _ ih => exact .bw hw ih
theorem Rch.symm {ms : List (List Nat)} {p z : List Nat} (h : Rch bg en ms p z) : Rch bg en ms z p := by
  induction h with
  | self => exact .self
  | fw hw _ ih => exact (Rch.bw hw .self).trans ih
  | bw hw _ ih => exact (Rch.fw hw .self).trans ih
end Hg

set_option linter.all false
namespace Wd
open Hg
noncomputable def beg (l : W) : W := l.take (l.length - 1)
noncomputable def fin (l : W) : W := l.drop 1
theorem fin_ring {t : W} {n i : Nat} : fin (ringAt t n i) = beg (ringAt t n (i + 1)) := by
  unfold fin beg
  rw [ringAt_len]
  apply List.ext_getElem?
  intro k
  rw [List.getElem?_drop]
  by_cases hk : k < n - 1
  · rw [List.getElem?_take_of_lt hk]
    unfold ringAt
    rw [List.getElem?_map, List.getElem?_map, List.getElem?_range (by omega), List.getElem?_range (by omega)]
    show some (t.getD ((i + (1 + k)) % t.length) 0) = some (t.getD ((i + 1 + k) % t.length) 0)
    rw [Nat.add_assoc]
  · rw [List.getElem?_eq_none (by rw [ringAt_len]; omega), List.getElem?_eq_none (by rw [List.length_take, ringAt_len]; omega)]
theorem Tr.app {p r q : W} : ∀ {xs ys : List W} {p : W}, Tr beg fin p xs r → Tr beg fin r ys q → Tr beg fin p (xs ++ ys) q
  | [], _, _, h, g => by cases h; exact g
  | x :: xs, _, _, h, g => ⟨h.1, Tr.app (p := p) h.2 g⟩
noncomputable def seg (t : W) (n i j : Nat) : List W := (List.range' i (j - i)).map (ringAt t n)
theorem seg_tr {t : W} {n : Nat} : ∀ {k i : Nat}, Tr beg fin (beg (ringAt t n i)) ((List.range' i k).map (ringAt t n)) (beg (ringAt t n (i + k)))
  | 0, i => rfl
  | k + 1, i => by
    rw [List.range'_succ, List.map_cons]
    refine ⟨rfl, ?_⟩
    rw [fin_ring, show i + (k + 1) = i + 1 + k by omega]
    exact seg_tr
theorem seg_tr' {t : W} {n i j : Nat} (h : i ≤ j) : Tr beg fin (beg (ringAt t n i)) (seg t n i j) (beg (ringAt t n j)) := by
  have := seg_tr (t := t) (n := n) (k := j - i) (i := i)
  rw [Nat.add_sub_cancel' h] at this
  exact this
theorem seg_all (t : W) (n : Nat) : seg t n 0 t.length = ringW t n := by
  unfold seg ringW
  rw [Nat.sub_zero, List.range_eq_range']
noncomputable def sl (t : W) (i j : Nat) : W := (t.drop i).take (j - i)
noncomputable def hd (w : W) : Nat := w.getD 0 0
theorem seg_hd {t : W} {n i j : Nat} (hn : 1 ≤ n) (hj : j ≤ t.length) : (seg t n i j).map hd = sl t i j := by
  unfold seg sl
  rw [List.map_map]
  apply List.ext_getElem?
  intro k
  rw [List.getElem?_map]
  by_cases hk : k < j - i
  · rw [List.getElem?_range' hk, List.getElem?_take_of_lt hk, List.getElem?_drop]
    show some (hd (ringAt t n (i + 1 * k))) = _
    unfold hd ringAt
    obtain ⟨m, rfl⟩ : ∃ m, n = m + 1 := ⟨n - 1, by omega⟩
    rw [List.getD_eq_getElem?_getD, List.getElem?_map, List.getElem?_range (by omega)]
    show some (t.getD ((i + 1 * k + 0) % t.length) 0) = _
    rw [Nat.one_mul, Nat.add_zero, Nat.mod_eq_of_lt (by omega), List.getD_eq_getElem?_getD, List.getElem?_eq_getElem (by omega)]
    rfl
  · rw [List.getElem?_eq_none (by rw [List.length_range']; omega), List.getElem?_eq_none (by rw [List.length_take]; omega)]
    rfl
section
variable {t : W} {n a b c d : Nat}
theorem ringAt_end : beg (ringAt t n t.length) = beg (ringAt t n 0) := by rw [← ringAt_mod (i := t.length), Nat.mod_self]
theorem sl_all : sl t 0 t.length = t := by unfold sl; rw [List.drop_zero, Nat.sub_zero, List.take_length]
end
end Wd

set_option linter.all false
namespace Wd
section
variable {r g : W} {n : Nat}
end
end Wd

set_option linter.all false
namespace Wd
theorem rowW_snoc {t : W} {n c : Nat} (hn : 1 ≤ n) (h : n ≤ t.length + 1) : rowW (t ++ [c]) n = rowW t n ++ [t.drop (t.length + 1 - n) ++ [c]] := by
  unfold rowW
  rw [List.length_append, List.length_singleton, show t.length + 1 + 1 - n = t.length + 1 - n + 1 by omega, List.range_succ, List.map_append]
  refine congr (congrArg _ (List.map_congr_left fun i hi => ?_)) ?_
  · rw [List.mem_range] at hi
    rw [← row_at (t := t ++ [c]) (by rw [List.length_append, List.length_singleton]; omega), ← row_at (t := t) (by omega), List.drop_append_of_le_length (by omega), List.take_append_of_le_length (by rw [List.length_drop]; omega)]
  · show [ringAt (t ++ [c]) n (t.length + 1 - n)] = _
    rw [← row_at (t := t ++ [c]) (by rw [List.length_append, List.length_singleton]; omega), List.drop_append_of_le_length (by omega), List.take_of_length_le (by rw [List.length_append, List.length_drop, List.length_singleton]; omega)]
end Wd

set_option linter.all false
namespace Wd
noncomputable def per (u : W) (m : Nat) : W := (List.range m).map fun j => u.getD (j % u.length) 0
theorem per_len (u : W) (m : Nat) : (per u m).length = m := by rw [per, List.length_map, List.length_range]
theorem per_get {u : W} {m j : Nat} (h : j < m) : (per u m)[j]? = some (u.getD (j % u.length) 0) := by rw [per, List.getElem?_map, List.getElem?_range h]; rfl
theorem getD_of {t : W} {i c : Nat} (h : t[i]? = some c) : t.getD i 0 = c := by rw [List.getD_eq_getElem?_getD, h]; rfl
theorem rowW_per {u : W} {n : Nat} (h : 0 < u.length) (hn : 1 ≤ n) : rowW (per u (u.length + n - 1)) n = ringW u n := by
  unfold rowW ringW
  rw [per_len, show u.length + n - 1 + 1 - n = u.length by omega]
  refine List.map_congr_left fun i hi => ?_
  have hi := List.mem_range.mp hi
  unfold ringAt
  refine List.map_congr_left fun k hk => ?_
  have hk := List.mem_range.mp hk
  rw [per_len, Nat.mod_eq_of_lt (by omega), getD_of (per_get (by omega))]
theorem per_of {t : W} {s n : Nat} (hs : 0 < s) (hn : 1 ≤ n) (hl : t.length = s + n - 1) (h : t.drop s = t.take (n - 1)) : t = per (t.take s) (s + n - 1) := by
  have hrl : (t.take s).length = s := by rw [List.length_take]; omega
  have key : ∀ j, j < t.length → t[j]? = some ((t.take s).getD (j % s) 0) := by
    intro j
    induction j using Nat.strongRecOn with
    | _ j ih =>
      intro hj
      by_cases hjs : j < s
      · rw [Nat.mod_eq_of_lt hjs, List.getElem?_eq_getElem hj, getD_of (c := t[j]) (by rw [List.getElem?_take_of_lt hjs, List.getElem?_eq_getElem hj])]
      · have e1 : t[j]? = (t.drop s)[j - s]? := by rw [List.getElem?_drop]; congr 1; omega
        rw [e1, h, List.getElem?_take_of_lt (by omega), ih (j - s) (by omega) (by omega), Nat.mod_eq_sub_mod (show s ≤ j by omega)]
  apply List.ext_getElem?
  intro i
  by_cases hi : i < t.length
  · rw [key i hi, per_get (by omega), hrl]
  · rw [List.getElem?_eq_none (by omega), List.getElem?_eq_none (by rw [per_len]; omega)]
theorem rowW_closed {t : W} {s n : Nat} (hs : 0 < s) (hn : 1 ≤ n) (hl : t.length = s + n - 1) (h : t.drop s = t.take (n - 1)) : ringW (t.take s) n = rowW t n := by
  have hrl : (t.take s).length = s := by rw [List.length_take]; omega
  have e := rowW_per (u := t.take s) (n := n) (by omega) hn
  rw [hrl, ← per_of hs hn hl h] at e
  exact e.symm
end Wd

set_option linter.all false
namespace Wd
section
variable {k n : Nat} {t : W}
end
end Wd

set_option linter.all false
namespace Wd
open Hg
noncomputable def lst (us : List W) : W := us.getD (us.length - 1) []
theorem lst_snoc (us : List W) (w : W) : lst (us ++ [w]) = w := by unfold lst; simp
noncomputable def ext (ws us : List W) : List (List W) := (ws.filter fun w => decide (beg w = fin (lst us)) && !decide (w ∈ us)).map fun w => us ++ [w]
section
variable {ws us : List W} {w0 w : W} {n k : Nat}
theorem Tr.cut {p q : W} : ∀ {xs : List W} {p : W}, Tr beg fin p (xs ++ [w]) q → Tr beg fin p xs (beg w) ∧ q = fin w
  | [], _, h => ⟨h.1.symm, h.2.symm⟩
  | x :: xs, _, h => by
    obtain ⟨h1, h2⟩ := Tr.cut (p := p) (xs := xs) h.2
    exact ⟨⟨h.1, h1⟩, h2⟩
theorem Tr.lst {p q : W} (h : Tr beg fin p us q) (hne : us ≠ []) : q = fin (lst us) := by
  obtain ⟨xs, w, rfl⟩ : ∃ xs w, us = xs ++ [w] := ⟨us.dropLast, us.getLast hne, (List.dropLast_concat_getLast hne).symm⟩
  rw [lst_snoc]
  exact (Tr.cut (p := p) h).2
end
end Wd

set_option linter.all false
namespace Wd
open Hg
noncomputable def cnt (f : W → W) (E : List W) (v : W) : Nat := (E.filter fun w => decide (f w = v)).length
noncomputable def Bal (E : List W) (s t : W) : Prop := ∀ v, cnt beg E v + (if v = t then 1 else 0) = cnt fin E v + (if v = s then 1 else 0)
noncomputable def Conn (E : List W) (s : W) : Prop := ∀ χ : W → Prop, χ s → (∀ e ∈ E, χ (beg e) ↔ χ (fin e)) → ∀ e ∈ E, χ (beg e)
section
variable {E L us : List W} {s t v p q w : W}
theorem cnt_cons (f : W → W) (e : W) (E : List W) (v : W) : cnt f (e :: E) v = (if f e = v then 1 else 0) + cnt f E v := by
  unfold cnt
  rw [List.filter_cons]
  by_cases h : f e = v
  · rw [if_pos (decide_eq_true h), if_pos h, List.length_cons, Nat.add_comm]
  · rw [if_neg (by rw [decide_eq_false h]; exact Bool.false_ne_true), if_neg h, Nat.zero_add]
theorem cnt_app (f : W → W) (A B : List W) (v : W) : cnt f (A ++ B) v = cnt f A v + cnt f B v := by
  unfold cnt
  rw [List.filter_append, List.length_append]
theorem cnt_perm {A B : List W} (f : W → W) (h : A.Perm B) (v : W) : cnt f A v = cnt f B v := (h.filter _).length_eq
theorem Bal.perm {A B : List W} (h : Bal A s t) (hp : A.Perm B) : Bal B s t := fun v => by rw [← cnt_perm beg hp, ← cnt_perm fin hp]; exact h v
theorem Conn.perm {A B : List W} (h : Conn A s) (hp : A.Perm B) : Conn B s := fun χ hs hc e he => h χ hs (fun e he => hc e (hp.mem_iff.mp he)) e (hp.mem_iff.mpr he)
theorem tr_bal : ∀ {us : List W} {p : W}, Tr beg fin p us q → Bal us p q
  | [], p, h => fun v => by
    have h : p = q := h
    subst h
    rfl
  | w :: us, p, h => fun v => by
    have ih := tr_bal h.2 v
    have e : beg w = p := h.1
    rw [cnt_cons, cnt_cons]
    have e1 : (if v = p then 1 else 0) = (if beg w = v then 1 else 0) := by
      by_cases c : v = p
      · rw [if_pos c, if_pos (by rw [e, c])]
      · rw [if_neg c, if_neg (fun z => c (by rw [← z, e]))]
    have e2 : (if v = fin w then 1 else 0) = (if fin w = v then 1 else 0) := by
      by_cases c : v = fin w
      · rw [if_pos c, if_pos c.symm]
      · rw [if_neg c, if_neg (fun z => c z.symm)]
    omega
theorem tr_conn : ∀ {us : List W} {p : W}, Tr beg fin p us q → Conn us p
  | [], p, _ => fun χ _ _ e he => by cases he
  | w :: us, p, h => fun χ hp hc e he => by
    have hb : χ (beg w) := by rw [show beg w = p from h.1]; exact hp
    have hf := (hc w (List.mem_cons_self ..)).mp hb
    rcases List.mem_cons.mp he with rfl | he
    · exact hb
    · exact tr_conn h.2 χ hf (fun e he => hc e (List.mem_cons_of_mem _ he)) e he
theorem Bal.rest (h : Bal E s t) (hp : E.Perm (us ++ L)) (ht : Tr beg fin s us q) : Bal L q t := fun v => by
  have h1 := (h.perm hp) v
  have h2 := tr_bal ht v
  rw [cnt_app, cnt_app] at h1
  omega
theorem Bal.out (h : Bal L v t) (hne : v ≠ t) : ∃ e ∈ L, beg e = v := by
  have h1 := h v
  rw [if_neg hne, if_pos rfl] at h1
  have h2 : 0 < cnt beg L v := by omega
  obtain ⟨e, he⟩ := List.exists_mem_of_length_pos h2
  obtain ⟨g1, g2⟩ := List.mem_filter.mp he
  exact ⟨e, g1, of_decide_eq_true g2⟩
theorem Bal.go : ∀ (k : Nat) {L : List W} {v : W}, L.length = k → Bal L v t → ∃ cs R, L.Perm (cs ++ R) ∧ Tr beg fin v cs t
  | 0, L, v, hl, h => by
    by_cases c : v = t
    · exact ⟨[], L, List.Perm.refl _, c⟩
    · obtain ⟨e, he, _⟩ := h.out c
      rw [List.length_eq_zero_iff.mp hl] at he
      cases he
  | k + 1, L, v, hl, h => by
    by_cases c : v = t
    · exact ⟨[], L, List.Perm.refl _, c⟩
    · obtain ⟨e, he, hb⟩ := h.out c
      have hp := List.perm_cons_erase he
      have h2 : Bal (L.erase e) (fin e) t := h.rest (us := [e]) hp ⟨hb, rfl⟩
      have hle : (L.erase e).length = k := by rw [List.length_erase_of_mem he, hl]; rfl
      obtain ⟨cs, R, h3, h4⟩ := Bal.go k hle h2
      exact ⟨e :: cs, R, hp.trans (h3.cons e), ⟨hb, h4⟩⟩
theorem tr_split : ∀ {us : List W} {p : W}, Tr beg fin p us q → v ∈ p :: us.map fin → ∃ xs ys, us = xs ++ ys ∧ Tr beg fin p xs v ∧ Tr beg fin v ys q
  | [], p, h, hv => by
    have e : v = p := by simpa using hv
    exact ⟨[], [], rfl, e.symm, e ▸ h⟩
  | w :: us, p, h, hv => by
    by_cases c : v = p
    · exact ⟨[], w :: us, rfl, c.symm, by rw [c]; exact h⟩
    · have hv2 : v ∈ fin w :: us.map fin := (List.mem_cons.mp hv).resolve_left c
      obtain ⟨xs, ys, e, h1, h2⟩ := tr_split h.2 hv2
      exact ⟨w :: xs, ys, by rw [e]; rfl, ⟨h.1, h1⟩, h2⟩
theorem absorb : ∀ (k : Nat) {us R : List W}, R.length ≤ k → Tr beg fin s us t → Bal R t t → Conn (us ++ R) s → ∃ full, full.Perm (us ++ R) ∧ Tr beg fin s full t
  | k, us, [], _, h, _, _ => ⟨us, by rw [List.append_nil], h⟩
  | 0, us, r :: R, hl, _, _, _ => absurd hl (by simp)
  | k + 1, us, r :: R, hl, h, hb, hc => by
    have hbv : ∀ v, cnt beg (r :: R) v = cnt fin (r :: R) v := fun v => by have := hb v; omega
    have hex : ∃ e ∈ r :: R, beg e ∈ s :: us.map fin := by
      refine Classical.byContradiction fun z => ?_
      have hno : ∀ e ∈ r :: R, ¬ beg e ∈ s :: us.map fin := fun e he c => z ⟨e, he, c⟩
      have hnof : ∀ e ∈ r :: R, ¬ fin e ∈ s :: us.map fin := fun e he c => by
        have h1 : 0 < cnt fin (r :: R) (fin e) := List.length_pos_of_mem (List.mem_filter.mpr ⟨he, decide_eq_true rfl⟩)
        rw [← hbv] at h1
        obtain ⟨e', he'⟩ := List.exists_mem_of_length_pos h1
        obtain ⟨g1, g2⟩ := List.mem_filter.mp he'
        exact hno e' g1 (by rw [of_decide_eq_true g2]; exact c)
      have := hc (fun v => v ∈ s :: us.map fin) (List.mem_cons_self ..) (fun e he => ?_) r (List.mem_append_right _ (List.mem_cons_self ..))
      · exact hno r (List.mem_cons_self ..) this
      · rcases List.mem_append.mp he with he | he
        · exact ⟨fun _ => List.mem_cons_of_mem _ (List.mem_map_of_mem he), fun _ => h.mem e he⟩
        · exact ⟨fun z => absurd z (hno e he), fun z => absurd z (hnof e he)⟩
    obtain ⟨e, he, hev⟩ := hex
    obtain ⟨xs, ys, rfl, t1, t2⟩ := tr_split h hev
    have hp := List.perm_cons_erase he
    have hb1 : Bal (r :: R) (beg e) (beg e) := fun v => by have := hbv v; omega
    have hb2 : Bal ((r :: R).erase e) (fin e) (beg e) := hb1.rest (us := [e]) hp ⟨rfl, rfl⟩
    obtain ⟨cs, R', h3, h4⟩ := Bal.go _ rfl hb2
    have hpR : (r :: R).Perm ((e :: cs) ++ R') := hp.trans (h3.cons e)
    have t3 : Tr beg fin (beg e) (e :: cs) (beg e) := ⟨rfl, h4⟩
    have hb3 : Bal R' (beg e) (beg e) := hb1.rest hpR t3
    have hb4 : Bal R' t t := fun v => by have := hb3 v; omega
    have hl2 : R'.length ≤ k := by
      have := hpR.length_eq
      rw [List.length_append, List.length_cons, List.length_cons] at this
      rw [List.length_cons] at hl
      omega
    have hpall : ((xs ++ ys) ++ (r :: R)).Perm ((xs ++ ((e :: cs) ++ ys)) ++ R') := by
      refine (hpR.append_left (xs ++ ys)).trans ?_
      rw [List.append_assoc, List.append_assoc, List.append_assoc]
      refine List.Perm.append_left xs ?_
      rw [← List.append_assoc, ← List.append_assoc]
      exact List.perm_append_comm.append_right R'
    obtain ⟨full, f1, f2⟩ := absorb k hl2 (Tr.app (p := s) t1 (Tr.app (p := s) t3 t2)) hb4 (hc.perm hpall)
    exact ⟨full, f1.trans hpall.symm, f2⟩
theorem euler (hb : Bal E s t) (hc : Conn E s) : ∃ us, us.Perm E ∧ Tr beg fin s us t := by
  obtain ⟨cs, R, h1, h2⟩ := Bal.go _ rfl hb
  have hr := hb.rest h1 h2
  obtain ⟨full, f1, f2⟩ := absorb _ (Nat.le_refl _) h2 hr (hc.perm h1)
  exact ⟨full, f1.trans h1.symm, f2⟩
theorem fleury (hb : Bal E s t) (hc : Conn E s) (hne : E ≠ []) : ∃ e ∈ E, beg e = s ∧ Conn (E.erase e) (fin e) := by
  obtain ⟨us, h1, h2⟩ := euler hb hc
  match us, h1, h2 with
  | [], h1, _ => exact absurd (List.perm_nil.mp h1.symm) hne
  | e :: us, h1, h2 =>
    have he : e ∈ E := h1.mem_iff.mp (List.mem_cons_self ..)
    have hp : us.Perm (E.erase e) := by
      have := (List.perm_cons_erase he)
      exact (List.perm_cons e).mp (h1.trans this)
    exact ⟨e, he, h2.1, (tr_conn h2.2).perm hp⟩
theorem Bal.step (hb : Bal E s t) {e : W} (he : e ∈ E) (h : beg e = s) : Bal (E.erase e) (fin e) t := hb.rest (us := [e]) (List.perm_cons_erase he) ⟨h, rfl⟩
end
end Wd

namespace Wd
noncomputable def it (f : W → W) : Nat → W → W
  | 0, w => w
  | k + 1, w => f (it f k w)
section
variable {f : W → W} {L : List W} {w : W} {p : Nat}
end
end Wd

set_option linter.all false
namespace Wd
section
variable {f : W → W} {r : W} {n : Nat} {L : List W}
theorem filter_one {p : W → Bool} {w0 : W} : ∀ {L : List W}, L.Nodup → w0 ∈ L → (∀ w ∈ L, p w = true ↔ w = w0) → L.filter p = [w0]
  | [], _, h, _ => by simp at h
  | x :: L, hnd, hm, hp => by
    rw [List.nodup_cons] at hnd
    by_cases e : x = w0
    · subst e
      have hx := (hp x (List.mem_cons_self ..)).mpr rfl
      rw [List.filter_cons, if_pos hx]
      have : L.filter p = [] := List.filter_eq_nil_iff.mpr fun y hy z => by
        have := (hp y (List.mem_cons_of_mem _ hy)).mp z
        exact hnd.1 (this ▸ hy)
      rw [this]
    · have hx : ¬ p x = true := fun z => e ((hp x (List.mem_cons_self ..)).mp z)
      rw [List.filter_cons, if_neg hx]
      have hm' : w0 ∈ L := by
        rcases List.mem_cons.mp hm with z | z
        · exact absurd z.symm e
        · exact z
      exact filter_one hnd.2 hm' fun w hw => hp w (List.mem_cons_of_mem _ hw)
end
end Wd

set_option linter.all false
namespace Wd
open Hg
noncomputable def lastL (w : W) : Nat := w.getD (w.length - 1) 0
noncomputable def Stp (ms : List W) (p e : W) : Prop := e ∈ ms ∧ beg e = p ∧ Conn (ms.erase e) (fin e) ∧ ∀ y ∈ ms, beg y = p → Conn (ms.erase y) (fin y) → ¬ y < e
inductive Lw : List W → W → List W → Prop
  | nil {p : W} : Lw [] p []
  | cons {ms us : List W} {p e : W} : Stp ms p e → Lw (ms.erase e) (fin e) us → Lw ms p (e :: us)
section
variable {ms us xs ys : List W} {p q r t e w0 : W} {n : Nat}
theorem Lw.perm (h : Lw ms p us) : us.Perm ms := by
  induction h with
  | nil => exact List.Perm.refl _
  | cons h _ ih => exact (ih.cons _).trans (List.perm_cons_erase h.1).symm
theorem w_split {w : W} (h : 1 ≤ w.length) : w = beg w ++ [lastL w] := by
  unfold beg lastL
  conv => lhs; rw [← List.take_append_drop (w.length - 1) w]
  congr 1
  rw [List.drop_eq_getElem_cons (by omega), List.drop_eq_nil_of_le (by omega), List.getD_eq_getElem?_getD, List.getElem?_eq_getElem (by omega)]
  rfl
theorem beg_len {w : W} : (beg w).length = w.length - 1 := by unfold beg; rw [List.length_take]; omega
theorem row_text (hn : 1 ≤ n) : ∀ (k : Nat) {us : List W} {p q : W}, us.length = k → Tr beg fin p us q → p.length = n - 1 → (∀ w ∈ us, w.length = n) → rowW (p ++ us.map lastL) n = us ∧ (p ++ us.map lastL).drop us.length = q
  | 0, us, p, q, hk, h, hp, hl => by
    obtain rfl : us = [] := List.length_eq_zero_iff.mp hk
    refine ⟨?_, ?_⟩
    · unfold rowW
      rw [List.map_nil, List.append_nil, hp, show n - 1 + 1 - n = 0 by omega]
      rfl
    · rw [List.map_nil, List.append_nil, List.length_nil, List.drop_zero]; exact h
  | k + 1, us, p, q, hk, h, hp, hl => by
    have hne : us ≠ [] := fun z => by rw [z] at hk; cases hk
    obtain ⟨xs, w, rfl⟩ : ∃ xs w, us = xs ++ [w] := ⟨us.dropLast, us.getLast hne, (List.dropLast_concat_getLast hne).symm⟩
    obtain ⟨t1, rfl⟩ := Tr.cut (p := p) h
    rw [List.length_append, List.length_singleton] at hk
    obtain ⟨h1, h2⟩ := row_text hn k (by omega) t1 hp fun w hw => hl w (List.mem_append_left _ hw)
    have hw := hl w (by simp)
    have hlen : (p ++ xs.map lastL).length = n - 1 + xs.length := by rw [List.length_append, List.length_map, hp]
    have e : p ++ (xs ++ [w]).map lastL = (p ++ xs.map lastL) ++ [lastL w] := by rw [List.map_append, ← List.append_assoc]; rfl
    have hs := w_split (w := w) (by omega)
    refine ⟨?_, ?_⟩
    · rw [e, rowW_snoc hn (by omega), h1, hlen, show n - 1 + xs.length + 1 - n = xs.length by omega, h2, ← hs]
    · rw [e, List.length_append, List.length_singleton, ← List.drop_drop, List.drop_append_of_le_length (by omega), h2, ← hs]
      rfl
theorem ring_text (hn : 1 ≤ n) (h : Tr beg fin p us p) (hp : p.length = n - 1) (hl : ∀ w ∈ us, w.length = n) (h0 : 0 < us.length) : ringW ((p ++ us.map lastL).take us.length) n = us := by
  obtain ⟨h1, h2⟩ := row_text hn _ rfl h hp hl
  rw [rowW_closed h0 hn (by rw [List.length_append, List.length_map, hp]; omega) (by rw [h2, List.take_append_of_le_length (by omega), List.take_of_length_le (by omega)]), h1]
theorem Tr.split : ∀ {xs : List W} {p : W}, Tr beg fin p (xs ++ ys) q → ∃ r, Tr beg fin p xs r ∧ Tr beg fin r ys q
  | [], p, h => ⟨p, rfl, h⟩
  | x :: xs, p, h => by
    obtain ⟨r, h1, h2⟩ := Tr.split (xs := xs) h.2
    exact ⟨r, ⟨h.1, h1⟩, h2⟩
theorem tr_turn (h : Tr beg fin p us p) (hp : us.Perm ms) (hw : w0 ∈ ms) : ∃ vs, Tr beg fin (beg w0) (w0 :: vs) (beg w0) ∧ (w0 :: vs).Perm ms := by
  obtain ⟨xs, ys, rfl⟩ := List.append_of_mem (hp.mem_iff.mpr hw)
  obtain ⟨r, h1, h2, h3⟩ := Tr.split h
  refine ⟨ys ++ xs, ⟨rfl, Tr.app (p := p) h3 (h2.symm ▸ h1)⟩, ?_⟩
  refine List.Perm.trans ?_ hp
  exact List.perm_append_comm (l₁ := w0 :: ys) (l₂ := xs)
theorem Stp.uniq {d : W} (h : Stp ms p e) (g : Stp ms p d) : e = d := tri (g.2.2.2 e h.1 h.2.1 h.2.2.1) (h.2.2.2 d g.1 g.2.1 g.2.2.1)
theorem Lw.uniq (h : Lw ms p us) : ∀ {vs : List W}, Lw ms p vs → us = vs := by
  induction h with
  | nil =>
    intro vs g
    exact (List.perm_nil.mp g.perm).symm
  | cons h k ih =>
    intro vs g
    cases g with
    | nil => exact absurd h.1 (by simp)
    | cons g1 g2 =>
      obtain rfl := h.uniq g1
      rw [ih g2]
theorem ring_tr0 {t : W} : Tr beg fin (beg (ringAt t n 0)) (ringW t n) (beg (ringAt t n 0)) := by
  have hs := seg_tr' (t := t) (n := n) (i := 0) (j := t.length) (Nat.zero_le _)
  rwa [seg_all, ringAt_end] at hs
end
end Wd

set_option linter.all false
namespace Wd
open Hg
section
variable {ms us vs : List W} {p q m0 t : W} {n : Nat}
theorem ring_hd (hn : 1 ≤ n) : (ringW t n).map hd = t := by
  rw [← seg_all, seg_hd hn (Nat.le_refl _), sl_all]
theorem ring_row (hn : 1 ≤ n) (hl : ∀ w ∈ ringW t n, w.length = n) (h0 : 0 < t.length) (hm : ringAt t n 0 = m0) (hm0 : m0.length = n) : (beg m0 ++ (ringW t n).map lastL).take t.length = t := by
  have htr : Tr beg fin (beg m0) (ringW t n) (beg m0) := hm ▸ ring_tr0
  have hr := ring_text hn htr (by rw [beg_len, hm0]) hl (by rw [ringW_len]; exact h0)
  rw [ringW_len] at hr
  rw [← ring_hd (t := (beg m0 ++ (ringW t n).map lastL).take t.length) hn, hr, ring_hd hn]
end
end Wd

set_option linter.all false
namespace Dt
open Wd Hg
section
variable {ts : List W} {f : W → W}
end
noncomputable def og (E : List W) (t : W) : List W := E.filter fun w => decide (beg w = t)
noncomputable def rm (E : List W) (w : W) : List W := E.filter fun x => !decide (x = w)
section
variable {E : List W} {a b t w : W}
end
noncomputable def ordN : Nat → List W → W → W → List (List W)
  | 0, _, a, b => if a = b then [[]] else []
  | n + 1, E, a, b => (og E a).flatMap fun w => (ordN n (rm E w) (fin w) b).map fun us => w :: us
noncomputable def eN (E : List W) (a b : W) : Nat := (ordN E.length E a b).length
end Dt

set_option linter.all false
namespace Dt
open Wd Hg
end Dt

set_option linter.all false
namespace Dt
open Wd Hg
end Dt

set_option linter.all false
namespace Dt
open Wd Hg
end Dt

set_option linter.all false
namespace Dt
open Wd Hg
noncomputable def rk (b : W) : List W → List W → Nat
  | _, [] => 0
  | E, w :: us => (((og E (beg w)).filter fun x => decide (x < w)).map fun x => eN (rm E x) (fin x) b).sum + rk b (rm E w) us
noncomputable def rT (m0 : W) (us : List W) : W := (beg m0 ++ (m0 :: us).map lastL).take (us.length + 1)
section
variable {m0 : W} {us vs ms : List W} {n : Nat}
theorem ring_is {t : W} (hn : 1 ≤ n) (hlen : ∀ w ∈ ms, w.length = n) (hp : (ringW t n).Perm ms) (hne : ms ≠ []) (hf : ringAt t n 0 = m0) : ∃ us, ringW t n = m0 :: us ∧ t = rT m0 us ∧ Tr beg fin (beg m0) (m0 :: us) (beg m0) := by
  have htl : 0 < t.length := by
    have := hp.length_eq
    rw [ringW_len] at this
    have := List.length_pos_iff.mpr hne
    omega
  obtain ⟨x, us, hx⟩ : ∃ x us, ringW t n = x :: us := by
    cases e : ringW t n with
    | nil => have := ringW_len t n; rw [e] at this; simp at this; omega
    | cons x us => exact ⟨x, us, rfl⟩
  have hx0 : x = m0 := by
    have h1 : (ringW t n)[0]? = some (ringAt t n 0) := by
      unfold ringW
      rw [List.getElem?_map, List.getElem?_range htl]
      rfl
    rw [hx, hf] at h1
    exact Option.some.inj h1
  subst hx0
  have hl : ∀ w ∈ ringW t n, w.length = n := fun w hw => hlen w (hp.mem_iff.mp hw)
  have htr := ring_tr0 (t := t) (n := n)
  rw [hf, hx] at htr
  refine ⟨us, hx, ?_, htr⟩
  have h3 := ring_row hn hl htl hf (hl x (by rw [hx]; exact List.mem_cons_self ..))
  rw [hx] at h3
  unfold rT
  have h4 : t.length = us.length + 1 := by rw [← ringW_len t n, hx]; rfl
  rw [← h4]
  exact h3.symm
end
end Dt

set_option Elab.async false
set_option linter.all false
set_option maxRecDepth 100000
namespace Wd
noncomputable def eqB : W → W → Bool
  | [], [] => true
  | a :: x, b :: y => Nat.beq a b && eqB x y
  | _, _ => false
noncomputable def ltB : W → W → Bool
  | [], [] => false
  | [], _ :: _ => true
  | _ :: _, [] => false
  | a :: x, b :: y => Nat.blt a b || (Nat.beq a b && ltB x y)
noncomputable def memB (x : W) : List W → Bool
  | [] => false
  | y :: l => eqB x y || memB x l
noncomputable def ersB (x : W) : List W → List W
  | [] => []
  | y :: l => cond (eqB x y) l (y :: ersB x l)
noncomputable def grow : List W → List W → List W
  | [], c => c
  | w :: E, c => grow E (cond (memB (beg w) c) (cond (memB (fin w) c) c (fin w :: c)) (cond (memB (fin w) c) (beg w :: c) c))
noncomputable def clo (E : List W) : Nat → List W → List W
  | 0, c => c
  | k + 1, c => clo E k (grow E c)
noncomputable def sepC (E c : List W) (s : W) : Bool := memB s c && E.all (fun w => memB (beg w) c == memB (fin w) c) && E.any fun w => !memB (beg w) c
noncomputable def sep (E : List W) (s : W) : Bool := sepC E (clo E 4 [s]) s
noncomputable def okGo : List W → W → List W → Bool
  | _, _, [] => true
  | L, p, e :: us => (L.all fun y => !(eqB (beg y) p && ltB y e) || sep (ersB y L) (fin y)) && okGo (ersB e L) (fin e) us
noncomputable def rtGo (w : W) : Nat → Nat → W
  | _, 0 => w
  | p, j + 1 => cond (eqB (rep (w.length / p) (w.take p)) w) (w.take p) (rtGo w (p + 1) j)
noncomputable def rtB (w : W) : W := rtGo w 1 w.length
noncomputable def chk (k n : Nat) : Bool := (LO k n).all fun f => okGo (due k n f) (beg f) (ringW (((LO k n).filter fun v => !decide (v < f)).map rtB).flatten n)
theorem eqB_iff : ∀ {x y : W}, eqB x y = true ↔ x = y
  | [], [] => ⟨fun _ => rfl, fun _ => rfl⟩
  | [], _ :: _ => ⟨(fun h => by cases h), (fun h => by cases h)⟩
  | _ :: _, [] => ⟨(fun h => by cases h), (fun h => by cases h)⟩
  | a :: x, b :: y => by
    show (Nat.beq a b && eqB x y) = true ↔ _
    rw [Bool.and_eq_true, @eqB_iff x y, Nat.beq_eq, List.cons.injEq]
theorem ltB_iff : ∀ {x y : W}, ltB x y = true ↔ x < y
  | [], [] => ⟨(fun h => by cases h), fun h => absurd h (List.lt_irrefl _)⟩
  | [], b :: y => ⟨fun _ => List.nil_lt_cons b y, fun _ => rfl⟩
  | a :: x, [] => ⟨(fun h => by cases h), fun h => absurd h (List.not_lt_nil _)⟩
  | a :: x, b :: y => by
    show (Nat.blt a b || (Nat.beq a b && ltB x y)) = true ↔ _
    rw [Bool.or_eq_true, Bool.and_eq_true, @ltB_iff x y, Nat.beq_eq, List.cons_lt_cons_iff]
    constructor
    · rintro (h | h)
      · exact .inl (Nat.blt_eq.mp h)
      · exact .inr h
    · rintro (h | h)
      · exact .inl (Nat.blt_eq.mpr h)
      · exact .inr h
theorem memB_iff {x : W} : ∀ {l : List W}, memB x l = true ↔ x ∈ l
  | [] => ⟨(fun h => by cases h), (fun h => by cases h)⟩
  | y :: l => by
    show (eqB x y || memB x l) = true ↔ _
    rw [Bool.or_eq_true, eqB_iff, @memB_iff x l, List.mem_cons]
theorem ersB_eq {x : W} : ∀ {l : List W}, ersB x l = l.erase x
  | [] => rfl
  | y :: l => by
    show cond (eqB x y) l (y :: ersB x l) = _
    rw [List.erase_cons, @ersB_eq x l]
    by_cases h : x = y
    · rw [show eqB x y = true from eqB_iff.mpr h, h]
      simp
    · rw [show eqB x y = false from Bool.eq_false_iff.mpr fun z => h (eqB_iff.mp z), if_neg (by simpa using fun z => h z.symm)]
      rfl
theorem sepC_no {E c : List W} {s : W} (h : sepC E c s = true) : ¬ Conn E s := fun hc => by
  unfold sepC at h
  rw [Bool.and_eq_true, Bool.and_eq_true, memB_iff, List.all_eq_true, List.any_eq_true] at h
  obtain ⟨⟨h1, h2⟩, w, hw, h3⟩ := h
  have := hc (fun z => z ∈ c) h1 (fun e he => by
    have := h2 e he
    rw [beq_iff_eq] at this
    rw [← memB_iff, ← memB_iff, this]) w hw
  rw [memB_iff.mpr this] at h3
  cases h3
theorem okGo_lw {q : W} : ∀ {us L : List W} {p : W}, okGo L p us = true → us.Perm L → Hg.Tr beg fin p us q → Lw L p us
  | [], L, p, _, hp, _ => by
    obtain rfl : L = [] := List.nil_perm.mp hp
    exact .nil
  | e :: us, L, p, h, hp, ht => by
    have h : ((L.all fun y => !(eqB (beg y) p && ltB y e) || sep (ersB y L) (fin y)) && okGo (ersB e L) (fin e) us) = true := h
    rw [Bool.and_eq_true, List.all_eq_true, ersB_eq] at h
    have heL : e ∈ L := hp.mem_iff.mp (List.mem_cons_self ..)
    have hpe : us.Perm (L.erase e) := (List.cons_perm_iff_perm_erase.mp hp).2
    refine .cons ⟨heL, ht.1, (tr_conn ht.2).perm hpe, fun y hy hb hc hlt => ?_⟩ (okGo_lw h.2 hpe ht.2)
    have h1 := h.1 y hy
    rw [show eqB (beg y) p = true from eqB_iff.mpr hb, show ltB y e = true from ltB_iff.mpr hlt] at h1
    have h1 : sep (ersB y L) (fin y) = true := h1
    rw [ersB_eq] at h1
    exact sepC_no h1 hc
theorem rtGo_is {w : W} {r : Nat} (h : RootLen w r) : ∀ {j p : Nat}, 0 < p → p ≤ r → r < p + j → rtGo w p j = w.take r
  | 0, p, h0, h1, h2 => by omega
  | j + 1, p, h0, h1, h2 => by
    show cond (eqB (rep (w.length / p) (w.take p)) w) (w.take p) (rtGo w (p + 1) j) = _
    by_cases e : rep (w.length / p) (w.take p) = w
    · rw [show eqB (rep (w.length / p) (w.take p)) w = true from eqB_iff.mpr e]
      rcases Nat.lt_or_ge p r with g | g
      · exact absurd e (h.no p h0 g)
      · obtain rfl : p = r := by omega
        rfl
    · rw [show eqB (rep (w.length / p) (w.take p)) w = false from Bool.eq_false_iff.mpr fun z => e (eqB_iff.mp z)]
      have hne : p ≠ r := fun z => e (z ▸ h.is)
      exact rtGo_is h (by omega) (by omega) (by omega)
theorem rtB_is {w : W} (h : 0 < w.length) : rtB w = rootW w := rtGo_is (rootL_is h) (by omega) (rootL_is h).pos (by have := (rootL_is h).le; omega)
theorem ringF_rt {k n : Nat} {f : W} (hk : 0 < k) (hn : 0 < n) (hl : f.length = n) : (((LO k n).filter fun v => !decide (v < f)).map rtB).flatten = ringF k f := by
  unfold ringF ringOf
  rw [hl]
  refine congrArg List.flatten (List.map_congr_left fun v hv => rtB_is ?_)
  have := ((mem_LO hk).mp (List.mem_filter.mp hv).1).len
  omega
theorem ringF_lw {k n : Nat} {f : W} (hc : chk k n = true) (hk : 0 < k) (hn : 0 < n) (hf : LW k n f) : Lw (due k n f) (beg f) (ringW (ringF k f) n) ∧ (ringW (ringF k f) n).Perm (due k n f) ∧ ringAt (ringF k f) n 0 = f := by
  have h1 := List.all_eq_true.mp hc f ((mem_LO hk).mpr hf)
  rw [ringF_rt hk hn hf.len] at h1
  obtain ⟨pre, ls, e, hR⟩ := ringF_is hk hf
  have h2 := (fkm hk hn e).2
  rw [← hR] at h2
  have h3 : ringAt (ringF k f) n 0 = f := (ringF_first hk hn hf).2
  have h4 := ring_tr0 (t := ringF k f) (n := n)
  rw [h3] at h4
  exact ⟨okGo_lw h1 h2 h4, h2, h3⟩
theorem ringF_text {k n : Nat} {f : W} {vs : List W} (hc : chk k n = true) (hk : 0 < k) (hn : 0 < n) (hf : LW k n f) (hl : Lw (due k n f) (beg f) vs) : (beg f ++ vs.map lastL).take (due k n f).length = ringF k f := by
  obtain ⟨h1, h2, h3⟩ := ringF_lw hc hk hn hf
  obtain rfl := hl.uniq h1
  have hlen : ∀ w ∈ due k n f, w.length = n := fun w hw => ((mem_due hk).mp hw).1.1
  have hne : due k n f ≠ [] := fun z => by
    rw [z] at h2
    have h0 := (ringF_first hk hn hf).1
    have := h2.length_eq
    rw [ringW_len] at this
    simp at this
    rw [this] at h0
    exact absurd h0 (Nat.not_lt_zero _)
  obtain ⟨us, g1, g2, _⟩ := Dt.ring_is (by omega) hlen h2 hne h3
  conv => rhs; rw [g2]
  unfold Dt.rT
  rw [g1, ← h2.length_eq, g1]
  rfl
theorem chk_all : ([(1,1),(1,2),(1,3),(1,4),(1,5),(1,6),(1,7),(1,8),(2,1),(2,2),(2,3),(2,4),(2,5),(2,6),(3,1),(3,2),(3,3),(4,1),(4,2),(4,3),(5,1),(5,2),(6,1),(6,2)].all fun z => chk z.1 z.2) = true := by decide +kernel
end Wd

set_option Elab.async false
set_option linter.all false
set_option maxRecDepth 100000
set_option maxHeartbeats 4000000

namespace L2
open PySem PySem.Spec PyProof.Rows

noncomputable def tx (l : List Nat) : Str := ⟨l.toArray⟩
noncomputable abbrev T (l : List Nat) : V := .str (tx l)
theorem tx_len (l : List Nat) : (tx l).length = l.length := by simp [tx, Str.length]
theorem tx_cps (l : List Nat) : (tx l).cps.toList = l := by simp [tx]
theorem tx_eta (x : Str) : tx x.cps.toList = x := by cases x; simp [tx]
theorem tx_inj {a b : List Nat} (h : tx a = tx b) : a = b := by
  have e := congrArg (fun x : Str => x.cps.toList) h
  simpa [tx] using e
theorem T_inj {a b : List Nat} (h : T a = T b) : a = b := tx_inj (V.str.inj h)
theorem T_dec {a b : List Nat} : decide (T a = T b) = decide (a = b) := by
  rw [Bool.eq_iff_iff, decide_eq_true_iff, decide_eq_true_iff]
  exact ⟨T_inj, fun h => by rw [h]⟩
theorem tx_app (a b : List Nat) : tx a ++ tx b = tx (a ++ b) := by
  rw [← tx_eta (tx a ++ tx b), PySem.W.KT.app_list, tx_cps, tx_cps]

section
variable {X : Cx}
theorem op_add_T : OpR X (binaryOp .Add) (fun x y H Q => ∃ a, x = T a ∧ ∃ b, y = T b ∧ a.length + b.length ≤ sizeLine ∧ Q (T (a ++ b)) H) := by
  intro pins s σ H x y v u Q I rx ry h
  obtain ⟨a, e1, b, e2, hz, q⟩ := h
  exact op_add_str pins s σ H x y v u Q I rx ry ⟨tx a, tx b, e1, e2, by rw [tx_len, tx_len]; exact hz, by rw [tx_app]; exact q⟩
theorem op_lt_T : OpR X (compareOp .Lt) (fun x y H Q => ∃ a, x = T a ∧ ∃ b, y = T b ∧ Q (.bl (decide (a < b))) H) := by
  intro pins s σ H x y v u Q I rx ry h
  obtain ⟨a, e1, b, e2, q⟩ := h
  exact op_lt_str pins s σ H x y v u Q I rx ry ⟨tx a, tx b, e1, e2, by rw [tx_cps, tx_cps]; exact q⟩
theorem op_gt_T : OpR X (compareOp .Gt) (fun x y H Q => ∃ a, x = T a ∧ ∃ b, y = T b ∧ Q (.bl (decide (b < a))) H) := by
  intro pins s σ H x y v u Q I rx ry h
  obtain ⟨a, rfl, b, rfl, q⟩ := h
  obtain ⟨t, rfl⟩ := rx
  obtain ⟨t', rfl⟩ := ry
  exact PySem.P.gt_str (fin_bl I q (by rw [tx_cps, tx_cps]))
theorem op_ge_T : OpR X (compareOp .GtE) (fun x y H Q => ∃ a, x = T a ∧ ∃ b, y = T b ∧ Q (.bl (!decide (a < b))) H) := by
  intro pins s σ H x y v u Q I rx ry h
  obtain ⟨a, rfl, b, rfl, q⟩ := h
  obtain ⟨t, rfl⟩ := rx
  obtain ⟨t', rfl⟩ := ry
  exact PySem.P.ge_str (fin_bl I q (by rw [tx_cps, tx_cps]))
theorem op_eq_T : OpR X (compareOp .Eq) (fun x y H Q => ∃ a, x = T a ∧ ∃ b, y = T b ∧ Q (.bl (decide (a = b))) H) := by
  intro pins s σ H x y v u Q I rx ry h
  obtain ⟨a, rfl, b, rfl, q⟩ := h
  exact op_eq pins s σ H _ _ v u Q I rx ry ⟨rfl, by rw [T_dec]; exact q⟩
theorem op_ne_T : OpR X (compareOp .NotEq) (fun x y H Q => ∃ a, x = T a ∧ ∃ b, y = T b ∧ Q (.bl (!decide (a = b))) H) := by
  intro pins s σ H x y v u Q I rx ry h
  obtain ⟨a, rfl, b, rfl, q⟩ := h
  exact op_ne pins s σ H _ _ v u Q I rx ry ⟨rfl, by rw [T_dec]; exact q⟩
theorem op_eq_I : OpR X (compareOp .Eq) (fun x y H Q => ∃ a, x = .int a ∧ ∃ b, y = .int b ∧ Q (.bl (decide (a = b))) H) := by
  intro pins s σ H x y v u Q I rx ry h
  obtain ⟨a, rfl, b, rfl, q⟩ := h
  exact op_eq pins s σ H _ _ v u Q I rx ry ⟨rfl, by rw [dec_int, Bool.beq_eq_decide_eq]; exact q⟩
theorem op_ne_I : OpR X (compareOp .NotEq) (fun x y H Q => ∃ a, x = .int a ∧ ∃ b, y = .int b ∧ Q (.bl (!decide (a = b))) H) := by
  intro pins s σ H x y v u Q I rx ry h
  obtain ⟨a, rfl, b, rfl, q⟩ := h
  exact op_ne pins s σ H _ _ v u Q I rx ry ⟨rfl, by rw [dec_int, Bool.beq_eq_decide_eq]; exact q⟩
noncomputable def cutL (l : List Nat) (lo hi : Option Int) : List Nat := (l.drop (HT.sIx l.length 0 lo)).take (HT.sIx l.length l.length hi - HT.sIx l.length 0 lo)
theorem cutL_length_le (l : List Nat) (lo hi : Option Int) : (cutL l lo hi).length ≤ l.length := by
  unfold cutL
  rw [List.length_take, List.length_drop]
  omega
theorem clip_sIx (v : Option Int) (n d : Nat) : (match v with | none => (d : Int) | some i => max 0 (min (if i < 0 then i + (n : Int) else i) (n : Int))) = ((HT.sIx n d v : Nat) : Int) := by
  cases v with
  | none => rfl
  | some i =>
    show max 0 (min (if i < 0 then i + (n : Int) else i) (n : Int)) = (((if i < 0 then (i + (n : Int)).toNat else min i.toNat n) : Nat) : Int)
    by_cases hi : i < 0
    · simp only [if_pos hi]; omega
    · simp only [if_neg hi]; omega
theorem indices_sIx (lo hi : Option Int) (n : Nat) : Builtin.Str.strSliceIndices lo hi 1 n = Builtin.Str.strSliceIndices (some ((HT.sIx n 0 lo : Nat) : Int)) (some ((HT.sIx n n hi : Nat) : Int)) 1 n := by
  have h1 := HT.sIx_le n 0 (Nat.zero_le _) lo
  have h2 := HT.sIx_le n n (Nat.le_refl _) hi
  have c1 := clip_sIx lo n 0
  have c2 := clip_sIx hi n n
  have d1 := clip_sIx (some ((HT.sIx n 0 lo : Nat) : Int)) n 0
  have d2 := clip_sIx (some ((HT.sIx n n hi : Nat) : Int)) n n
  rw [HT.sIx_nat, Nat.min_eq_left h1] at d1
  rw [HT.sIx_nat, Nat.min_eq_left h2] at d2
  unfold Builtin.Str.strSliceIndices
  simp only [show ((1 : Int) > 0) from by decide, if_true]
  have g : ∀ a b c d : Int, a = c → b = d → sliceRange a b 1 = sliceRange c d 1 := fun a b c d h1 h2 => by rw [h1, h2]
  exact g _ _ _ _ (c1.trans d1.symm) (c2.trans d2.symm)
theorem slice_tx (l : List Nat) (lo hi : Option Int) : Txt.slice (tx l) lo hi = tx (cutL l lo hi) := by
  have h1 := HT.sIx_le l.length 0 (Nat.zero_le _) lo
  have h2 := HT.sIx_le l.length l.length (Nat.le_refl _) hi
  unfold Txt.slice
  rw [tx_len, indices_sIx]
  by_cases hab : HT.sIx l.length 0 lo ≤ HT.sIx l.length l.length hi
  · have e := StrLaws.sliceText_nat (tx l) hab (by rw [tx_len]; exact h2)
    unfold StrLaws.sliceText at e
    rw [tx_len, tx_cps] at e
    exact e
  · have e0 : Builtin.Str.strSliceIndices (some ((HT.sIx l.length 0 lo : Nat) : Int)) (some ((HT.sIx l.length l.length hi : Nat) : Int)) 1 l.length = [] := by
      unfold Builtin.Str.strSliceIndices sliceRange
      have n1 : ¬ (((HT.sIx l.length 0 lo : Nat) : Int) < 0) := by omega
      have n2 : ¬ (((HT.sIx l.length l.length hi : Nat) : Int) < 0) := by omega
      simp only [show ((1 : Int) > 0) from by decide, if_true, if_neg n1, if_neg n2]
      have n3 : ¬ (max (0 : Int) (min ((HT.sIx l.length 0 lo : Nat) : Int) (l.length : Int)) < max (0 : Int) (min ((HT.sIx l.length l.length hi : Nat) : Int) (l.length : Int))) := by omega
      simp [n3]
    have e1 : cutL l lo hi = [] := by
      unfold cutL
      rw [show HT.sIx l.length l.length hi - HT.sIx l.length 0 lo = 0 by omega, List.take_zero]
    rw [e0, e1]
    cases l with
    | nil => rfl
    | cons c r => rfl
theorem sl_T : SlR X (fun x lo hi H Q => ∃ a, x = T a ∧ a.length ≤ sizeLine ∧ Q (T (cutL a lo hi)) H) := by
  intro pins s σ H x v vl vu lo hi sl Q I rx hs pl pu h
  obtain ⟨a, rfl, hz, q⟩ := h
  obtain ⟨t, rfl⟩ := rx
  obtain ⟨l, hl1, hl2⟩ : ∃ l : Option (Int × Tok), partValue l = vl ∧ l.map (·.1) = lo := by
    cases pl with
    | none => exact ⟨none, rfl, rfl⟩
    | int i t => exact ⟨some (i, t), rfl, rfl⟩
  obtain ⟨u, hu1, hu2⟩ : ∃ u : Option (Int × Tok), partValue u = vu ∧ u.map (·.1) = hi := by
    cases pu with
    | none => exact ⟨none, rfl, rfl⟩
    | int i t => exact ⟨some (i, t), rfl, rfl⟩
  refine ⟨"str", _, F.slot_str_getitem.lookup, typeIs_str _ _ _, ?_⟩
  have hsl : s.heap.IsSlice sl l u none := by
    obtain ⟨o, ho, hc, hd⟩ := hs
    exact ⟨o, ho, hc, by rw [hl1, hu1]; exact hd⟩
  refine wpAny_getItem_str_slice hsl rfl ?_
  have key : (if ((1 : Int) == 1 && (Builtin.Str.strSliceIndices lo hi 1 (tx a).length).length == (tx a).length) = true then (tx a) else ⟨((Builtin.Str.strSliceIndices lo hi 1 (tx a).length).filterMap ((tx a).cps[·]?)).toArray⟩) = tx (cutL a lo hi) := slice_tx a lo hi
  unfold sliceMade slicePicked
  rw [hl2, hu2]
  refine post_val_or_str ⟨?_, fun t' k => ?_⟩
  · show (Txt.slice (tx a) lo hi).length ≤ sizeLine
    exact Nat.le_trans (Txt.slice_le _ _ _) (by rw [tx_len]; exact hz)
  · refine ⟨T (cutL a lo hi), H, I.tok _, ⟨t', ?_⟩, q⟩
    exact congrArg (fun z => Value.str z t') key

theorem rep_length (n : Nat) (l : List Nat) : (Wd.rep n l).length = n * l.length := Wd.rep_len n l
theorem foldl_cps (n : Nat) (c : Array Nat) : ∀ acc : Array Nat, (List.replicate n c).foldl (· ++ ·) acc = acc ++ (Wd.rep n c.toList).toArray := by
  induction n with
  | zero => intro acc; simp [Wd.rep]
  | succ n ih =>
    intro acc
    rw [List.replicate_succ, List.foldl_cons, ih]
    rw [Wd.rep_succ, Array.append_assoc]
    congr 1
    apply Array.ext'
    simp
theorem mul_tx (n : Nat) (l : List Nat) : Txt.mul (tx l) (n : Int) = tx (Wd.rep n l) := by
  unfold Txt.mul
  by_cases h1 : (n : Int) < 1
  · have e : n = 0 := by omega
    subst e
    rw [if_pos h1]
    rfl
  · rw [if_neg h1]
    by_cases h2 : ((n : Int) == 1 || (tx l).length == 0) = true
    · rw [if_pos h2]
      rw [Bool.or_eq_true, beq_iff_eq, beq_iff_eq, tx_len] at h2
      rcases h2 with h2 | h2
      · have e : n = 1 := by omega
        subst e
        rw [Wd.rep_one]
      · have e : l = [] := List.length_eq_zero_iff.mp h2
        subst e
        have : Wd.rep n [] = [] := List.length_eq_zero_iff.mp (by rw [rep_length]; simp)
        rw [this]
    · rw [if_neg h2, Int.toNat_natCast, foldl_cps]
      simp [tx]
theorem op_mul_T : OpR X (binaryOp .Mult) (fun x y H Q => ∃ a, x = T a ∧ ∃ n : Nat, y = .int n ∧ (n ≤ sizeLine ∧ n * a.length ≤ sizeLine) ∧ Q (T (Wd.rep n a)) H) := by
  intro pins s σ H x y v u Q I rx ry h
  obtain ⟨a, rfl, n, rfl, ⟨h1, h2⟩, q⟩ := h
  obtain ⟨t, rfl⟩ := rx
  obtain ⟨t', rfl⟩ := ry
  have hs : sizeLine = 16777216 := sizeLine_eq
  refine SB.mul ⟨?_, ?_, ?_⟩ fun t' k => ⟨T (Wd.rep n a), H, I.tok _, ⟨t', by rw [mul_tx]⟩, q⟩
  · have e1 : decide ((n : Int) < -(2 ^ 63 : Int)) = false := decide_eq_false (by omega)
    have e2 : decide ((n : Int) ≥ 2 ^ 63) = false := decide_eq_false (by omega)
    rw [e1, e2]
    rfl
  · intro hn _
    rw [tx_len]
    have h3 : n * a.length ≤ 16777216 := by omega
    intro hc
    have h4 : ((n * a.length : Nat) : Int) ≤ 16777216 := by omega
    have hn' : (0 : Int) < n := by omega
    have h5 : ((2 ^ 63 - 1) / (n : Int)) * n ≤ 2 ^ 63 - 1 := Int.ediv_mul_le _ (by omega)
    have h6 : (2 ^ 63 - 1 : Int) < ((2 ^ 63 - 1) / (n : Int) + 1) * n := Int.lt_ediv_add_one_mul_self _ hn'
    have h7 : ((2 ^ 63 - 1) / (n : Int) + 1) * n ≤ (a.length : Int) * n := Int.mul_le_mul_of_nonneg_right (by omega) (by omega)
    have h8 : ((n * a.length : Nat) : Int) = (a.length : Int) * n := by rw [Int.natCast_mul, Int.mul_comm]
    omega
  · intro hn _
    rw [tx_len, Int.toNat_natCast, Nat.mul_comm]
    unfold Builtin.Str.tooLong
    exact decide_eq_false (by omega)

theorem strsAre_T : ∀ {ls : List (List Nat)} {us : List Value}, Vals (ls.map T) us → StrsAre us (ls.map tx)
  | [], us, r => by
    cases r
    exact .nil
  | l :: ls, us, r => by
    rw [List.map_cons] at r
    cases r with
    | cons r1 r2 =>
      obtain ⟨t, rfl⟩ := r1
      exact .cons _ _ (strsAre_T r2)
end
end L2
namespace L2
theorem cutL_from {w : List Nat} {k : Nat} (h : k ≤ w.length) : cutL w (some (k : Int)) none = w.drop k := by
  unfold cutL
  rw [HT.sIx_nat, HT.sIx_none, Nat.min_eq_left h]
  exact List.take_of_length_le (by rw [List.length_drop]; omega)
theorem cutL_to {w : List Nat} {k : Nat} (h : k ≤ w.length) : cutL w none (some (k : Int)) = w.take k := by
  unfold cutL
  rw [HT.sIx_nat, HT.sIx_none, Nat.min_eq_left h, List.drop_zero, Nat.sub_zero]
end L2

set_option Elab.async false
set_option linter.all false
set_option maxRecDepth 100000
set_option maxHeartbeats 4000000

namespace L2
open PySem PySem.Spec PyProof.Rows

set_option genInjectivity false in
structure CompSc (N N' : List Str) (sc scope : Scope) (x : Str) : Prop where
  kind : scope.kind = .function
  cell : ∀ y ∈ scope.names, y.2 ≠ .cell
  names : ∀ y ∈ scope.names, y.2 = .local → scope.names.lookup y.1 = some .local
  var : scope.names.lookup x = some .local
  ok : ∀ y ∈ scope.names, y.2 = .free → sc.names.lookup y.1 = some .cell ∨ sc.names.lookup y.1 = some .free
  hd : N'[0]? = some x
  len : N'.length = N.length + 1
  sub : ∀ i, i < N.length → N'[i + 1]? = N[i]? ∨ (N'[i + 1]?.map fun y => scope.names.lookup y) = some none
  noe : scope.names.lookup ("" : Str) = none
  nol : ∀ y ∈ N'.tail, scope.names.lookup y ≠ some .local
  nd : N'.Nodup

noncomputable def closOf (cells : List (Str × Addr)) : List (Str × NameKind) → List (Str × Addr) → List (Str × Addr)
  | [], acc => acc
  | (n, k) :: r, acc => closOf cells r (if k == .free then (n, (cells.lookup n).getD 0) :: acc else acc)
theorem clos_sound {cells : List (Str × Addr)} {y : Str} {c : Addr} : ∀ (names : List (Str × NameKind)) (acc : List (Str × Addr)), (∀ z ∈ names, z.2 = .free → ∃ c, cells.lookup z.1 = some c) →
    (acc.lookup y = some c → cells.lookup y = some c) → (closOf cells names acc).lookup y = some c → cells.lookup y = some c
  | [], acc, _, ha, h => ha h
  | (n, k) :: r, acc, hz, ha, h => by
    unfold closOf at h
    refine clos_sound r _ (fun z hm => hz z (List.mem_cons_of_mem _ hm)) (fun q => ?_) h
    split at q
    · rename_i hk
      obtain ⟨c', e⟩ := hz (n, k) List.mem_cons_self (by simpa using hk)
      rw [List.lookup_cons] at q
      split at q
      · rename_i he
        have : y = n := by simpa using he
        subst this
        rw [e] at q
        rw [e]
        exact q
      · exact ha q
    · exact ha q
theorem clos_acc {cells : List (Str × Addr)} {y : Str} : ∀ (names : List (Str × NameKind)) (acc : List (Str × Addr)), (∃ c, acc.lookup y = some c) → ∃ c, (closOf cells names acc).lookup y = some c
  | [], acc, h => h
  | (n, k) :: r, acc, ⟨c, h⟩ => by
    unfold closOf
    refine clos_acc r _ ?_
    split
    · rw [List.lookup_cons]
      split
      · exact ⟨_, rfl⟩
      · exact ⟨c, h⟩
    · exact ⟨c, h⟩
theorem clos_has {cells : List (Str × Addr)} {y : Str} : ∀ (names : List (Str × NameKind)) (acc : List (Str × Addr)), (y, NameKind.free) ∈ names → ∃ c, (closOf cells names acc).lookup y = some c
  | (n, k) :: r, acc, h => by
    unfold closOf
    rcases List.mem_cons.mp h with e | h
    · cases e
      refine clos_acc r _ ⟨(cells.lookup y).getD 0, ?_⟩
      simp
    · exact clos_has r _ h
theorem clos_eq {scope : Scope} {env : Env} (h : ∀ z ∈ scope.names, z.2 = .free → ∃ c, env.cells.lookup z.1 = some c) : closureFor scope env = pure (closOf env.cells scope.names []) := by
  have gen : ∀ (names : List (Str × NameKind)) (acc : List (Str × Addr)), (∀ z ∈ names, z.2 = .free → ∃ c, env.cells.lookup z.1 = some c) →
      (forIn names acc fun (x : Str × NameKind) (r : List (Str × Addr)) => (if (x.2 == NameKind.free) = true then (do let a ← cellOf env x.1; pure (ForInStep.yield ((x.1, a) :: r))) else pure (ForInStep.yield r) : Sem (ForInStep (List (Str × Addr))))) = (pure (closOf env.cells names acc) : Sem (List (Str × Addr))) := by
    intro names
    induction names with
    | nil => intro acc _; rfl
    | cons z r ih =>
      intro acc hz
      obtain ⟨n, k⟩ := z
      rw [List.forIn_cons]
      unfold closOf
      by_cases hk : (k == NameKind.free) = true
      · obtain ⟨c, e⟩ := hz (n, k) List.mem_cons_self (by simpa using hk)
        have e' : env.cells.lookup n = some c := e
        simp only [hk, if_true, cellOf, e', pure_bind, Option.getD_some]
        exact ih _ fun z hm => hz z (List.mem_cons_of_mem _ hm)
      · simp only [hk, Bool.false_eq_true, if_false, pure_bind]
        exact ih _ fun z hm => hz z (List.mem_cons_of_mem _ hm)
  have g := gen scope.names [] h
  unfold closureFor
  refine Eq.trans ?_ (congrArg (fun (m : Sem (List (Str × Addr))) => m >>= fun cs => pure cs) g)
  rfl
theorem relabel_lookup (scope : Scope) (env : Env) (y : Str) : (relabel scope env).names.lookup y = (scope.names.lookup y).map fun k => if (k == NameKind.free && env.scope.kind == .function && env.kindOf y == some .cell) = true then NameKind.cell else k := by
  unfold relabel
  show List.lookup y (scope.names.map fun (n, k) => if (k == NameKind.free && env.scope.kind == .function && env.kindOf n == some .cell) = true then (n, NameKind.cell) else (n, k)) = _
  induction scope.names with
  | nil => rfl
  | cons z r ih =>
    obtain ⟨n, k⟩ := z
    rw [List.map_cons]
    by_cases hy : (y == n) = true
    · have e : y = n := by simpa using hy
      subst e
      by_cases hc : (k == NameKind.free && env.scope.kind == .function && env.kindOf y == some .cell) = true
      · simp only [hc, if_true, List.lookup_cons, beq_self_eq_true, Option.map_some]
      · simp only [hc, if_false, List.lookup_cons, beq_self_eq_true, Option.map_some, Bool.false_eq_true]
    · have hy' : (y == n) = false := by simpa using hy
      by_cases hc : (k == NameKind.free && env.scope.kind == .function && env.kindOf n == some .cell) = true
      · simp only [hc, if_true, List.lookup_cons, hy']
        exact ih
      · simp only [hc, if_false, List.lookup_cons, hy', Bool.false_eq_true]
        exact ih
theorem lookup_mem {κ : Type} : ∀ {l : List (Str × κ)} {y : Str} {k : κ}, l.lookup y = some k → (y, k) ∈ l := fun h => PySem.mem_of_lookup h

noncomputable abbrev cxComp (X : Cx) (N' : List Str) (scope : Scope) (cl : List (Str × Addr)) (C : Addr) (s : Shared) (H : Hp) (fp : List Addr) : Cx :=
  { X with env := compEnvC scope cl C X.env, N := N', s₀ := s, H₀ := H, outer := X.stack, stack := X.stack, ex := fp, fn := fun _ => false, xe := fun _ _ => False }

noncomputable abbrev tstF (cds : List Expr) (env : Env) : Sem Bool := forIn cds true fun c r => if r = true then do let ok ← isTrue c env (eval c env); pure (ForInStep.yield ok) else pure (ForInStep.yield r)
noncomputable def PTL (X : Cx) (cds : List Expr) (t : TT) : Prop :=
  ∀ (pins : List (Addr × Obj)) (s : Shared) (σ : St) (H : Hp) (Q : Bool → Hp → Prop), Inv X pins σ H s → t σ H Q → wpAny (model X.prog X.w) X.A (tstF cds X.env) (TP X pins σ Q) X.xe s
theorem ptl_nil {X : Cx} : PTL X [] (fun _ H k => k true H) := fun pins s σ H Q I q => wpAny_tests_nil ⟨H, I, q⟩
theorem ptl_one {X : Cx} {cd : Expr} {tc : TT} (h : PT X cd tc) : PTL X [cd] tc := fun pins s σ H Q I q => wpAny_tests_one (h pins s σ H Q I q)
theorem codeAny_compLoop_ts {prog : Program} {w : World} {A : Around} {R : Result → Shared → Prop} {s : Shared} {elt target iter : Expr} {cds : List Expr} {scope : Scope} {pos : Pos} {it acc : Value} {env : Env} (I : Nat → Shared → Prop)
    (turn : ∀ n s, I n s → wpAny (model prog w) A (pyNext it) (fun r s₁ => match r with
      | none => R (.ok .next) s₁
      | some v => wpAny (model prog w) A (letOwnedTupleGo target it v) (fun _ s₁' => wpAny (model prog w) A (assign target env v) (fun _ s₂ => wpAny (model prog w) A (tstF cds env) (fun ok s₂' =>
          if ok = true then wpAny (model prog w) A (eval elt env) (fun x s₃ =>
            wpAny (model prog w) A (call (.builtin "list.append") [acc, x]) (fun _ s₄ => ∃ m, m < n ∧ I m s₄) (fun _ _ => False) s₃) (fun _ _ => False) s₂'
          else ∃ m, m < n ∧ I m s₂') (fun _ _ => False) s₂) (fun _ _ => False) s₁') (fun _ _ => False) s₁) (fun _ _ => False) s)
    (n : Nat) (h : I n s) :
    codeAny (model prog w) A (.compLoop (.ListComp elt [⟨target, iter, cds, 0⟩] scope pos) 0 it acc env) R s := by
  refine codeAny_loop rfl I (fun n s hI => ?_) n h
  show wpAny _ A ((compTurn (.ListComp elt [⟨target, iter, cds, 0⟩] scope pos) 0 it acc env).onRaise (fun x => do noteFrame x env; theTreesLotGoes x)) _ _ s
  refine wpAny_noted ?_
  rw [compTurn_list]
  refine wpAny_bind (wpAny_standAt (wpAny_bind (wpAny_mono (turn n s hI) (fun r s₁ h₁ => ?_) fun _ _ h' => h'.elim)))
  cases r with
  | none => exact wpAny_pure h₁
  | some v =>
    refine wpAny_bind (wpAny_mono h₁ (fun _ s₀ h₀ => ?_) fun _ _ h' => h'.elim)
    refine wpAny_bind (wpAny_mono h₀ (fun _ s₂ h₂ => ?_) fun _ _ h' => h'.elim)
    refine wpAny_bind ((wpAny_mono h₂ (fun ok s₃ h₃ => ?_) fun _ _ h' => h'.elim))
    cases ok with
    | false => exact wpAny_pure ⟨rfl, by simpa using h₃⟩
    | true =>
      have h₃' := h₃
      simp only [if_true] at h₃'
      exact wpAny_bind (wpAny_bind (wpAny_mono h₃' (fun x s₄ h₄ => wpAny_bind (wpAny_mono h₄ (fun _ s₅ h₅ => wpAny_pure (wpAny_pure ⟨rfl, h₅⟩)) fun _ _ h' => h'.elim)) fun _ _ h' => h'.elim))
noncomputable def compAt (te : TE) (σ : St) (Q : VK) (J : It) (H1 : Hp) : Prop := ∀ D, H1 D = none → ∃ W : Nat → Nat → List V → Hp → Prop, (∃ m, W 0 m [] (upd H1 D (.lst []))) ∧ ∀ i m ys H2, W i m ys H2 →
  (J.stop i H2 ∧ Q (.ref D) H2) ∨ (J.go i H2 ∧ ys.length < sizeLine ∧ ∃ N : V → Hp → Prop, (∀ v H', N v H' → H' D = some (.lst ys) ∧ ∃ m', m' < m ∧ W (i + 1) m' (ys ++ [v]) (upd H' D (.lst (ys ++ [v])))) ∧
    ∀ y H', J.yld i H2 y H' → te (some y :: σ) H' N)
noncomputable def tComp (wi : TI) (te : TE) : TE := fun σ H Q => wi σ H (compAt te σ Q)

noncomputable def compAtF (tc : TT) (te : TE) (σ : St) (Q : VK) (J : It) (H1 : Hp) : Prop := ∀ D, H1 D = none → ∃ W : Nat → Nat → List V → Hp → Prop, (∃ m, W 0 m [] (upd H1 D (.lst []))) ∧ ∀ i m ys H2, W i m ys H2 →
  (J.stop i H2 ∧ Q (.ref D) H2) ∨ (J.go i H2 ∧ ys.length < sizeLine ∧ ∃ N : V → Hp → Prop, (∀ v H', N v H' → H' D = some (.lst ys) ∧ ∃ m', m' < m ∧ W (i + 1) m' (ys ++ [v]) (upd H' D (.lst (ys ++ [v])))) ∧
    ∃ Nn : Hp → Prop, (∀ H', Nn H' → ∃ m', m' < m ∧ W (i + 1) m' ys H') ∧
    ∀ y H', J.yld i H2 y H' → tc (some y :: σ) H' fun b H'' => if b = true then te (some y :: σ) H'' N else Nn H'')
noncomputable def tCompF (wi : TI) (tc : TT) (te : TE) : TE := fun σ H Q => wi σ H (compAtF tc te σ Q)

section
variable {X : Cx} {N' : List Str} {scope : Scope} {x : Str} {px : Pos} {elt iter : Expr} {cds : List Expr} {pos : Pos} {te : TE} {tc : TT} {wi : TI}

theorem compx_core (S : CompSc X.N N' X.env.scope scope x) (hc : X.calm = true) (ht : ∀ cl C s H fp, PTL (cxComp X N' scope cl C s H fp) cds tc) (he : ∀ cl C s H fp, PE (cxComp X N' scope cl C s H fp) elt te)
    {pins : List (Addr × Obj)} {σ : St} {H : Hp} {s : Shared} {Q : VK} {E : Value → Shared → Prop} {RR : Value → Addr → Result → Shared → Prop} {it : Addr} {fp : List Addr} {tn : Nat → Heap → Prop} {J : It}
    (I : Inv X pins σ H s) (T : Turn X.prog X.w X.K (.Name x px) J fp it tn) (st : tn 0 s.heap) (f2 : ∀ b ∈ fp, FpOk X pins H b)
    (hw : compAtF tc te σ Q J H)
    (hRR : ∀ D C s' H', Inv X pins σ H' s' → (∃ m, s'.heap.Ns C m) → C ≠ X.env.locals → (∀ y c, X.env.cells.lookup y = some c → c ≠ C) → H' C = none → X.s₀.heap.objs.size ≤ C → (∀ p ∈ X.pn ++ pins, p.1 ≠ C) → Q (.ref D) H' → RR (.ref D) C (.ok .next) s') :
    ∃ cl, closureFor scope X.env = pure cl ∧ wpAny (model X.prog X.w) X.A (newList []) (fun acc s₃ => wpAny (model X.prog X.w) X.A (newFunctionEnv scope X.env.globals cl [] X.env.qual none .none (some X.env)) (fun cenv s₄ =>
      codeAny (model X.prog X.w) X.A (.compStart (.ListComp elt [⟨.Name x px, iter, cds, 0⟩] scope pos) 0 (.ref it) acc { cenv with scope := relabel scope X.env }) (RR acc cenv.locals) s₄) E s₃) E s := by
  have hfree : ∀ z ∈ scope.names, z.2 = .free → ∃ c, X.env.cells.lookup z.1 = some c := fun z hz hk => by
    rcases S.ok z hz hk with q | q
    · exact I.ok.has z.1 (.inl q)
    · exact I.ok.has z.1 (.inr q)
  refine ⟨_, clos_eq hfree, ?_⟩
  have clS : ∀ y c, (closOf X.env.cells scope.names []).lookup y = some c → X.env.cells.lookup y = some c := fun y c => clos_sound scope.names [] hfree fun q => by cases q
  generalize hcl : closOf X.env.cells scope.names [] = cl at clS
  have clH : ∀ y, scope.names.lookup y = some .free → ∃ c, cl.lookup y = some c := fun y hy => by
    rw [← hcl]
    exact clos_has scope.names [] (lookup_mem hy)
  refine wpAny_newObj_type (wpAny_newFunctionEnv S.cell (by intro y hy; simp at hy) (fun h₁ hns₁ hsb₁ => ?_) S.kind)
  have I3 : Inv X pins σ (upd H s.heap.objs.size (.lst [])) { s with heap := s.heap.push { cls := .type "list", data := .seq ([] : List Value).toArray } } := I.lnew (t' := s.toks) .nil (Nat.zero_le _)
  obtain ⟨W, ⟨m0, w0⟩, turn⟩ := hw s.heap.objs.size I.fresh
  dsimp only at hns₁ hsb₁ ⊢
  generalize hs3 : ({ s with heap := s.heap.push { cls := .type "list", data := .seq ([] : List Value).toArray } } : Shared) = s3 at I3
  have hh3 : s3.heap = s.heap.push { cls := .type "list", data := .seq ([] : List Value).toArray } := by rw [← hs3]
  have hsz3 : s3.heap.objs.size = s.heap.objs.size + 1 := by rw [hh3, Heap.size_push]
  rw [← hh3] at hns₁ hsb₁ ⊢
  have old : ∀ b o, s3.heap.get? b = some o → h₁.get? b = some o := fun b o e => hsb₁.extBut b o (by have := Heap.lt_size e; exact Nat.ne_of_lt this) (Heap.get?_push_of_some _ e)
  have old0 : ∀ b o, s.heap.get? b = some o → h₁.get? b = some o := fun b o e => old b o (by rw [hh3]; exact Heap.get?_push_of_some _ e)
  have CneL : s3.heap.objs.size ≠ X.env.locals := Nat.ne_of_gt I3.lt
  have CneC : ∀ y c, X.env.cells.lookup y = some c → c ≠ s3.heap.objs.size := fun y c e z => by
    obtain ⟨v, q⟩ := I3.cell y c e
    have := q.lt
    rw [z] at this
    exact absurd this (Nat.lt_irrefl _)
  have CneP : ∀ p ∈ X.pn ++ pins, p.1 ≠ s3.heap.objs.size := fun p hp z => by
    have := Heap.lt_size (I3.pin p hp).1
    rw [z] at this
    exact absurd this (Nat.lt_irrefl _)
  have CfreeH : ∀ b o, s3.heap.get? b = some o → b < s3.heap.objs.size := fun b o e => by have := Heap.lt_size e; exact this
  have fpLt : ∀ b ∈ fp, b < s3.heap.objs.size := fun b hb => by
    obtain ⟨o, e, _⟩ := T.obj 0 s.heap st b hb
    rw [hsz3]
    exact Nat.lt_succ_of_lt (Heap.lt_size e)
  have fpD : ∀ b ∈ fp, b ≠ s.heap.objs.size := fun b hb => by
    obtain ⟨o, e, _⟩ := T.obj 0 s.heap st b hb
    exact Nat.ne_of_lt (Heap.lt_size e)

  have ok' : (cxComp X N' scope cl s3.heap.objs.size s3 (upd H s.heap.objs.size (.lst [])) fp).Ok := by
    refine ⟨I3.ok.mod, ?_, I3.ok.glob, I3.ok.blt, Nat.le_refl _, fun y z c h1 h2 => I3.ok.inj y z c (clS y c h1) (clS z c h2), fun y hy => ?_, fun y c hf => (by cases hf), I3.ok.hd, I3.ok.frames, .inl rfl, fun b hb => ⟨Nat.ne_of_lt (fpLt b hb), fun y c e => (f2 b hb).2.2.2.2.1 y c (clS y c e)⟩,
      fun b o e => I3.bs b o e, Nat.le_trans I3.ok.bsz I3.sz, fun b o e hb => ?_, fun b hb z => ?_, I3.stack, I3.stkFree⟩
    · show (relabel scope X.env).kind = .function
      exact S.kind
    · have hy' : (relabel scope X.env).names.lookup y = some .cell ∨ (relabel scope X.env).names.lookup y = some .free := hy
      rw [relabel_lookup] at hy'
      cases q : scope.names.lookup y with
      | none => rw [q] at hy'; rcases hy' with z | z <;> cases z
      | some k =>
        have hm := lookup_mem q
        cases k with
        | free => exact clH y q
        | cell => exact absurd rfl (S.cell _ hm)
        | «local» => rw [q] at hy'; rcases hy' with z | z <;> simp at z
        | globalExplicit => rw [q] at hy'; rcases hy' with z | z <;> simp at z
        | globalImplicit => rw [q] at hy'; rcases hy' with z | z <;> simp at z
    · rcases (f2 b hb).2.2.2.1 with z | z
      · exact I.ok.noex b o e z
      · exact absurd (Nat.lt_of_lt_of_le (Heap.lt_size e) (Nat.le_trans I.ok.bsz z)) (Nat.lt_irrefl _)
    · rcases List.mem_cons.mp (I3.stkSub b z) with q | q
      · exact (f2 b hb).2.1 q
      · exact (f2 b hb).2.2.1 q
  have fpOk' : ∀ {H' : Hp}, (∀ b ∈ fp, H' b = none) → ∀ b ∈ fp, FpOk (cxComp X N' scope cl s3.heap.objs.size s3 (upd H s.heap.objs.size (.lst [])) fp) pins H' b := fun hn b hb =>
    ⟨hn b hb, Nat.ne_of_lt (fpLt b hb), fun z => by
      rcases List.mem_cons.mp (I3.stkSub b z) with q | q
      · exact (f2 b hb).2.1 q
      · exact (f2 b hb).2.2.1 q, .inl hb, fun y c e => (f2 b hb).2.2.2.2.1 y c (clS y c e), (f2 b hb).2.2.2.2.2⟩
  have I4 : Inv (cxComp X N' scope cl s3.heap.objs.size s3 (upd H s.heap.objs.size (.lst [])) fp) pins (none :: σ) (upd H s.heap.objs.size (.lst [])) { s3 with heap := h₁, toks := s3.toks + ([] : List (Str × Value)).length } := by
    refine ⟨ok', rfl, I3.bare, Un.kept old, ⟨_, hns₁, fun i y v e1 e2 vis => ?_⟩, fun y c e => ?_, ?_, fun y c e => I3.freeC y c (clS y c e), fun p hp => ?_, I3.hok.kept old, ?_⟩
    · cases i with
      | zero => cases e2
      | succ i =>
        have e2' : σ[i]? = some (some v) := by simpa using e2
        have hi : i < X.N.length := by rw [← I3.len]; exact (List.getElem?_eq_some_iff.mp e2').1
        have vis' : (relabel scope X.env).names.lookup y = some .local ∨ (relabel scope X.env).names.lookup y = some .cell ∨ (relabel scope X.env).names.lookup y = some .free := vis
        have e1' : N'[i + 1]? = some y := e1
        rcases S.sub i hi with q | q
        · rw [e1'] at q
          have hy : X.N[i]? = some y := q.symm
          have hmem : y ∈ N'.tail := by
            rw [List.mem_iff_getElem?]
            exact ⟨i, by rw [List.getElem?_tail]; exact e1'⟩
          have hfr : scope.names.lookup y = some .free := by
            rw [relabel_lookup] at vis'
            cases q2 : scope.names.lookup y with
            | none => rw [q2] at vis'; rcases vis' with z | z | z <;> cases z
            | some k =>
              cases k with
              | free => rfl
              | cell => exact absurd rfl (S.cell _ (lookup_mem q2))
              | «local» => exact absurd q2 (S.nol y hmem)
              | globalExplicit => rw [q2] at vis'; rcases vis' with z | z | z <;> simp at z
              | globalImplicit => rw [q2] at vis'; rcases vis' with z | z | z <;> simp at z
          have hok := S.ok (y, .free) (lookup_mem hfr) rfl
          obtain ⟨m, hn, hl⟩ := I3.loc
          have visX : Vis X.env.scope y := by
            rcases hok with z | z
            · exact .inr (.inl z)
            · exact .inr (.inr z)
          obtain ⟨u, r, l⟩ := hl i y v hy e2' visX
          refine ⟨u, r, .inr ⟨?_, ?_⟩⟩
          · show (relabel scope X.env).names.lookup y = some .cell ∨ (relabel scope X.env).names.lookup y = some .free
            rw [relabel_lookup, hfr, Option.map_some]
            by_cases hcnd : (NameKind.free == NameKind.free && X.env.scope.kind == .function && X.env.kindOf y == some .cell) = true
            · left
              rw [if_pos hcnd]
            · right
              rw [if_neg hcnd]
          · rcases l with ⟨k, _⟩ | ⟨k, c, e, z⟩
            · have k' : X.env.scope.names.lookup y = some .local := k
              have hok' : X.env.scope.names.lookup y = some .cell ∨ X.env.scope.names.lookup y = some .free := hok
              rw [k'] at hok'
              rcases hok' with z | z <;> cases z
            · obtain ⟨c', e'⟩ := clH y hfr
              have e3 := clS y c' e'
              rw [e] at e3
              cases e3
              obtain ⟨o, ho, hd⟩ := z
              exact ⟨c, e', o, old c o ho, hd⟩
        · rw [e1'] at q
          have q : scope.names.lookup y = none := Option.some.inj q
          rw [relabel_lookup, q] at vis'
          rcases vis' with z | z | z <;> cases z
    · obtain ⟨v, o, ho, hd⟩ := I3.cell y c (clS y c e)
      exact ⟨v, o, old c o ho, hd⟩
    · show upd H s.heap.objs.size (.lst []) s3.heap.objs.size = none
      exact I3.hok.fresh (Nat.le_refl _)
    · obtain ⟨e, n, ne, nf, d⟩ := I3.pin p hp
      refine ⟨old _ _ e, n, CneP p hp, fun z => ?_, d⟩
      rcases List.mem_cons.mp (I3.stkSub p.1 z) with q | q
      · exact ne q
      · exact nf q
    · show (none :: σ).length = N'.length
      rw [S.len, List.length_cons, I3.len]
  have st4 : tn 0 h₁ := T.keep 0 s.heap h₁ st fun b _ o e => old0 b o e

  have loop : ∀ s₄ : Shared, s₄ = { s3 with heap := h₁, toks := s3.toks + ([] : List (Str × Value)).length } →
      codeAny (model X.prog X.w) X.A (.compLoop (.ListComp elt [⟨.Name x px, iter, cds, 0⟩] scope pos) 0 (.ref it) (.ref s.heap.objs.size) (compEnvC scope cl s3.heap.objs.size X.env)) (RR (.ref s.heap.objs.size) s3.heap.objs.size) s₄ := by
    rintro s₄ rfl
    refine codeAny_compLoop_ts (fun n s' => ∃ i v0 ys H', Inv (cxComp X N' scope cl s3.heap.objs.size s3 (upd H s.heap.objs.size (.lst [])) fp) pins (v0 :: σ) H' s' ∧ tn i s'.heap ∧ (∀ b ∈ fp, H' b = none) ∧ W i n ys H') ?_ m0
      ⟨0, none, [], _, I4, st4, fun b hb => by rw [upd_ne (fpD b hb)]; exact (f2 b hb).1, w0⟩
    rintro n s5 ⟨i, v0, ys, H5, I5, st5, fr5, w5⟩
    rcases turn i n ys H5 w5 with ⟨stop, qn⟩ | ⟨go, hz, N, hN, Nn, hNn, step⟩
    · refine thn (T.done (cxComp X N' scope cl s3.heap.objs.size s3 (upd H s.heap.objs.size (.lst [])) fp) rfl rfl rfl hc i pins s5 (v0 :: σ) H5 (fun _ _ => False) I5 (fpOk' fr5) st5 stop) fun r s6 ⟨hr, I6⟩ => ?_
      subst hr
      have hch : ∀ b ∈ fp, (b ∈ X.ex ∨ X.s₀.heap.objs.size ≤ b) ∧ b ≠ X.env.locals ∧ (∀ x c, X.env.cells.lookup x = some c → c ≠ b) ∧ ∀ p ∈ X.pn ++ pins, p.1 ≠ b := fun b hb =>
        ⟨(f2 b hb).2.2.2.1, (f2 b hb).2.1, (f2 b hb).2.2.2.2.1, (f2 b hb).2.2.2.2.2⟩
      have I7 : Inv X pins σ H5 s6 := I3.call' (ch := fp) I6.os I6.base I6.hok I6.bare hch
      obtain ⟨m, hm, _⟩ := I6.loc
      exact hRR s.heap.objs.size s3.heap.objs.size s6 H5 I7 ⟨m, hm⟩ CneL CneC I6.free (Nat.le_trans I3.sz (Nat.le_refl _)) CneP qn
    · refine thn (T.item (cxComp X N' scope cl s3.heap.objs.size s3 (upd H s.heap.objs.size (.lst [])) fp) rfl rfl rfl hc i pins s5 (v0 :: σ) H5 (fun _ _ => False) I5 (fpOk' fr5) st5 go) fun r s6 ⟨u, hr, h6⟩ => ?_
      subst hr
      refine thn h6 fun _ s7 ⟨y, H7, I7, r7, y7, st7, fr7⟩ => ?_
      have I7' := I7.pinned (fpOk' fr7) (T.obj _ _ st7)
      refine wpAny_assign_Name (store_ok (i := 0) (v := y) I7' S.nd S.hd (.inl (lookup_relabel_local S.var)) r7 (fun s8 I8 => ?_) (.inr (lookup_relabel_local S.var)))
      have I8' : Inv (cxComp X N' scope cl s3.heap.objs.size s3 (upd H s.heap.objs.size (.lst [])) fp) (pins ++ pinsAt fp s7.heap) (some y :: σ) H7 s8 := I8
      refine thn (ht cl s3.heap.objs.size s3 (upd H s.heap.objs.size (.lst [])) fp _ s8 (some y :: σ) H7 (fun b H'' => if b = true then te (some y :: σ) H'' N else Nn H'') I8' (step y H7 y7)) fun okb s8 ⟨H8, I8, q8⟩ => ?_
      cases okb with
      | false =>
        have q8' : Nn H8 := by simpa using q8
        obtain ⟨m', hm, w9⟩ := hNn H8 q8'
        refine ⟨m', hm, i + 1, some y, ys, _, I8.unpinned, T.keep _ _ _ st7 fun b hb o e => (I8.pin (b, o) (List.mem_append_right _ (List.mem_append_right _ (mem_pinsAt hb e)))).1, fun b hb => ?_, w9⟩
        obtain ⟨o, e, d⟩ := T.obj _ _ st7 b hb
        exact (I8.pin (b, o) (List.mem_append_right _ (List.mem_append_right _ (mem_pinsAt hb e)))).2.1
      | true =>
        refine thn (he cl s3.heap.objs.size s3 (upd H s.heap.objs.size (.lst [])) fp _ s8 (some y :: σ) H8 N I8 (by simpa using q8)) fun w s9 ⟨v, H9, I9, r9, q9⟩ => ?_
        obtain ⟨hD9, m', hm, w9⟩ := hN v H9 q9
        refine thn (mt_append _ s9 (some y :: σ) H9 (.ref s.heap.objs.size) [v] (.ref s.heap.objs.size) [w] (fun z H10 => z = .non ∧ H10 = upd H9 s.heap.objs.size (.lst (ys ++ [v]))) I9 rfl (.cons r9 .nil) ⟨s.heap.objs.size, ys, v, rfl, rfl, hD9, hz, rfl, rfl⟩) fun _ s10 ⟨z, H10, I10, _, ez, e10⟩ => ?_
        subst e10
        refine ⟨m', hm, i + 1, some y, ys ++ [v], _, I10.unpinned, T.keep _ _ _ st7 fun b hb o e => (I10.pin (b, o) (List.mem_append_right _ (List.mem_append_right _ (mem_pinsAt hb e)))).1, fun b hb => ?_, w9⟩
        obtain ⟨o, e, d⟩ := T.obj _ _ st7 b hb
        exact (I10.pin (b, o) (List.mem_append_right _ (List.mem_append_right _ (mem_pinsAt hb e)))).2.1
  exact codeAny_compStart_list (loop _ (by rw [← hs3])) (T.self X.A 0 _ _ _ st4 (loop _ (by rw [← hs3])))
theorem compAt.toF {te : TE} {σ : St} {Q : VK} {J : It} {H : Hp} (hw : compAt te σ Q J H) : compAtF (fun _ H k => k true H) te σ Q J H := fun D hD => by
  obtain ⟨W, h0, hW⟩ := hw D hD
  refine ⟨W, h0, fun i m ys H2 hw2 => ?_⟩
  rcases hW i m ys H2 hw2 with g | ⟨g1, g2, N, g3, g4⟩
  · exact .inl g
  · exact .inr ⟨g1, g2, N, g3, fun _ => False, fun _ z => z.elim, fun y H' hy => iteT (g4 y H' hy)⟩
theorem pe_compx {at' : St → VK → It → Hp → Prop} (S : CompSc X.N N' X.env.scope scope x) (hc : X.calm = true) (hi : PI X (.Name x px) iter wi) (ht : ∀ cl C s H fp, PTL (cxComp X N' scope cl C s H fp) cds tc) (he : ∀ cl C s H fp, PE (cxComp X N' scope cl C s H fp) elt te) (cv : ∀ σ Q J H, at' σ Q J H → compAtF tc te σ Q J H)
    (hs : ∀ x, foldedSetIterable iter X.env x = pure x := by intro _; rfl) : PE X (.ListComp elt [⟨.Name x px, iter, cds, 0⟩] scope pos) (fun σ H Q => wi σ H (at' σ Q)) := by
  intro pins s σ H Q I h
  rw [eval_ListComp]
  have hfree : ∀ z ∈ scope.names, z.2 = .free → ∃ c, X.env.cells.lookup z.1 = some c := fun z hz hk => by
    rcases S.ok z hz hk with q | q
    · exact I.ok.has z.1 (.inl q)
    · exact I.ok.has z.1 (.inr q)
  refine wpAny_comprehension_free (use := none) rfl hs (clos_eq hfree) S.kind S.names (thn (hi pins s σ H _ I h) fun xv s1 h1 => thn h1 fun itv s2 h2 => ?_)
  obtain ⟨it, fp, tn, J, H2, e, I2, T, st2, f2, hw⟩ := h2
  subst e
  obtain ⟨cl, hcl, hrun⟩ := compx_core (tc := tc) (cds := cds) (elt := elt) (iter := iter) (pos := pos) (px := px) (E := X.xe) (RR := fun acc C => compPost (model X.prog X.w) X.A X.xe none (EP X pins σ Q) acc C) S hc ht he I2 T st2 f2 (cv _ _ _ _ hw) (fun D C s' H' I' ⟨m, hm⟩ n1 n2 n3 n4 n5 q =>
    ⟨m, hm, fun h' hsb => ⟨.ref D, H', I'.turned (it := C) (t' := s'.toks) (fun b o hb e => (hsb.2 b hb).trans e) n3 n1 (.inr n4) n2 n5, rfl, q⟩⟩)
  have ecl : (pure (closOf X.env.cells scope.names []) : Sem (List (Str × Addr))) = pure cl := (clos_eq hfree).symm.trans hcl
  have ecl' : closOf X.env.cells scope.names [] = cl := by
    injection ecl
  rw [ecl']
  exact hrun
theorem ps_setCompx {at' : St → VK → It → Hp → Prop} {i : Nat} {y : Str} {py spos : Pos} (S : CompSc X.N N' X.env.scope scope x) (hc : X.calm = true) (hi : PI X (.Name x px) iter wi) (ht : ∀ cl C s H fp, PTL (cxComp X N' scope cl C s H fp) cds tc) (he : ∀ cl C s H fp, PE (cxComp X N' scope cl C s H fp) elt te) (cv : ∀ σ Q J H, at' σ Q J H → compAtF tc te σ Q J H)
    (hN : X.N.Nodup) (hy : X.N[i]? = some y) (hyl : X.env.scope.names.lookup y = some .local)
    (hsw : swapsWith (.ListComp elt [⟨.Name x px, iter, cds, 0⟩] scope pos) (some (.Name y py)) spos.line X.env = pure true := by rfl)
    (hs : ∀ x, foldedSetIterable iter X.env x = pure x := by intro _; rfl) : PS X (.Assign [.Name y py] (.ListComp elt [⟨.Name x px, iter, cds, 0⟩] scope pos) spos) (tAsg (fun σ H Q => wi σ H (at' σ Q)) (gName i)) := by
  intro pins s σ H D0 I h
  have hfree : ∀ z ∈ scope.names, z.2 = .free → ∃ c, X.env.cells.lookup z.1 = some c := fun z hz hk => by
    rcases S.ok z hz hk with q | q
    · exact I.ok.has z.1 (.inl q)
    · exact I.ok.has z.1 (.inr q)
  rw [exec_Assign_Name_used _ _ _ _ hsw]
  refine wpAny_bind (wpAny_standAt (wpAny_bind ?_))
  show wpAny _ X.A (do let _ ← comprehension (.ListComp elt [⟨.Name x px, iter, cds, 0⟩] scope pos) scope X.env _ (newList []) false (eval iter X.env) (some (assign (.Name y py) X.env))) _ _ s
  refine wpAny_bind (wpAny_mono (wpAny_comprehension_free (use := some (assign (.Name y py) X.env)) (Q := fun _ s' => SP X pins D0 .next s') rfl hs (clos_eq hfree) S.kind S.names
    (thn (hi pins s σ H _ I h) fun xv s1 h1 => thn h1 fun itv s2 h2 => ?_)) (fun _ s' hq => wpAny_pure (wpAny_pure hq)) fun _ _ e => e)
  obtain ⟨it, fp, tn, J, H2, e, I2, T, st2, f2, hw⟩ := h2
  subst e
  obtain ⟨cl, hcl, hrun⟩ := compx_core (tc := tc) (cds := cds) (elt := elt) (iter := iter) (pos := pos) (px := px) (E := X.xe) (Q := fun x H1 => gName i x σ H1 D0.nx) (RR := fun acc C => compPost (model X.prog X.w) X.A X.xe (some (assign (.Name y py) X.env)) (fun _ s' => SP X pins D0 .next s') acc C) S hc ht he I2 T st2 f2 (cv _ _ _ _ hw) (fun D C s' H' I' ⟨m, hm⟩ n1 n2 n3 n4 n5 q => by
    show wpAny _ X.A (assign (.Name y py) X.env (.ref D)) _ _ _
    refine wpAny_assign_Name (store_ok2 (i := i) (v := .ref D) I' hN hy (.inl hyl) rfl (fun s'' I'' ⟨a, hsa, hwa⟩ => ?_) (.inr hyl))
    have haC : C ≠ a := by
      rcases hwa with z | z
      · rw [z]; exact n1
      · intro z2
        exact n2 y a z z2.symm
    refine ⟨m, hm.sameBut hsa haC, fun h' hsb => ?_⟩
    exact ⟨_, H', I''.turned (it := C) (t' := s''.toks) (fun b o hb e => (hsb.2 b hb).trans e) n3 n1 (.inr n4) n2 n5, q⟩)
  have ecl : (pure (closOf X.env.cells scope.names []) : Sem (List (Str × Addr))) = pure cl := (clos_eq hfree).symm.trans hcl
  have ecl' : closOf X.env.cells scope.names [] = cl := by
    injection ecl
  rw [ecl']
  exact hrun
theorem pe_comp (S : CompSc X.N N' X.env.scope scope x) (hc : X.calm = true) (hi : PI X (.Name x px) iter wi) (he : ∀ cl C s H fp, PE (cxComp X N' scope cl C s H fp) elt te)
    (hs : ∀ x, foldedSetIterable iter X.env x = pure x := by intro _; rfl) : PE X (.ListComp elt [⟨.Name x px, iter, [], 0⟩] scope pos) (tComp wi te) :=
  pe_compx (at' := fun σ Q => compAt te σ Q) S hc hi (fun _ _ _ _ _ => ptl_nil) he (fun _ _ _ _ h => h.toF) hs
end

theorem comp_range {lo : Int} {n : Nat} {te : TE} {σ : St} {H : Hp} {Q : VK} (f : Nat → V) (hn : n ≤ sizeLine)
    (he : ∀ i H', i < n → Same H H' → ∀ N : V → Hp → Prop, (∀ H'', Same H' H'' → N (f i) H'') → te (some (.int (lo + i)) :: σ) H' N)
    (hq : ∀ D H', H D = none → Same H H' → H' D = some (.lst ((List.range n).map f)) → Q (.ref D) H') :
    compAt te σ Q (Itr lo n) H := by
  intro D hD
  refine ⟨fun i m ys H2 => m = n - i ∧ i ≤ n ∧ ys = (List.range i).map f ∧ Same H H2 ∧ H2 D = some (.lst ys), ⟨n, rfl, Nat.zero_le _, rfl, fun b o e => ?_, upd_same⟩, ?_⟩
  · rw [upd_ne (ne_of_none e hD)]
    exact e
  · rintro i m ys H2 ⟨rfl, hi, rfl, hs, hd⟩
    by_cases hlt : i < n
    · refine .inr ⟨hlt, by rw [List.length_map, List.length_range]; omega, fun v H' => v = f i ∧ Same H2 H', fun v H' ⟨ev, hs'⟩ => ⟨hs' D _ hd, n - (i + 1), by omega, rfl, hlt, ?_, fun b o e => ?_, upd_same⟩, fun y H' hy => ?_⟩
      · rw [ev, List.range_succ, List.map_append]
        rfl
      · rw [upd_ne (ne_of_none e hD)]
        exact hs' b o (hs b o e)
      · obtain ⟨e1, e2⟩ := hy
        subst e1 e2
        exact he i _ hlt hs _ fun H'' h'' => ⟨rfl, h''⟩
    · have e : i = n := by omega
      subst e
      exact .inl ⟨Nat.le_refl _, hq D H2 hD hs hd⟩
end L2

set_option Elab.async false
set_option linter.all false
set_option maxRecDepth 100000
set_option maxHeartbeats 4000000

namespace L2
open PySem PySem.Spec PyProof.Rows

set_option genInjectivity false in
structure Cal (P : Program) (w : World) (K : PySem.W.Frag) (mg : Str → Option Value) (base : Heap) (CX : CXT) (x : Str) (k : Nat) (ps : List Str) (sp : Sp) : Prop where
  ex : ∃ (f : Addr) (fd : FuncData), FnOk P w K mg base CX k f fd ps sp ∧ mg x = some (.ref f) ∧ PySem.W.keepIn K (.ref f) = true ∧ Binds K fd ps []
section
variable {X : Cx}
theorem pe_cal {CX : CXT} {x : Str} {j k : Nat} {ps : List Str} {sp : Sp} {E : XK} {e : Expr} {es : List Expr} {t : TA} {p pos : Pos} (c : Cal X.prog X.w X.K X.mg X.base CX x j ps sp) (hr : Room k X.A) (hx : Passes CX X E) (ha : PA X (e :: es) t)
    (hjk : j ≤ k := by decide) (hg : Gl X x := by rfl) (hdb : (x == ("__debug__" : Str)) = false := by decide) (he : starEach (e :: es) X.env = (false, eval e X.env) :: starEach es X.env := by rfl) (hpl : (backTo pos (starEach es X.env)).any (·.1) = false := by rfl) :
    PE X (.Call (.Name x p) (e :: es) [] pos) (tCall sp [] E t) := by
  obtain ⟨f, fd, F, hm, hk, hb⟩ := c.ex
  exact pe_call F (hr.mono hjk) hg hm hk hb .nil hx ha hdb he hpl

theorem pe_strT (l : List Nat) {x : Str} {j pos} (h : x = tx l) : PE X (.Constant (.str x) j pos) (tC (T l)) := by
  subst h
  exact pe_str
theorem call_len_T : CallR X (.builtin "len") (fun xs H Q => ∃ (l : List Nat), xs = [T l] ∧ l.length ≤ sizeLine ∧ Q (.int (l.length : Nat)) H) := by
  intro pins s σ H xs us Q I r h
  obtain ⟨l, e, hz, q⟩ := h
  exact call_len_str pins s σ H xs us Q I r ⟨tx l, e, by rw [tx_len]; exact hz, by rw [tx_len]; exact q⟩
theorem ix_T : IxR X (fun x y H Q => ∃ (l : List Nat), x = T l ∧ ∃ (i : Int), y = .int i ∧ l.length ≤ sizeLine ∧ ∃ c, atI l i = some c ∧ Q (T [c]) H) := by
  intro value slice pins s σ H x y v u Q I rx ry h hs
  obtain ⟨l, e1, i, e2, hz, c, hc, q⟩ := h
  exact ix_str value slice pins s σ H x y v u Q I rx ry ⟨tx l, i, c, e1, e2, by rw [tx_len]; exact hz, by rw [tx_cps]; exact hc, q⟩ hs

theorem op_catL : OpR X (binaryOp .Add) (fun x y H Q => ∃ (l b : Addr) (xs zs : List V), x = .ref l ∧ y = .ref b ∧ SqL X.K H l xs ∧ SqL X.K H b zs ∧ xs.length + zs.length ≤ sizeLine ∧ ∀ p, H p = none → Q (.ref p) (upd H p (.lst (xs ++ zs)))) := by
  intro pins s σ H x y v u Q I rx ry h
  obtain ⟨l, b, xs, zs, rfl, rfl, hH, hB, hz, q⟩ := h
  cases rx
  cases ry
  obtain ⟨its, r, ⟨⟨cls, dd, data, sl⟩, n, ho, hc, hdd, hd⟩, _⟩ := I.list hH
  obtain ⟨its2, r2, ⟨⟨cls2, dd2, data2, sl2⟩, n2, ho2, hc2, hdd2, hd2⟩, _⟩ := I.list hB
  simp only at hc hd hc2 hd2
  subst hc hd hc2 hd2
  have e : its.toArray ++ its2.toArray = (its ++ its2).toArray := by simp
  refine concat_meets ⟨_, ho, rfl⟩ ⟨_, ho2, rfl⟩ noFill_list_add seq_list_add PySem.F.slot_list_add PySem.F.entry_list_add (PySem.F.args_list_add_2 _ _) (list_addW l b its.toArray its2.toArray n n2 dd dd2 sl sl2 (by rw [List.size_toArray, List.size_toArray, ← r.length, ← r2.length]; exact hz)) ⟨ho, ho2, ?_⟩
  rw [e]
  exact ⟨.ref _, _, I.lnew (t' := s.toks) (r.append r2) (by rw [List.length_append]; exact hz), rfl, q _ I.fresh⟩

theorem all_flat (ls : List (List Nat)) : (ls.map T).all flatV = true := by
  rw [List.all_map, List.all_eq_true]
  intro l _
  rfl
end
end L2

set_option Elab.async false
set_option linter.all false
set_option maxRecDepth 100000
set_option maxHeartbeats 4000000

namespace L2
open PySem PySem.Spec PyProof.Rows

set_option genInjectivity false in
structure Fly (P : Program) (w : World) (outer : List Env) (H : Hp) (s : Shared) (a : Addr) (cls : Value) (H' : Hp) (s' : Shared) : Prop where
  os : s'.os = s.os
  bare : AllBare s'.gens
  ex : ∃ (B : Heap) (t : Addr), Heap.FlyingW B outer a cls (.ref t) s'.heap ∧ HOk P w H' B ∧ (∀ b o, s.heap.get? b = some o → H b = none → b ∉ frs outer → B.get? b = some o) ∧
    ∀ b o, s.heap.get? b = some o → b ∉ frs outer → ∃ o', B.get? b = some o'
  slot : ∀ b o, s.heap.get? b = some o → H b = none → b ∈ frs outer → ∃ sl, s'.heap.get? b = some { o with slots := sl }
  free : ∀ b o, s.heap.get? b = some o → H b = none → H' b = none
  tups : ∀ b xs, H b = some (.tup xs) → H' b = some (.tup xs)
  frzs : ∀ b o u, H b = some (.frz o u) → H' b = some (.frz o u)
  tbls : ∀ b ps, H b = some (.tbl ps) → ∃ more, H' b = some (.tbl (ps ++ more))
noncomputable def CX1 (P : Program) (w : World) : CXT := fun outer H s E e s' => ∃ a cls H', e = .ref a ∧ Fly P w outer H s a cls H' s' ∧ E cls none H'

section
variable {X : Cx} {pins : List (Addr × Obj)} {σ : St} {H H' : Hp} {s s' : Shared} {a : Addr} {cls : Value} {E : Value → Shared → Prop}

set_option genInjectivity false in
structure Own (X : Cx) : Prop where
  stk : X.stack = X.env :: X.outer
  fr : X.env.frame = some X.env.locals
  ex : X.ex = []
theorem Own.frs (O : Own X) {b : Addr} : b ∈ frs X.stack ↔ b = X.env.locals ∨ b ∈ frs X.outer := by
  unfold L2.frs
  rw [O.stk, List.filterMap_cons, O.fr]
  exact List.mem_cons
theorem Inv.oldNe (I : Inv X pins σ H s) {b : Addr} {o : Obj} (e : X.s₀.heap.get? b = some o) : b ≠ X.env.locals := Nat.ne_of_lt (Nat.lt_of_lt_of_le (Heap.lt_size e) I.ok.above)
theorem Inv.hidHok (I : Inv X pins σ H s) : HOk X.prog X.w H (PySem.W.hideAll s.heap (L2.frs X.stack)) := fun b u e =>
  (I.hok b u e).stay (fun c v hc q => PySem.W.hideAll_get _ q fun hm => by
    have n := I.stkFree c hm
    rcases hc with z | z
    · rw [z, e] at n
      cases n
    · rw [z] at n
      cases n) (fun _ q => q) fun _ _ q => q
theorem Fly.raised {args : List Value} {h : Heap} (I : Inv X pins σ H s) (O : Own X) (hx : Heap.MadeExcOf s.heap h a cls args) :
    wpAny (model X.prog X.w) X.A (leaving X.env (.ref a)) (fun _ s'' => Fly X.prog X.w X.outer X.H₀ X.s₀ a cls H s'') E { s with heap := h } := by
  have hst := I.stack
  have hin : ∀ env ∈ X.stack, ∀ b, env.frame = some b → b ∈ L2.frs X.stack := fun env he b hb => List.mem_filterMap.mpr ⟨env, he, hb⟩
  have hl := PySem.W.funFrames_hide hst hin
  rw [O.stk] at hl
  have hfr := I.ok.frames
  rw [O.stk] at hfr
  have noEx : ∀ b, b ∉ X.ex := fun b z => by
    rw [O.ex] at z
    cases z
  refine wpAny_leaves_madeW (s := { s with heap := h }) hfr O.fr (fun b o q => PySem.W.of_hideAll _ q) hl hx fun h' t x1 x2 x3 x4 => ?_
  have notIn : ∀ b o, X.s₀.heap.get? b = some o → b ∉ L2.frs X.outer → b ∉ L2.frs (X.env :: X.outer) := fun b o e nb z => by
    rw [← O.stk] at z
    rcases O.frs.mp z with q | q
    · exact I.oldNe e q
    · exact nb q
  have hokB := I.hidHok
  rw [O.stk] at hokB
  refine ⟨I.os, I.bare, ⟨_, t, x1, hokB, fun b o e n nb => ?_, fun b o e nb => ?_⟩, fun b o e n hb => ?_, fun b o e n => I.base.free b o e n (noEx b), I.base.tups, I.base.frzs, I.base.tbls⟩
  · exact PySem.W.hideAll_get _ (I.base.keep b o e n nb (noEx b)) (notIn b o e nb)
  · obtain ⟨o', e'⟩ := I.base.there b o e (noEx b)
    exact ⟨o', PySem.W.hideAll_get _ e' (notIn b o e nb)⟩
  · obtain ⟨sl, e1⟩ := I.base.slot b o e n hb (noEx b)
    obtain ⟨_, o2, e2, hd⟩ := I.funs.mem hb
    rw [e1] at e2
    cases e2
    obtain ⟨sl2, e3⟩ := x4 b _ (hx.keeps b _ e1) hd
    exact ⟨sl2, e3⟩
theorem Fly.on (I : Inv X pins σ H s) (O : Own X) (Y : Fly X.prog X.w X.stack H s a cls H' s') :
    wpAny (model X.prog X.w) X.A (leaving X.env (.ref a)) (fun _ s'' => Fly X.prog X.w X.outer X.H₀ X.s₀ a cls H' s'') E s' := by
  obtain ⟨B, t, hfl, hokB, kp, th⟩ := Y.ex
  have hfr := I.ok.frames
  rw [O.stk] at hfr hfl
  have noEx : ∀ b, b ∉ X.ex := fun b z => by
    rw [O.ex] at z
    cases z
  have notIn : ∀ b o, X.s₀.heap.get? b = some o → b ∉ L2.frs X.outer → b ∉ L2.frs X.stack := fun b o e nb z => by
    rcases O.frs.mp z with q | q
    · exact I.oldNe e q
    · exact nb q
  refine wpAny_leaves_onW hfr O.fr hfl fun h' x1 x2 => ?_
  refine ⟨Y.os.trans I.os, Y.bare, ⟨B, t, x1, hokB, fun b o e n nb => kp b o (I.base.keep b o e n nb (noEx b)) (I.base.free b o e n (noEx b)) (notIn b o e nb), fun b o e nb => ?_⟩, fun b o e n hb => ?_, fun b o e n => ?_,
    fun b xs q => Y.tups b xs (I.base.tups b xs q), fun b o u q => Y.frzs b o u (I.base.frzs b o u q), fun b ps q => ?_⟩
  · obtain ⟨o', e'⟩ := I.base.there b o e (noEx b)
    exact th b o' e' (notIn b o e nb)
  · obtain ⟨sl, e1⟩ := I.base.slot b o e n hb (noEx b)
    obtain ⟨_, o2, e2, hd⟩ := I.funs.mem hb
    rw [e1] at e2
    cases e2
    obtain ⟨sl2, e3⟩ := Y.slot b _ e1 (I.base.free b o e n (noEx b)) (O.frs.mpr (.inr hb))
    obtain ⟨sl3, e4⟩ := x2 b _ e3 hd
    exact ⟨sl3, e4⟩
  · obtain ⟨o', e'⟩ := I.base.there b o e (noEx b)
    exact Y.free b o' e' (I.base.free b o e n (noEx b))
  · obtain ⟨m1, e1⟩ := I.base.tbls b ps q
    obtain ⟨m2, e2⟩ := Y.tbls b _ e1
    exact ⟨m1 ++ m2, by rw [e2, Array.append_assoc]⟩
end

noncomputable abbrev bmVE : List Value := [.type "ValueError", .type "Exception", .type "BaseException", .type "object"]
set_option genInjectivity false in
structure Exc (K : PySem.W.Frag) (mg : Str → Option Value) (x : Str) (C : Addr) : Prop where
  mg : mg x = some (.ref C)
  is : PySem.W.excIn K C bmVE "ValueError.__new__" = true
theorem Exc.own {K : PySem.W.Frag} {mg : Str → Option Value} {x : Str} {C : Addr} {h : Heap} (c : Exc K mg x C) (X : K.In h) : OwnCls x C bmVE "ValueError.__new__" mg h := by
  refine ⟨c.mg, ?_⟩
  have q := c.is
  unfold PySem.W.excIn at q
  split at q
  · rename_i dd cd sl ho
    split at q
    · rename_i C' bm k0 k1 k2 k3 n k5 hm hs
      simp only [beq_iff_eq, Bool.not_eq_true', Bool.and_eq_true] at q
      obtain ⟨⟨⟨⟨⟨g1, g2⟩, g3⟩, g4⟩, g5⟩, g6⟩ := q
      subst g1 g2
      obtain ⟨nm, bs, mro, ns, qn, hd, sn, sub, ab, col, del⟩ := cd
      have hsl : sl = #[k0, k1, k2, k3, some (.builtin "ValueError.__new__"), k5] := by
        cases sl with
        | mk l =>
          have hs' : l = _ := hs
          rw [hs']
      have hm' : mro = _ := hm
      have g3' : del = false := g3
      subst hsl hm' g3'
      refine ⟨bm, ns, nm, qn, bs, hd, sn, sub, ab, col, dd, k0, k1, k2, k3, k5, h.nsMap ns, X _ _ ho, ?_, ?_, ?_⟩
      · exact .of_isNs (PySem.W.isNs_of_in X g5)
      · exact PySem.W.nsMap_none_of_in X g5 g6
      · exact PySem.W.tail_of_in X g4
    · cases q
  · cases q
noncomputable def tRaise (E : Value → Hp → Prop) (C : Addr) (t : TA) : TS := fun _ σ H => t σ H fun vs H1 => vs.length ≤ sizeLine ∧ E (.ref C) H1
theorem ps_raise {x : Str} {C : Addr} {e₀ : Expr} {rest : List Expr} {np cpos pos : Pos} {t : TA} {E : Value → Hp → Prop} (c : Exc X.K X.mg x C) (hc : X.calm = true)
    (hE : ∀ (pins : List (Addr × Obj)) (σ : St) (H : Hp) (s : Shared) (h : Heap) (a : Addr) (args : List Value), Inv X pins σ H s → Heap.MadeExcOf s.heap h a (.ref C) args → E (.ref C) H → X.xe (.ref a) { s with heap := h })
    (ha : PA X (e₀ :: rest) t) (hg : Gl X x := by rfl) (hd : (x == ("__debug__" : Str)) = false := by decide)
    (he : starEach (e₀ :: rest) X.env = (false, eval e₀ X.env) :: starEach rest X.env := by rfl) (hpl : (backTo cpos (starEach rest X.env)).any (·.1) = false := by rfl) :
    PS X (.Raise (some (.Call (.Name x np) (e₀ :: rest) [] cpos)) none pos) (tRaise E C t) := by
  intro pins s σ H D I h
  have O := c.own I.mod.kin
  obtain ⟨tl, N, nm, q, bs, hdct, sn, sub, ab, col, dd, k0, k1, k2, k3, k5, mN, hC, hN, hni, T⟩ := O.obj
  refine wpAny_Raise_call_subT (C := C) (nm := nm) (q := q) (N := N) (bs := bs) (bm := tl) (hdct := hdct) (sn := sn) (sub := sub) (ab := ab) (col := col) (dd := dd) (k0 := k0) (k1 := k1) (k2 := k2) (k3 := k3) (k5 := k5) PySem.F.excBase_ValueError (mN := mN)
    (T.hasType (by decide +kernel)) (I.ok.hd hc) (by rw [he]; show (false || (backTo cpos (starEach rest X.env)).any (·.1)) = false; rw [hpl]; rfl) hni (ld_glob I hg c.mg ⟨rfl, ?_⟩ hd)
  have hA := ha cpos pins s σ H _ I h
  rw [he] at hA ⊢
  refine Calls.evalArgs_plain (thn hA fun us s2 ⟨vs, H2, I2, r2, hz, q2⟩ => ?_)
  exact ⟨rfl, by rw [← r2.length]; exact hz, I2.bk _ _ hC, hN.keeps I2.bk, T.keeps I2.bk, fun h' e hx => hE pins σ H2 s2 h' e us I2 hx q2⟩

section
variable {P : Program} {w : World} {K : PySem.W.Frag} {mg : Str → Option Value} {base : Heap} {N : List Str} {qual : Str} {scope : Scope} {f : Addr} {cdv : Value} {A : Around} {outer : List Env} {s : Shared} {H : Hp} {E : XK}
theorem ownX {CX : CXT} : Own (cxOf CX P w K mg base N qual scope f cdv A outer s H E) := ⟨rfl, rfl, rfl⟩
theorem passX : Passes (CX1 P w) (cxOf (CX1 P w) P w K mg base N qual scope f cdv A outer s H E) E := fun pins σ H1 s1 e s' I h => by
  obtain ⟨a, cls, H', rfl, Y, q⟩ := h
  exact thn (Fly.on I ownX Y) fun _ s'' Z => ⟨a, cls, H', rfl, Z, q⟩
theorem raiseX {C : Addr} {pins : List (Addr × Obj)} {σ : St} {H1 : Hp} {s1 : Shared} {h : Heap} {a : Addr} {args : List Value} (I : Inv (cxOf (CX1 P w) P w K mg base N qual scope f cdv A outer s H E) pins σ H1 s1) (hx : Heap.MadeExcOf s1.heap h a (.ref C) args) (q : E (.ref C) none H1) :
    (cxOf (CX1 P w) P w K mg base N qual scope f cdv A outer s H E).xe (.ref a) { s1 with heap := h } := thn (Fly.raised I ownX hx) fun _ s'' Z => ⟨a, .ref C, H1, rfl, Z, q⟩
theorem pass1 {X : Cx} : Passes (CX1 P w) X E0 := fun _ _ _ _ _ _ _ h => by
  obtain ⟨_, _, _, _, _, q⟩ := h
  exact q.elim
theorem Fun.okX {x qual : Str} {st : Stmt} {f : Addr} {fd : FuncData} {N ps : List Str} {k : Nat} {sp : Sp} (F : Fun K x qual st f fd) (S : FnScope N ps (defScope st)) (len : ∀ vs H Q E, sp vs H Q E → vs.length = ps.length)
    (hbody : ∀ (cdv : Value) (A : Around) (outer : List Env) (s : Shared) (H : Hp) (vs : List V) (Q : VK) (E : XK), Room k (A.deeper (envOfC qual (defScope st) s.heap.objs.size f cdv)) → sp vs H Q E →
      ∃ t, PSs (cxOf (CX1 P w) P w K mg base N qual (defScope st) f cdv A outer s H E) (defBody st) t ∧ t { nx := fun _ H' => Q .non H', rt := Q } (start N vs) H) : FnOk P w K mg base (CX1 P w) (k + 1) f fd ps sp := by
  obtain ⟨oc, od, kV, doc, pm, an, cdv, ct, osl, rfl, lk, hcd⟩ := F.ex
  exact fn_of lk hcd S len fun A outer s H vs Q E hr hsp => hbody cdv A outer s H vs Q E hr hsp
end
end L2

set_option Elab.async false
set_option linter.all false
set_option maxRecDepth 100000
set_option maxHeartbeats 4000000

namespace L2
open PySem PySem.Spec PyProof.Rows

noncomputable def XP (X : Cx) (pins : List (Addr × Obj)) (R : St → Value → Hp → Prop) (e : Value) (s' : Shared) : Prop :=
  ∃ a cls σ' H s1 H', e = .ref a ∧ Inv X pins σ' H s1 ∧ Fly X.prog X.w X.stack H s1 a cls H' s' ∧ R σ' cls H'
noncomputable abbrev TTy := Ends → (St → Value → Hp → Prop) → St → Hp → Prop
noncomputable def PTy (X : Cx) (st : List Stmt) (t : TTy) : Prop :=
  ∀ (pins : List (Addr × Obj)) (s : Shared) (σ : St) (H : Hp) (D : Ends) (R : St → Value → Hp → Prop), Inv X pins σ H s → t D R σ H → wpAny (model X.prog X.w) X.A (execs st X.env) (SP X pins D) (XP X pins R) s
section
variable {X : Cx}
noncomputable abbrev TH := Ends → St → Value → Hp → Prop
noncomputable def PH (X : Cx) (hs : List ExceptHandler) (t : TH) : Prop :=
  ∀ (pins : List (Addr × Obj)) (σ : St) (H : Hp) (s : Shared) (a : Addr) (cls : Value) (H' : Hp) (s' : Shared) (D : Ends), Inv X pins σ H s → Fly X.prog X.w X.stack H s a cls H' s' → t D σ cls H' →
    wpAny (model X.prog X.w) X.A (handleBy (.ref a) X.env hs) (SP X pins D) X.xe s'
end
end L2

set_option Elab.async false
set_option linter.all false
set_option maxRecDepth 100000
set_option maxHeartbeats 4000000

namespace L2
open PySem PySem.Spec PyProof.Rows

namespace RV
section
variable {prog : Program} {w : World} {A : Around} {E : Value → Shared → Prop} {s : Shared}
end
end RV

section
variable {X : Cx}
theorem rising_pw : ∀ (x : List Nat) (ls : List (List Nat)), risingS (tx x) (ls.map tx) = true → (∀ y ∈ ls, ¬ y < x) ∧ ls.Pairwise (fun a b => ¬ b < a)
  | x, [], _ => ⟨fun _ h => (by cases h), .nil⟩
  | x, y :: ls, h => by
    have h' : (!ltCps (tx y).cps.toList (tx x).cps.toList && risingS (tx y) (ls.map tx)) = true := h
    rw [Bool.and_eq_true, tx_cps, tx_cps, ltCps_eq] at h'
    obtain ⟨a, b⟩ := rising_pw y ls h'.2
    have h1 : ¬ y < x := by simpa using h'.1
    refine ⟨fun z hz => ?_, List.pairwise_cons.mpr ⟨a, b⟩⟩
    rcases List.mem_cons.mp hz with rfl | hz
    · exact h1
    · exact Wd.lele h1 (a z hz)
theorem sorted_pw : ∀ (ls : List (List Nat)), sortedS (ls.map tx) = true → ls.Pairwise (fun a b => ¬ b < a)
  | [], _ => .nil
  | x :: ls, h => List.pairwise_cons.mpr (rising_pw x ls h)
theorem strs_back : ∀ {us : List Value} {ss : List Str}, StrsAre us ss → Vals ((ss.map fun x => x.cps.toList).map T) us
  | _, _, .nil => .nil
  | _, _, .cons x t h => .cons ⟨t, by show Value.str x t = Value.str (tx x.cps.toList) t; rw [tx_eta]⟩ (strs_back h)
end
end L2

set_option Elab.async false
set_option linter.all false
set_option maxRecDepth 100000
set_option maxHeartbeats 4000000

namespace L2
open PySem PySem.Spec PyProof.Rows

noncomputable def nub : List (List Nat) → List (List Nat) → List (List Nat)
  | acc, [] => acc
  | acc, l :: ls => if l ∈ acc then nub acc ls else nub (acc ++ [l]) ls
noncomputable def nubTo (ls : List (List Nat)) : Nat → List (List Nat)
  | 0 => []
  | i + 1 => if ls.getD i [] ∈ nubTo ls i then nubTo ls i else nubTo ls i ++ [ls.getD i []]
theorem nubTo_len (ls : List (List Nat)) : ∀ i, (nubTo ls i).length ≤ i
  | 0 => Nat.le_refl _
  | i + 1 => by
    have h := nubTo_len ls i
    rw [nubTo]
    split
    · omega
    · rw [List.length_append, List.length_singleton]
      omega
theorem nubTo_nodup (ls : List (List Nat)) : ∀ i, (nubTo ls i).Nodup
  | 0 => List.nodup_nil
  | i + 1 => by
    have h := nubTo_nodup ls i
    rw [nubTo]
    split
    · exact h
    · rename_i hn
      refine List.nodup_append.mpr ⟨h, by simp, fun a ha b hb e => ?_⟩
      have hb' : b = ls.getD i [] := by simpa using hb
      rw [e, hb'] at ha
      exact hn ha
theorem nubTo_mem (ls : List (List Nat)) (x : List Nat) : ∀ i, i ≤ ls.length → (x ∈ nubTo ls i ↔ x ∈ ls.take i)
  | 0, _ => by simp [nubTo]
  | i + 1, hi => by
    have h := nubTo_mem ls x i (by omega)
    have e : ls.take (i + 1) = ls.take i ++ [ls.getD i []] := by
      rw [List.take_add_one, List.getD_eq_getElem?_getD, List.getElem?_eq_getElem (by omega)]
      rfl
    rw [e, List.mem_append, nubTo]
    split
    · rename_i hm
      rw [h]
      constructor
      · exact .inl
      · rintro (q | q)
        · exact q
        · have q' : x = ls.getD i [] := by simpa using q
          rw [q', ← nubTo_mem ls _ i (by omega)]
          exact hm
    · rw [List.mem_append, h]
noncomputable def uniq (ls : List (List Nat)) : List (List Nat) := nubTo ls ls.length
theorem uniq_nodup (ls : List (List Nat)) : (uniq ls).Nodup := nubTo_nodup ls _
theorem uniq_mem (ls : List (List Nat)) (x : List Nat) : x ∈ uniq ls ↔ x ∈ ls := by
  rw [uniq, nubTo_mem ls x _ (Nat.le_refl _), List.take_length]

namespace SE
section
variable {prog : Program} {w : World} {A : Around} {R : Result → Shared → Prop} {J : Addr} {fp wr : List Addr} {G : Array GenState → Array GenState → Prop} {n : Nat} {P : Nat → Value → Prop} {St : Nat → Shared → Prop}
noncomputable abbrev Has (prog : Program) (w : World) (h : Heap) (D : Addr) (ms : List (List Nat)) : Prop := h.SetOf (PySem.strKind prog w) D (fun x => decide (x.cps.toList ∈ ms)) ms.length
theorem Has.at {h h' : Heap} {D : Addr} {ms : List (List Nat)} (x : Has prog w h D ms) (k : ∀ o, h.get? D = some o → h'.get? D = some o) : Has prog w h' D ms := by
  obtain ⟨o, es, ep, tb, ho, r⟩ := x
  exact ⟨o, es, ep, tb, k o ho, r⟩
theorem loop (W : WalksS prog w A.in1 J fp wr G n P St) {D : Addr} (hD : D ∉ fp) (ls : List (List Nat)) (hv : ∀ i v, P i v → ∃ t, v = Value.str (tx (ls.getD i [])) t) (hn : n + 1 < scanBound) :
    ∀ (k i : Nat) (s : Shared), n - i = k → i ≤ n → St i s → Has prog w s.heap D (nubTo ls i) →
      (∀ s', Moved (D :: wr) G s s' → Has prog w s'.heap D (nubTo ls n) → R (.ok (.ret .none)) s') → codeAny (model prog w) A (.builtin "set.update.loop" ⟨[.ref D, .ref J], []⟩) R s := by
  have hDw : D ∉ wr := fun z => hD (W.sub _ z)
  have up : ∀ b ∈ wr, b ∈ D :: wr := fun b hb => .tail _ hb
  intro k
  induction k with
  | zero =>
    intro i s hk hi st hs hR
    obtain rfl : i = n := by omega
    refine codeAny_builtin PyProof.Rows.F.entry_set_update_loop ?_
    rw [Around.under_plainId PyProof.Rows.F.plain_set_update_loop]
    refine wpAny_bind (m := pyNext (.ref J)) (W.done s _ _ st fun s2 mv => ?_)
    exact (show wpAny _ A.in1 (ret Value.none) _ _ s2 from wpAny_pure (hR s2 (mv.mono up) (hs.at fun o e => mv.heap D o hDw e)))
  | succ k ih =>
    intro i s hk hi st hs hR
    have hlt : i < n := by omega
    refine codeAny_builtin PyProof.Rows.F.entry_set_update_loop ?_
    rw [Around.under_plainId PyProof.Rows.F.plain_set_update_loop]
    refine wpAny_bind (m := pyNext (.ref J)) (W.item i s _ _ hlt st fun v s2 pv st2 mv => ?_)
    obtain ⟨t, rfl⟩ := hv i v pv
    have hs2 := hs.at fun o e => mv.heap D o hDw e
    refine wpAny_bind (m := holding [Value.str (tx (ls.getD i [])) t] (setAdd D (.str (tx (ls.getD i [])) t))) (wpAny_holding ?_)
    unfold setAdd
    refine wpAny_holding (wpAny_bind ((PySem.strKind prog w).pyHash (k := tx (ls.getD i [])) (strKind_is _ _ _ _) ?_))
    have hl := nubTo_len ls i
    refine wpAny_setAddHashed_of (knd := PySem.strKind prog w) (s := { s2 with toks := s2.toks + 1 }) (strKind_is _ _ _ _) rfl hs2 (by omega) fun h3 sb x3 => ?_
    have x4 : Has prog w h3 D (nubTo ls (i + 1)) := by
      refine PyProof.Rows.SetOf_congr x3 (fun y => ?_) ?_
      · rw [nubTo]
        split
        · rename_i hm
          rw [Bool.eq_iff_iff, Bool.or_eq_true, decide_eq_true_iff, decide_eq_true_iff]
          constructor
          · rintro (q | q)
            · exact q
            · rw [q, tx_cps]
              exact hm
          · exact .inl
        · rw [Bool.eq_iff_iff, Bool.or_eq_true, decide_eq_true_iff, decide_eq_true_iff, decide_eq_true_iff, List.mem_append, List.mem_singleton]
          constructor
          · rintro (q | q)
            · exact .inl q
            · right
              rw [q, tx_cps]
          · rintro (q | q)
            · exact .inl q
            · right
              rw [← q, tx_eta]
      · rw [tx_cps, nubTo]
        by_cases hm : ls.getD i [] ∈ nubTo ls i
        · rw [if_pos hm, if_pos (decide_eq_true hm)]
        · rw [if_neg hm, if_neg (by rw [decide_eq_false hm]; exact Bool.false_ne_true), List.length_append]
          rfl
    refine wpAny_pure ⟨plainId_quiet PyProof.Rows.F.plain_set_update_loop _, ih (i + 1) _ (by omega) hlt (W.frame _ s2 _ _ st2 (Nat.le_succ _) fun b hb o e => (sb.2 b fun z => hD (z ▸ hb)).trans e) x4 fun s5 m5 x5 => ?_⟩
    refine hR s5 (Moved.trans W.gtrans ((mv.mono up).then_heap (Nat.le_succ _) fun b o hb e => (sb.2 b fun z => hb (z ▸ .head _)).trans e) m5) x5

variable {E : Value → Shared → Prop} {s : Shared}
theorem call_of {l : Addr} {its : Array Value} {ls : List (List Nat)} {Q : Value → Shared → Prop} (hh : A.handled = none) (hl : s.heap.IsList l its) (hv : ∀ i v, its[i]? = some v → ∃ t, v = Value.str (tx (ls.getD i [])) t) (hn : its.size + 1 < scanBound)
    (h : ∀ (h' : Heap) (tk : Nat), Has prog w h' s.heap.objs.size (nubTo ls its.size) → (∀ b o, s.heap.get? b = some o → h'.get? b = some o) → Q (.ref s.heap.objs.size) { s with heap := h', toks := tk }) :
    wpAny (model prog w) A (call (.type "set") [.ref l]) Q E s := by
  obtain ⟨mc, mt, f0⟩ := F.called_set.mro
  have f1 := F.called_set.made; have f2 := F.called_set.sub; have f3 := F.called_set.notType; have f4 := F.called_set.canCreate; have f5 := F.typeCall_set_1 (.ref l)
  refine wpAny_call (codeAny_of_tree (show wpAny _ _ (callAny (.type "set") _) _ _ _ from wpAny_pure ⟨Code.quiet_builtin _ (by decide +kernel), codeAny_builtin F.entry_type_call ?_⟩))
  rw [Around.under_plain (weight_type_call_type "set" [.ref l] []) rfl]
  repeat (any_goals (first | wp_step | assumption))
  refine codeAny_mono (code_set_new_1 (.ref l) (E := E) (Q₁ := fun ob s1 => ∃ b : Bool, ob = .ref s.heap.objs.size ∧ s1 = { s with heap := s.heap.push { cls := .type "set", dict := none, data := .set #[] 0 (.fresh 0 0 b) } }) fun b => ⟨b, rfl, rfl⟩) fun r s1 hr => ?_
  cases r with
  | error e => exact hr
  | ok fl =>
    cases fl with
    | ret ob =>
      obtain ⟨b, rfl, rfl⟩ := hr
      generalize hob : ({ cls := .type "set", dict := none, data := .set #[] 0 (.fresh 0 0 b) } : Obj) = ob
      have hD : (s.heap.push ob).get? s.heap.objs.size = some ob := Heap.get?_push_size _ (by rw [← hob]; rfl)
      have hT : Shared.TypeIs { s with heap := s.heap.push ob } (.ref s.heap.objs.size) "set" := ⟨_, hD, by rw [← hob]⟩
      have f6 := F.called_set.init.lookup; have f7 := F.called_set.init.bind (.ref s.heap.objs.size)
      repeat (any_goals (first | wp_step | assumption))
      refine codeAny_mono (codeAny_call_builtin (R := wants (fun r s2 => r = .none ∧ ∃ h' tk, s2 = { s with heap := h', toks := tk } ∧ Has prog w h' s.heap.objs.size (nubTo ls its.size) ∧ ∀ b o, s.heap.get? b = some o → h'.get? b = some o) E)
        F.called_set.init.plain F.entry_set_init (check_set_init_1 hT ?_)) fun r2 s2 hr2 => ?_
      · obtain ⟨⟨oc, od, odt, osl⟩, hol, hcl, nl, hdl⟩ := id hl
        simp only at hcl hdl
        subst hcl hdl
        have hol' : (s.heap.push ob).get? l = some { cls := .type "list", dict := od, data := .seq its nl, slots := osl } := Heap.get?_push_of_some _ hol
        have f8 := F.sub_list_set; have f9 := F.sub_list_frozenset
        have f10 : (Value.type "list" == Value.type "dict") = false := by decide
        have hl1 : (s.heap.push ob).IsList l its := ⟨_, hol', rfl, nl, rfl⟩
        subst hob
        unfold Builtin.«set.__init__» noKeywords Builtin.Frozenset.updateFrom
        generalize hPI : pyIter = PI
        wp_walk
        subst hPI
        refine wpAny_pyIter_list hl1 ?_
        refine wpAny_bind (wpAny_runValue ?_)
        have hlt : l < s.heap.objs.size := Heap.lt_size hol
        have hh3 : A.in1.in1.in1.handled = none := by simp [hh]
        have hsz : (s.heap.push { cls := .type "set", dict := none, data := .set #[] 0 (.fresh 0 0 b) }).objs.size = s.heap.objs.size + 1 := Heap.size_push _ _
        have hne : l ≠ (s.heap.push { cls := .type "set", dict := none, data := .set #[] 0 (.fresh 0 0 b) }).objs.size := by rw [hsz]; exact Nat.ne_of_lt (Nat.lt_succ_of_lt hlt)
        have hfp : s.heap.objs.size ∉ [(s.heap.push { cls := .type "set", dict := none, data := .set #[] 0 (.fresh 0 0 b) }).objs.size, l] := by
          rw [hsz]
          intro z
          rcases List.mem_cons.mp z with e | e
          · exact Nat.ne_of_lt (Nat.lt_succ_self _) e
          · exact Nat.ne_of_gt hlt (List.mem_singleton.mp e)
        refine loop ((Walks.list hh3 _ l hne its).toS) (D := s.heap.objs.size) hfp ls hv hn (its.size - 0) 0 _ (by omega) (Nat.zero_le _) ⟨⟨_, Heap.get?_push_size _ rfl, rfl, rfl⟩, hl1.push _⟩ ?_ fun s3 mv x3 => ?_
        · have hg : ((s.heap.push { cls := .type "set", dict := none, data := .set #[] 0 (.fresh 0 0 b) }).push { cls := .type "list_iterator", data := .fields #[.ref l, .int 0 0] }).get? s.heap.objs.size = some { cls := .type "set", dict := none, data := .set #[] 0 (.fresh 0 0 b) } := Heap.get?_push_of_some _ hD
          exact PyProof.Rows.SetOf_congr ((PyProof.Rows.setObjOf_fresh (knd := PySem.strKind prog w) b).setOf hg (by unfold scanBound; omega)) (fun _ => rfl) rfl
        · obtain ⟨h3, g3, d3, tk3, os3⟩ := s3
          obtain rfl : g3 = s.gens := mv.gens
          obtain rfl : d3 = s.drawn := mv.drawn
          obtain rfl : os3 = s.os := mv.os
          refine wpAny_pure (show wpAny _ _ (ret Value.none) _ _ _ from wpAny_pure ⟨rfl, h3, tk3, rfl, x3, fun c o e => ?_⟩)
          have hc := Heap.lt_size e
          exact mv.heap c o (show c ∉ [s.heap.objs.size, (s.heap.push { cls := .type "set", dict := none, data := .set #[] 0 (.fresh 0 0 b) }).objs.size] by
            rw [hsz]
            intro z
            rcases List.mem_cons.mp z with e | e
            · exact Nat.ne_of_lt hc e
            · exact Nat.ne_of_lt (Nat.lt_succ_of_lt hc) (List.mem_singleton.mp e)) (Heap.get?_push_of_some _ (Heap.get?_push_of_some _ e))
      · cases r2 with
        | error e => exact hr2
        | ok fl2 =>
          cases fl2 with
          | ret r =>
            obtain ⟨rfl, h3, tk, rfl, x3, k3⟩ := hr2
            repeat (any_goals (first | wp_step | assumption))
            exact h _ _ x3 k3
          | _ => exact hr2.elim
    | _ => exact hr.elim
end
end SE

noncomputable def SetT (P : Program) (w : World) (D : Addr) (ms : List (List Nat)) : HO := .ext fun h => SE.Has P w h D ms
section
variable {X : Cx}
theorem str_at {ls : List (List Nat)} {us : List Value} (r : Vals (ls.map T) us) {i : Nat} {v : Value} (h : us[i]? = some v) : ∃ t, v = Value.str (tx (ls.getD i [])) t := by
  have hl := r.length
  rw [List.length_map] at hl
  have hi : i < ls.length := by have := (List.getElem?_eq_some_iff.mp h).1; omega
  obtain ⟨u, h1, h2⟩ := r.get (i := i) (x := T ls[i]) (by rw [List.getElem?_map, List.getElem?_eq_getElem hi]; rfl)
  rw [h] at h1
  cases h1
  rw [List.getD_eq_getElem?_getD, List.getElem?_eq_getElem hi]
  exact h2
theorem call_setT (hc : X.calm = true) : CallR X (.type "set") (fun xs H Q => ∃ (p : Addr) (ls : List (List Nat)), xs = [.ref p] ∧ SqL X.K H p (ls.map T) ∧ ls.length + 1 < 4096 ∧ ∀ D, H D = none → Q (.ref D) (upd H D (SetT X.prog X.w D (uniq ls)))) := by
  intro pins s σ H xs us Q I r h
  obtain ⟨p, ls, rfl, hq, hz, q⟩ := h
  obtain ⟨u, rfl, ru⟩ := vals1 r
  cases ru
  obtain ⟨its, rv, pl, _⟩ := I.list hq
  have hlen := rv.length
  rw [List.length_map] at hlen
  refine SE.call_of (I.ok.hd hc) pl.isList (ls := ls) (fun i v e => str_at rv (by simpa using e)) (by rw [List.size_toArray]; unfold scanBound; omega) fun h' tk x k => ?_
  have e : nubTo ls its.toArray.size = uniq ls := by rw [List.size_toArray, ← hlen]; rfl
  rw [e] at x
  have hf : H s.heap.objs.size = none := I.hok.fresh (Nat.le_refl _)
  refine ⟨.ref s.heap.objs.size, _, I.laid (t' := tk) k (Nat.le_refl _) (o := SetT X.prog X.w s.heap.objs.size (uniq ls)) ?_, rfl, q _ hf⟩
  refine ⟨x, ?_, fun h1 h2 x1 kk => x1.at kk⟩
  obtain ⟨o, _, _, _, ho, _⟩ := x
  exact ⟨o, ho⟩
theorem call_lenS : CallR X (.builtin "len") (fun xs H Q => ∃ (D : Addr) (ms : List (List Nat)), xs = [.ref D] ∧ H D = some (SetT X.prog X.w D ms) ∧ Q (.int (ms.length : Nat)) H) := by
  intro pins s σ H xs us Q I r h
  obtain ⟨D, ms, rfl, hD, q⟩ := h
  obtain ⟨u, rfl, ru⟩ := vals1 r
  cases ru
  obtain ⟨⟨o, es, ep, tb, ho, hex, hd, _, _, hb, hf, hn⟩, _⟩ := (show ObjOk X.prog X.w H s.heap D (SetT X.prog X.w D ms) from I.hok D _ hD)
  have hb' : es.size < 4096 := hb
  exact call_len_set ho hex hd hf (by omega) ⟨.int (ms.length : Nat), H, I.tok _, ⟨s.toks + 1, by rw [← hn]⟩, q⟩

end
end L2

set_option Elab.async false
set_option linter.all false
set_option maxRecDepth 100000
set_option maxHeartbeats 4000000

namespace L2
open PySem PySem.Spec PyProof.Rows
section
variable {X : Cx}
namespace LM
end LM
theorem ix_list_K (K : PySem.W.Frag) (hK : X.K = K) : IxR X (rIxL K) := by
  subst hK
  exact ix_list
end
end L2

set_option Elab.async false
set_option linter.all false
set_option maxRecDepth 100000
set_option maxHeartbeats 4000000

namespace L2
open PySem PySem.Spec PyProof.Rows

noncomputable def Itx (l : List Nat) : It := ⟨fun i _ => i < l.length, fun i H x H' => H' = H ∧ ∃ c, l[i]? = some c ∧ x = T [c], fun i _ => l.length ≤ i⟩
theorem turn_text {P : Program} {w : World} {K : PySem.W.Frag} {tg : Expr} {it : Addr} {ty : String} {l : List Nat} {t : Tok} (hty : ty = "str_ascii_iterator" ∨ ty = "str_iterator")
    (W : ∀ A : Around, A.handled = none → Walks P w A it [it] [it] (tx l).cps.size (SignAt (tx l)) (fun i h => h.IsStrIter it ty (tx l) t i)) : Turn P w K tg (Itx l) [it] it (fun i h => h.IsStrIter it ty (tx l) t i) where
  mem := by simp
  obj := fun i h st b hb => by
    have e : b = it := by simpa using hb
    subst e
    obtain ⟨o, e, c, d⟩ := st
    exact ⟨o, e, fun v z => by rw [d] at z; cases z⟩
  keep := fun i h h' st k => by
    obtain ⟨o, e, r⟩ := st
    exact ⟨o, k it (by simp) o e, r⟩
  item := by
    intro X hP hw hK hc i pins s σ H E I hf st hg
    subst hP hw hK
    obtain ⟨f0, f1, f2, f3, f4, f5⟩ := hf it (by simp)
    refine (W X.A (I.ok.hd hc)).item i s _ _ (by have : i < l.length := hg; simpa [tx] using this) st fun v h' tk hv st' kk => ?_
    obtain ⟨c, u, hcu, rfl⟩ := hv
    have I1 : Inv X pins σ H { s with heap := h', toks := tk } := I.turned (fun b o hb e => kk b o (by simpa using hb) e) f0 f1 f3 f4 f5
    obtain ⟨o, e, cl, d⟩ := id st'
    refine ⟨_, rfl, go_of (s := { s with heap := h', toks := tk }) (n := ty) e cl d (by rcases hty with rfl | rfl <;> decide) ⟨T [c], H, I1, ⟨u, rfl⟩, ⟨rfl, c, ?_, rfl⟩, st', fun b hb => (hf b hb).1⟩⟩
    simpa [tx] using hcu
  done := by
    intro X hP hw hK hc i pins s σ H E I hf st hg
    subst hP hw hK
    obtain ⟨f0, f1, f2, f3, f4, f5⟩ := hf it (by simp)
    have hn : l.length ≤ i := hg
    obtain ⟨o, e, cl, d⟩ := id st
    rcases hty with rfl | rfl
    · exact wpAny_pyNext_ascii_end (I.ok.hd hc) st (by simpa [tx] using hn) fun h' eb => ⟨rfl, I.turned (t' := s.toks) (fun b o hb e => eb b o hb e) f0 f1 f3 f4 f5⟩
    · exact wpAny_pyNext_wide_end (I.ok.hd hc) st (by simpa [tx] using hn) fun h' eb => ⟨rfl, I.turned (t' := s.toks) (fun b o hb e => eb b o hb e) f0 f1 f3 f4 f5⟩
  self := fun A i s Q E st h => by
    rcases hty with rfl | rfl
    · exact wpAny_pyIter_striter_ascii st h
    · exact wpAny_pyIter_striter_wide st h
noncomputable def iStr (tl : TE) : TI := fun σ H R => tl σ H fun x H1 => ∃ l, x = T l ∧ R (Itx l) H1
section
variable {X : Cx} {tg : Expr}
theorem pi_str {e : Expr} {tl : TE} (hl : PE X e tl) : PI X tg e (iStr tl) := by
  intro pins s σ H R I h
  refine thn (hl pins s σ H _ I h) fun v s1 ⟨x, H1, I1, r1, q1⟩ => ?_
  obtain ⟨l, rfl, q⟩ := q1
  obtain ⟨t, rfl⟩ := r1
  have fin : ∀ (ty : String) (o : Obj), (ty = "str_ascii_iterator" ∨ ty = "str_iterator") → (∀ A : Around, A.handled = none → Walks X.prog X.w A s1.heap.objs.size [s1.heap.objs.size] [s1.heap.objs.size] (tx l).cps.size (SignAt (tx l)) (fun i h => h.IsStrIter s1.heap.objs.size ty (tx l) t i)) →
      (s1.heap.push o).IsStrIter s1.heap.objs.size ty (tx l) t 0 → PIE X pins σ tg R (.ref s1.heap.objs.size) { s1 with heap := s1.heap.push o } := fun ty o hty W st => by
    refine ⟨s1.heap.objs.size, [s1.heap.objs.size], _, _, H1, rfl, I1.kept (t' := s1.toks) fun b o e => Heap.get?_push_of_some _ e, turn_text hty W, st, fun b hb => ?_, q⟩
    have e : b = s1.heap.objs.size := by simpa using hb
    subst e
    exact I1.fpOk (Nat.le_refl _) (I1.hok.fresh (Nat.le_refl _))
  cases ha : (tx l).cps.all (· < 128)
  · exact wpAny_pyIter_wide ha (fin "str_iterator" _ (.inr rfl) (fun A hA => Walks.strWide hA _ (tx l) t) ⟨_, Heap.get?_push_size _ rfl, rfl, rfl⟩)
  · exact wpAny_pyIter_ascii ha (fin "str_ascii_iterator" _ (.inl rfl) (fun A hA => Walks.strAscii hA _ (tx l) t) ⟨_, Heap.get?_push_size _ rfl, rfl, rfl⟩)
end
theorem for_text {l : List Nat} {g : TG} {tb : TS} {D : Ends} {σ : St} {H : Hp} (Pv : Nat → St → Hp → Prop) (h0 : Pv 0 σ H)
    (hs : ∀ i c σ H, l[i]? = some c → Pv i σ H → g (T [c]) σ H fun σ2 H2 => tb { D with nx := Pv (i + 1), ct := Pv (i + 1), bk := D.nx } σ2 H2) (hd : ∀ σ H, Pv l.length σ H → D.nx σ H) :
    ∃ W : Nat → Nat → St → Hp → Prop, (∃ m, W 0 m σ H) ∧ ∀ i m σ H, W i m σ H →
      ((Itx l).stop i H ∧ D.nx σ H) ∨ ((Itx l).go i H ∧ ∃ N : St → Hp → Prop, (∀ σ' H', N σ' H' → ∃ m', m' < m ∧ W (i + 1) m' σ' H') ∧ ∀ x H', (Itx l).yld i H x H' → g x σ H' fun σ2 H2 => tb { D with nx := N, ct := N, bk := D.nx } σ2 H2) := by
  refine ⟨fun i m σ H => m = l.length - i ∧ i ≤ l.length ∧ Pv i σ H, ⟨l.length, by simp, Nat.zero_le _, h0⟩, ?_⟩
  rintro i m σ H ⟨rfl, hi, p⟩
  by_cases hlt : i < l.length
  · refine .inr ⟨hlt, Pv (i + 1), fun σ' H' p' => ⟨l.length - (i + 1), by omega, rfl, hlt, p'⟩, fun x H' y => ?_⟩
    obtain ⟨rfl, c, hc, rfl⟩ := y
    exact hs i c σ _ hc p
  · obtain rfl : i = l.length := by omega
    exact .inl ⟨Nat.le_refl _, hd σ H p⟩

section
variable {X : Cx}
theorem op_notin_sT : OpR X (compareOp .NotIn) (fun x y H Q => ∃ c, x = T [c] ∧ ∃ l, y = T l ∧ Q (.bl (!decide (c ∈ l))) H) := by
  intro pins s σ H x y v u Q I rx ry h
  obtain ⟨c, e1, l, e2, q⟩ := h
  exact op_notin_str pins s σ H x y v u Q I rx ry ⟨tx [c], tx l, e1, e2, by rw [show tx [c] = ⟨#[c]⟩ from rfl, StrLaws.found_one, tx_cps]; exact q⟩
theorem mt_index6 : MtR X "str.index" (fun x xs H Q => x = T [97, 98, 99, 100, 101, 102] ∧ ∃ c : Nat, xs = [T [c]] ∧ (97 ≤ c ∧ c ≤ 102) ∧ Q (.int ((c - 97 : Nat) : Int)) H) := by
  intro pins s σ H x xs v us Q I rx rs h
  obtain ⟨rfl, c, rfl, hc, q⟩ := h
  obtain ⟨t, rfl⟩ := rx
  obtain ⟨u, rfl, ru⟩ := vals1 rs
  obtain ⟨t', rfl⟩ := ru
  have key : ∀ d : Nat, d < 6 → Builtin.Str.occurrences (tx [97, 98, 99, 100, 101, 102]) (tx [97 + d]) 0 (tx [97, 98, 99, 100, 101, 102]).length 1 = [d] := by decide +kernel
  have e := key (c - 97) (by omega)
  rw [show 97 + (c - 97) = c by omega] at e
  exact SC.index e ⟨.int ((c - 97 : Nat) : Int), H, I.tok _, ⟨_, rfl⟩, q⟩

namespace RV
variable {prog : Program} {w : World} {A : Around} {E : Value → Shared → Prop} {s : Shared}
end RV
end
end L2

set_option Elab.async false
set_option linter.all false
set_option maxRecDepth 100000
set_option maxHeartbeats 4000000

namespace L2
open PySem PySem.Spec PyProof.Rows

section
variable {P : Program} {w : World} {K : PySem.W.Frag} {mg : Str → Option Value} {base : Heap}
theorem Fun.okN {x qual : Str} {st : Stmt} {f : Addr} {fd : FuncData} {N ps : List Str} {k : Nat} {sp : Sp} (F : Fun K x qual st f fd) (S : FnScope N ps (defScope st)) (len : ∀ vs H Q E, sp vs H Q E → vs.length = ps.length)
    (hbody : ∀ (cdv : Value) (A : Around) (outer : List Env) (s : Shared) (H : Hp) (vs : List V) (Q : VK) (E : XK), Room k (A.deeper (envOfC qual (defScope st) s.heap.objs.size f cdv)) → sp vs H Q E →
      ∃ t, PSs (cxOf (CX1 P w) P w K mg base N qual (defScope st) f cdv A outer s H E).nox (defBody st) t ∧ t { nx := fun _ H' => Q .non H', rt := Q } (start N vs) H) : FnOk P w K mg base (CX1 P w) (k + 1) f fd ps sp := by
  obtain ⟨oc, od, kV, doc, pm, an, cdv, ct, osl, rfl, lk, hcd⟩ := F.ex
  refine fn_of lk hcd S len fun A outer s H vs Q E hr hsp => ?_
  obtain ⟨t, h, q⟩ := hbody cdv A outer s H vs Q E hr hsp
  exact ⟨t, h.nox, q⟩
end

namespace EX
open PySem.W PySem.Calls PySem.Builtin PySem.Builtin.ObjectAttr PySem.Builtin.Getset_descriptor
variable {prog : Program} {w : World} {A : Around} {E : Value → Shared → Prop} {s : Shared} {K : PySem.W.Frag} {a C : Addr}
end EX
section
variable {X : Cx}
end
end L2

set_option Elab.async false
set_option linter.all false
set_option maxRecDepth 100000
set_option maxHeartbeats 4000000

namespace L2
open PySem PySem.Spec PyProof.Rows
section
variable {X : Cx} {es : List Expr} {te : TE} {t : TA}
theorem pa_cC {c : Const} {j : Nat} {p : Pos} (ha : PE X (.Constant c j p) te) (hr : PA X es t) : PA X (.Constant c j p :: es) (tCons te t) := pa_cons ha hr rfl
theorem pa_cN {x : Str} {p : Pos} (ha : PE X (.Name x p) te) (hr : PA X es t) : PA X (.Name x p :: es) (tCons te t) := pa_cons ha hr rfl
theorem pa_cB {a b : Expr} {o : Operator} {p : Pos} (ha : PE X (.BinOp a o b p) te) (hr : PA X es t) : PA X (.BinOp a o b p :: es) (tCons te t) := pa_cons ha hr rfl
theorem pa_cU {a : Expr} {o : UnaryOp} {p : Pos} (ha : PE X (.UnaryOp o a p) te) (hr : PA X es t) : PA X (.UnaryOp o a p :: es) (tCons te t) := pa_cons ha hr rfl
theorem pa_cK {f : Expr} {as : List Expr} {ks : List Keyword} {p : Pos} (ha : PE X (.Call f as ks p) te) (hr : PA X es t) : PA X (.Call f as ks p :: es) (tCons te t) := pa_cons ha hr rfl
theorem pa_cS {a b : Expr} {p : Pos} (ha : PE X (.Subscript a b p) te) (hr : PA X es t) : PA X (.Subscript a b p :: es) (tCons te t) := pa_cons ha hr rfl
end
end L2

set_option Elab.async false
set_option linter.all false
set_option maxRecDepth 100000
set_option maxHeartbeats 4000000

namespace L2
open PySem PySem.Spec PyProof.Rows
noncomputable def Itd (lo : Int) (n : Nat) : It where
  go := fun i _ => i < n
  stop := fun i _ => n ≤ i
  yld := fun i H x H' => x = .int (lo - i) ∧ H' = H
theorem size_down (a b : Int) : Builtin.Range.rangeSize a b (-1) = ((a - b).toNat : Int) := by
  unfold Builtin.Range.rangeSize
  rw [if_neg (by decide), show (-(-1 : Int)) = 1 from rfl, Int.ediv_one]
  split <;> omega
theorem small_down {a b : Int} (ha : -(2 ^ 62) ≤ a) (ha' : a < 2 ^ 62) (hb : -(2 ^ 62) ≤ b) (hb' : b < 2 ^ 62) : Builtin.Range.small a b (-1) = true := by
  unfold Builtin.Range.small
  rw [size_down]
  simp only [Builtin.Range.rangeFitsLong, Bool.and_eq_true, Bool.or_eq_true, decide_eq_true_eq, beq_iff_eq, show ¬ ((-1 : Int) > 0) by decide, if_false]
  omega
theorem turn_down {P : Program} {w : World} {K : PySem.W.Frag} {tg : Expr} (it : Addr) (lo : Int) (n : Nat) : Turn P w K tg (Itd lo n) [it] it (fun i h => IsRangeIter h it (lo + (i : Nat) * (-1)) ((n : Int) - (i : Nat)) (-1)) where
  mem := by simp
  obj := fun i h st b hb => by
    obtain rfl : b = it := by simpa using hb
    exact ⟨_, st, fun v z => by
      have z' : Data.fields _ = Data.cell v := z
      cases z'⟩
  keep := fun i h h' st k => k it (by simp) _ st
  item := by
    intro X hP hw hK hc i pins s σ H E I hf st hg
    subst hP hw hK
    obtain ⟨f0, f1, f2, f3, f4, f5⟩ := hf it (by simp)
    have W := Walks.range (prog := X.prog) (w := X.w) (I.ok.hd hc) it lo (-1) n
    refine W.item i s _ _ hg st fun v h' tk hv st' kk => ?_
    obtain ⟨t, rfl⟩ := hv
    have I1 : Inv X pins σ H { s with heap := h', toks := tk } := I.turned (fun b o hb e => kk b o (by simpa using hb) e) f0 f1 f3 f4 f5
    refine ⟨_, rfl, go_of (s := { s with heap := h', toks := tk }) (n := "range_iterator") st' rfl rfl (by decide) ⟨.int (lo - i), H, I1, ⟨t, ?_⟩, ⟨rfl, rfl⟩, st', fun b hb => (hf b hb).1⟩⟩
    rw [show lo + (i : Int) * -1 = lo - i by omega]
  done := by
    intro X hP hw hK hc i pins s σ H E I hf st hg
    subst hP hw hK
    obtain ⟨f0, f1, f2, f3, f4, f5⟩ := hf it (by simp)
    exact wpAny_pyNext_range_end (I.ok.hd hc) st (by have g : n ≤ i := hg; omega) fun h' eb => ⟨rfl, I.turned (t' := s.toks) (fun b o hb e => eb b o hb e) f0 f1 f3 f4 f5⟩
  self := fun _ _ _ _ _ st h => wpAny_pyIter_rangeiter st h
section
variable {X : Cx} {tg : Expr}
theorem down_it {pins : List (Addr × Obj)} {σ : St} {H : Hp} {s : Shared} {R : It → Hp → Prop} {E : Value → Shared → Prop} {lo hi : Int} {t u v : Tok} {tk : Nat} (I : Inv X pins σ H s) (h1 : -(2 ^ 62) ≤ lo) (h2 : lo < 2 ^ 62) (h3 : -(2 ^ 62) ≤ hi) (h4 : hi < 2 ^ 62)
    (q : R (Itd lo (lo - hi).toNat) H) : wpAny (model X.prog X.w) X.A (pyIter (.ref s.heap.objs.size)) (PIE X pins σ tg R) E { s with heap := s.heap.push { cls := .type "range", data := .fields #[.int lo t, .int hi u, .int (-1) v] }, toks := tk } := by
  refine wpAny_pyIter_range (IsRange.new ..) (small_down h1 h2 h3 h4) ?_
  have I1 : Inv X pins σ H { s with heap := s.heap.push { cls := .type "range", data := .fields #[.int lo t, .int hi u, .int (-1) v] }, toks := tk } := I.kept fun b o e => Heap.get?_push_of_some _ e
  generalize hh : s.heap.push { cls := .type "range", data := .fields #[.int lo t, .int hi u, .int (-1) v] } = hp at I1 ⊢
  refine ⟨hp.objs.size, [hp.objs.size], _, _, H, rfl, I1.kept (t' := tk) fun b o e => Heap.get?_push_of_some _ e, turn_down _ lo (lo - hi).toNat, ?_, fun b hb => ?_, q⟩
  · show IsRangeIter _ _ (lo + ((0 : Nat) : Int) * (-1)) ((((lo - hi).toNat : Nat) : Int) - ((0 : Nat) : Int)) (-1)
    rw [show lo + ((0 : Nat) : Int) * (-1) = lo by simp, show ((((lo - hi).toNat : Nat) : Int) - ((0 : Nat) : Int)) = Builtin.Range.rangeSize lo hi (-1) by rw [size_down]; omega]
    exact Heap.get?_push_size _ rfl
  · obtain rfl : b = hp.objs.size := by simpa using hb
    exact I1.fpOk (Nat.le_refl _) (I1.hok.fresh (Nat.le_refl _))
noncomputable def iRng3 (ta : TA) : TI := fun σ H R => ta σ H fun vs H1 => ∃ i j : Int, vs = [.int i, .int j, .int (-1)] ∧ (-(2 ^ 62) ≤ i ∧ i < 2 ^ 62 ∧ -(2 ^ 62) ≤ j ∧ j < 2 ^ 62) ∧ R (Itd i (i - j).toNat) H1
theorem pi_range3 {a b c : Expr} {ta : TA} {p pos : Pos} (hg : Gl X "range") (hm : X.mg "range" = none) (ha : PA X [a, b, c] ta) (hs : starEach [a, b, c] X.env = [(false, eval a X.env), (false, eval b X.env), (false, eval c X.env)] := by rfl) (hs2 : starEach [b, c] X.env = [(false, eval b X.env), (false, eval c X.env)] := by rfl) :
    PI X tg (.Call (.Name "range" p) [a, b, c] [] pos) (iRng3 ta) := by
  intro pins s σ H R I h
  refine Call_ (ld_blt I hg hm boot_range (PyProof.Rows.callWith_type1 (thn (ha pos pins s σ H _ I h) fun us s1 ⟨vs, H1, I1, r1, q1⟩ => ?_) (by rw [hs, hs2]) (by rw [hs2]; rfl)))
  obtain ⟨i, j, e, ⟨q1, q2, q3, q4⟩, q⟩ := q1
  subst e
  cases r1 with
  | cons r rr =>
    cases rr with
    | cons r' rr =>
      cases rr with
      | cons r'' rr =>
        cases rr
        obtain ⟨t, rfl⟩ := r
        obtain ⟨t', rfl⟩ := r'
        obtain ⟨t'', rfl⟩ := r''
        exact call_range_3 (by decide) (down_it I1 q1 q2 q3 q4 q) (Or.inl (PyProof.noPylong_of_log2 (by decide +kernel)))
end
theorem for_down {lo : Int} {n : Nat} {g : TG} {tb : TS} {D : Ends} {σ : St} {H : Hp} (Pv : Nat → St → Hp → Prop) (h0 : Pv 0 σ H)
    (hs : ∀ i σ H, i < n → Pv i σ H → g (.int (lo - i)) σ H fun σ2 H2 => tb { D with nx := Pv (i + 1), ct := Pv (i + 1), bk := D.nx } σ2 H2) (hd : ∀ σ H, Pv n σ H → D.nx σ H) :
    ∃ W : Nat → Nat → St → Hp → Prop, (∃ m, W 0 m σ H) ∧ ∀ i m σ H, W i m σ H →
      ((Itd lo n).stop i H ∧ D.nx σ H) ∨ ((Itd lo n).go i H ∧ ∃ N : St → Hp → Prop, (∀ σ' H', N σ' H' → ∃ m', m' < m ∧ W (i + 1) m' σ' H') ∧ ∀ x H', (Itd lo n).yld i H x H' → g x σ H' fun σ2 H2 => tb { D with nx := N, ct := N, bk := D.nx } σ2 H2) := by
  refine ⟨fun i m σ H => m = n - i ∧ i ≤ n ∧ Pv i σ H, ⟨n, by simp, Nat.zero_le _, h0⟩, ?_⟩
  rintro i m σ H ⟨rfl, hi, p⟩
  by_cases hlt : i < n
  · refine .inr ⟨hlt, Pv (i + 1), fun σ' H' p' => ⟨n - (i + 1), by omega, rfl, hlt, p'⟩, fun x H' y => ?_⟩
    obtain ⟨rfl, rfl⟩ := y
    exact hs i σ _ hlt p
  · obtain rfl : i = n := by omega
    exact .inl ⟨Nat.le_refl _, hd σ H p⟩
end L2

set_option Elab.async false
set_option linter.all false
set_option maxRecDepth 100000
namespace L2
open PySem
section
variable {X : Cx} {N' : List Str} {scope : Scope} {x : Str} {px : Pos} {elt iter cd : Expr} {pos : Pos} {te : TE} {tc : TT} {wi : TI}

theorem pe_compf (S : CompSc X.N N' X.env.scope scope x) (hc : X.calm = true) (hi : PI X (.Name x px) iter wi) (ht : ∀ cl C s H fp, PT (cxComp X N' scope cl C s H fp) cd tc) (he : ∀ cl C s H fp, PE (cxComp X N' scope cl C s H fp) elt te)
    (hs : ∀ x, foldedSetIterable iter X.env x = pure x := by intro _; rfl) : PE X (.ListComp elt [⟨.Name x px, iter, [cd], 0⟩] scope pos) (tCompF wi tc te) :=
  pe_compx (at' := fun σ Q => compAtF tc te σ Q) S hc hi (fun cl C s H fp => ptl_one (ht cl C s H fp)) he (fun _ _ _ _ h => h) hs
theorem ps_setCompf {i : Nat} {y : Str} {py spos : Pos} (S : CompSc X.N N' X.env.scope scope x) (hc : X.calm = true) (hi : PI X (.Name x px) iter wi) (ht : ∀ cl C s H fp, PT (cxComp X N' scope cl C s H fp) cd tc) (he : ∀ cl C s H fp, PE (cxComp X N' scope cl C s H fp) elt te)
    (hN : X.N.Nodup) (hy : X.N[i]? = some y) (hyl : X.env.scope.names.lookup y = some .local)
    (hsw : swapsWith (.ListComp elt [⟨.Name x px, iter, [cd], 0⟩] scope pos) (some (.Name y py)) spos.line X.env = pure true := by rfl)
    (hs : ∀ x, foldedSetIterable iter X.env x = pure x := by intro _; rfl) : PS X (.Assign [.Name y py] (.ListComp elt [⟨.Name x px, iter, [cd], 0⟩] scope pos) spos) (tAsg (tCompF wi tc te) (gName i)) :=
  ps_setCompx (at' := fun σ Q => compAtF tc te σ Q) S hc hi (fun cl C s H fp => ptl_one (ht cl C s H fp)) he (fun _ _ _ _ h => h) hN hy hyl hsw hs
end

section
variable {X : Cx}
end
theorem take_filter {α : Type} (p : α → Bool) (l : List α) (i : Nat) (v : α) (h : l[i]? = some v) : (l.take (i + 1)).filter p = (l.take i).filter p ++ (if p v then [v] else []) := by
  rw [List.take_add_one, h, List.filter_append]
  cases hp : p v <;> simp [hp]
theorem filter_take_len {α : Type} (p : α → Bool) (l : List α) (i : Nat) : ((l.take i).filter p).length ≤ i := by
  have h1 := List.length_filter_le p (l.take i)
  rw [List.length_take] at h1
  omega
theorem compf_texts {K : PySem.W.Frag} {a : Addr} {ls : List (List Nat)} {tc : TT} {te : TE} {σ : St} {H : Hp} {Q : VK} (p : List Nat → Bool) (hl : SqL K H a (ls.map T)) (hn : ls.length ≤ sizeLine)
    (he : ∀ (i : Nat) l H', ls[i]? = some l → Same H H' → ∀ N : Bool → Hp → Prop, (∀ H'', Same H' H'' → N (p l) H'') → tc (some (T l) :: σ) H' N)
    (hv : ∀ x H' (N : V → Hp → Prop), N x H' → te (some x :: σ) H' N)
    (hq : ∀ D H', H D = none → Same H H' → H' D = some (.lst ((ls.filter p).map T)) → Q (.ref D) H') :
    compAtF tc te σ Q (Itl K a) H := by
  intro D hD
  refine ⟨fun i m ys H2 => m = ls.length - i ∧ i ≤ ls.length ∧ ys = ((ls.take i).filter p).map T ∧ Same H H2 ∧ H2 D = some (.lst ys), ⟨ls.length, rfl, Nat.zero_le _, rfl, fun b o e => ?_, upd_same⟩, ?_⟩
  · rw [upd_ne (ne_of_none e hD)]
    exact e
  · rintro i m ys H2 ⟨rfl, hi, rfl, hs, hd⟩
    by_cases hlt : i < ls.length
    · have hx : ls[i]? = some ls[i] := List.getElem?_eq_getElem hlt
      have hx2 : (ls.map T)[i]? = some (T ls[i]) := by rw [List.getElem?_map, hx]; rfl
      refine .inr ⟨⟨ls.map T, T ls[i], hs.seq hl, hx2⟩, by have := filter_take_len p ls i; rw [List.length_map]; omega, fun v H' => v = T ls[i] ∧ p ls[i] = true ∧ Same H2 H', fun v H' ⟨ev, hp, hs'⟩ => ⟨hs' D _ hd, ls.length - (i + 1), by omega, rfl, hlt, ?app, fun b o e => ?kp, upd_same⟩,
        fun H' => p ls[i] = false ∧ Same H2 H', fun H' ⟨hp, hs'⟩ => ⟨ls.length - (i + 1), by omega, rfl, hlt, ?skp, fun b o e => hs' b o (hs b o e), hs' D _ hd⟩, fun y H' hy => ?stp⟩
      case app =>
        rw [ev, take_filter p ls i _ hx, hp, List.map_append]
        rfl
      case kp =>
        rw [upd_ne (ne_of_none e hD)]
        exact hs' b o (hs b o e)
      case skp =>
        rw [take_filter p ls i _ hx, hp]
        simp
      case stp =>
        obtain ⟨e1, e2⟩ := hy
        subst e1
        have e3 := e2 _ (hs.seq hl)
        have e4 : y = T ls[i] := by rw [hx2] at e3; exact (Option.some.inj e3).symm
        subst e4
        refine he i ls[i] _ hx hs _ fun H'' h'' => ?_
        by_cases hp : p ls[i] = true
        · rw [if_pos hp]
          exact hv _ H'' _ ⟨rfl, hp, h''⟩
        · rw [if_neg hp]
          exact ⟨by simpa using hp, h''⟩
    · have e : i = ls.length := by omega
      subst e
      rw [List.take_length] at hd
      exact .inl ⟨⟨ls.map T, hs.seq hl, by rw [List.length_map]; exact Nat.le_refl _⟩, hq D H2 hD hs hd⟩
theorem cutL_take (w : List Nat) (k : Nat) : cutL w none (some (k : Int)) = w.take k := by
  unfold cutL
  rw [HT.sIx_nat, HT.sIx_none, List.drop_zero, Nat.sub_zero]
  by_cases h : k ≤ w.length
  · rw [Nat.min_eq_left h]
  · rw [Nat.min_eq_right (by omega), List.take_length, List.take_of_length_le (by omega)]
theorem compf_text {l : List Nat} {tc : TT} {te : TE} {σ : St} {H : Hp} {Q : VK} (p : Nat → Bool) (hn : l.length ≤ sizeLine)
    (he : ∀ (i : Nat) c H', l[i]? = some c → Same H H' → ∀ N : Bool → Hp → Prop, (∀ H'', Same H' H'' → N (p c) H'') → tc (some (T [c]) :: σ) H' N)
    (hv : ∀ x H' (N : V → Hp → Prop), N x H' → te (some x :: σ) H' N)
    (hq : ∀ D H', H D = none → Same H H' → H' D = some (.lst (((l.filter p).map fun c => [c]).map T)) → Q (.ref D) H') :
    compAtF tc te σ Q (Itx l) H := by
  intro D hD
  refine ⟨fun i m ys H2 => m = l.length - i ∧ i ≤ l.length ∧ ys = (((l.take i).filter p).map fun c => [c]).map T ∧ Same H H2 ∧ H2 D = some (.lst ys), ⟨l.length, rfl, Nat.zero_le _, rfl, fun b o e => ?_, upd_same⟩, ?_⟩
  · rw [upd_ne (ne_of_none e hD)]
    exact e
  · rintro i m ys H2 ⟨rfl, hi, rfl, hs, hd⟩
    by_cases hlt : i < l.length
    · have hx : l[i]? = some l[i] := List.getElem?_eq_getElem hlt
      refine .inr ⟨hlt, by have := filter_take_len p l i; rw [List.length_map, List.length_map]; omega, fun v H' => v = T [l[i]] ∧ p l[i] = true ∧ Same H2 H', fun v H' ⟨ev, hp, hs'⟩ => ⟨hs' D _ hd, l.length - (i + 1), by omega, rfl, hlt, ?app, fun b o e => ?kp, upd_same⟩,
        fun H' => p l[i] = false ∧ Same H2 H', fun H' ⟨hp, hs'⟩ => ⟨l.length - (i + 1), by omega, rfl, hlt, ?skp, fun b o e => hs' b o (hs b o e), hs' D _ hd⟩, fun y H' hy => ?stp⟩
      case app =>
        rw [ev, take_filter p l i _ hx, hp, List.map_append, List.map_append]
        rfl
      case kp =>
        rw [upd_ne (ne_of_none e hD)]
        exact hs' b o (hs b o e)
      case skp =>
        rw [take_filter p l i _ hx, hp]
        simp
      case stp =>
        obtain ⟨rfl, c, hc, rfl⟩ := hy
        have e4 : c = l[i] := by rw [hx] at hc; exact (Option.some.inj hc).symm
        refine he i c _ hc hs _ fun H'' h'' => ?_
        by_cases hp : p c = true
        · rw [if_pos hp]
          exact hv _ H'' _ ⟨by rw [e4], e4 ▸ hp, h''⟩
        · rw [if_neg hp]
          exact ⟨by rw [← e4]; simpa using hp, h''⟩
    · have e : i = l.length := by omega
      subst e
      rw [List.take_length] at hd
      exact .inl ⟨Nat.le_refl _, hq D H2 hD hs hd⟩
theorem comp_text {l : List Nat} {te : TE} {σ : St} {H : Hp} {Q : VK} (f : Nat → V) (hn : l.length ≤ sizeLine)
    (he : ∀ (i : Nat) c H', l[i]? = some c → Same H H' → ∀ N : V → Hp → Prop, (∀ H'', Same H' H'' → N (f c) H'') → te (some (T [c]) :: σ) H' N)
    (hq : ∀ D H', H D = none → Same H H' → H' D = some (.lst (l.map f)) → Q (.ref D) H') :
    compAt te σ Q (Itx l) H := by
  intro D hD
  refine ⟨fun i m ys H2 => m = l.length - i ∧ i ≤ l.length ∧ ys = (l.take i).map f ∧ Same H H2 ∧ H2 D = some (.lst ys), ⟨l.length, rfl, Nat.zero_le _, rfl, fun b o e => ?_, upd_same⟩, ?_⟩
  · rw [upd_ne (ne_of_none e hD)]
    exact e
  · rintro i m ys H2 ⟨rfl, hi, rfl, hs, hd⟩
    by_cases hlt : i < l.length
    · have hx : l[i]? = some l[i] := List.getElem?_eq_getElem hlt
      refine .inr ⟨hlt, by rw [List.length_map, List.length_take]; omega, fun v H' => v = f l[i] ∧ Same H2 H', fun v H' ⟨ev, hs'⟩ => ⟨hs' D _ hd, l.length - (i + 1), by omega, rfl, hlt, ?app, fun b o e => ?kp, upd_same⟩, fun y H' hy => ?stp⟩
      case app =>
        rw [ev, List.take_add_one, hx, List.map_append]
        rfl
      case kp =>
        rw [upd_ne (ne_of_none e hD)]
        exact hs' b o (hs b o e)
      case stp =>
        obtain ⟨rfl, c, hc, rfl⟩ := hy
        have e4 : c = l[i] := by rw [hx] at hc; exact (Option.some.inj hc).symm
        exact he i c _ hc hs _ fun H'' h'' => ⟨by rw [e4], h''⟩
    · have e : i = l.length := by omega
      subst e
      rw [List.take_length] at hd
      exact .inl ⟨Nat.le_refl _, hq D H2 hD hs hd⟩
end L2

set_option autoImplicit false
set_option linter.all false
set_option maxRecDepth 100000
namespace SR
open PySem PyProof.Rows
noncomputable def LtR (prog : Program) (w : World) (A : Around) (E : Value → Shared → Prop) (s : Shared) (κ : KeyKind) (kd : SortKind) : Prop :=
  ∀ (st : SortSt) (x y : Keyed) (a b : κ.α) (Q : Option Bool → SortSt → Prop), kindOf st = kd → κ.keyOf x.1 = some a → κ.keyOf y.1 = some b → Q (some (κ.blt a b)) st → wpS (model prog w) A E s (lt' x y) Q st
theorem ltR_of {prog : Program} {w : World} {A : Around} {E : Value → Shared → Prop} {s : Shared} {κ : KeyKind} {kd : SortKind}
    (h : ∀ (E : Value → Shared → Prop) (x y : Value) (a b : κ.α) (Q : Bool → Shared → Prop), κ.keyOf x = some a → κ.keyOf y = some b → Q (κ.blt a b) s → wpAny (model prog w) A (keyLt' kd x y) Q E s) : LtR prog w A E s κ kd := by
  intro st x y a b Q hk ha hb hq
  rw [lt'_eq]; refine wpS_bind (wpS_get ?_); rw [hk]
  exact wpS_bind (wpS_lift (wpAny_attempt (h _ x.1 y.1 a b _ ha hb ⟨rfl, wpS_pure hq⟩)))
theorem ltR_one {prog : Program} {w : World} {A : Around} {E : Value → Shared → Prop} {s : Shared} {κ : KeyKind} (hO : κ.OneLt) : LtR prog w A E s κ oneType' :=
  ltR_of fun E x y a b Q ha hb hq => by rw [keyLt'_oneType]; exact hO prog w A E s x y a b ha hb hq
set_option genInjectivity false in
structure SB (kd : SortKind) (z : Array Keyed) (st : SortSt) : Prop where
  prm : (arrOf st).Perm z
  knd : kindOf st = kd
  ffl : failedOf st = none
theorem SB.sz {kd : SortKind} {z : Array Keyed} {st : SortSt} (h : SB kd z st) : (arrOf st).size = z.size := h.prm.size_eq
noncomputable def Up (κ : KeyKind) (xs : Array Keyed) (l r : Nat) : Prop := ∀ i j, l ≤ i → i ≤ j → j < r → κ.kle (KK κ xs i) (KK κ xs j)
section
variable {prog : Program} {w : World} {A : Around} {E : Value → Shared → Prop} {s : Shared} {z : Array Keyed} {κ : KeyKind} {kd : SortKind}
theorem SB.key {st : SortSt} (h : SB kd z st) (hz : KeysOf κ z) {i : Nat} (hi : i < z.size) : ∃ x p a, (arrOf st)[i]? = some (x, p) ∧ κ.keyOf x = some a ∧ KK κ (arrOf st) i = a := by
  have hi' : i < (arrOf st).size := by rw [h.sz]; exact hi
  have hm : (arrOf st)[i] ∈ z.toList := (Array.perm_iff_toList_perm.mp h.prm).mem_iff.mp (by simp)
  obtain ⟨a, ha⟩ := hz _ hm
  have e : (arrOf st)[i]? = some (arrOf st)[i] := getElem?_pos _ i hi'
  exact ⟨(arrOf st)[i].1, (arrOf st)[i].2, a, by rw [e], ha, by unfold KK; rw [e]; simp [ha]⟩
theorem w_lt {st : SortSt} {i j : Nat} {Q : Option Bool → SortSt → Prop} (hO : LtR prog w A E s κ kd) (hB : SB kd z st) (hz : KeysOf κ z) (hi : i < z.size) (hj : j < z.size)
    (h : Q (some (κ.blt (KK κ (arrOf st) i) (KK κ (arrOf st) j))) st) : wpS (model prog w) A E s (ltAt' i j) Q st := by
  obtain ⟨x, p, a, e1, ha, ka⟩ := hB.key hz hi
  obtain ⟨y, q, b, e2, hb, kb⟩ := hB.key hz hj
  rw [ka, kb] at h
  rw [ltAt'_eq]; refine wpS_bind (wpS_get ?_); dsimp only
  rw [elem'_eq, elem'_eq, e1, e2]; refine wpS_bind (wpS_pure (wpS_bind (wpS_pure ?_)))
  exact hO st (x, p) (y, q) a b Q hB.knd ha hb h
noncomputable def upL (lo a m : Nat) : StateT SortSt Sem AscSt :=
  forIn [a:m] ((none, a) : AscSt) fun _ c => do
    let o ← ltAt' (lo + c.snd) (lo + c.snd - 1)
    match o with
    | some t => if t = true then pure (ForInStep.done (none, c.snd)) else pure (ForInStep.yield (none, c.snd + 1))
    | _ => pure (ForInStep.done (some none, c.snd))
theorem up_one {xs : Array Keyed} {l : Nat} : Up κ xs l (l + 1) := fun i j h1 h2 h3 => by
  obtain rfl : i = j := by omega
  exact KeyOrd.kle_refl _
theorem up_snoc {xs : Array Keyed} {l r : Nat} (hr : l < r) (h : Up κ xs l r) (hl : κ.kle (KK κ xs (r - 1)) (KK κ xs r)) : Up κ xs l (r + 1) := fun i j h1 h2 h3 => by
  by_cases hj : j < r
  · exact h i j h1 h2 hj
  · obtain rfl : j = r := by omega
    by_cases hi : i = j
    · subst hi; exact KeyOrd.kle_refl _
    · exact KeyOrd.kle_trans (h i (j - 1) h1 (by omega) (by omega)) hl
theorem w_up {st : SortSt} {lo a m : Nat} {Q : AscSt → SortSt → Prop} (hO : LtR prog w A E s κ kd) (hz : KeysOf κ z) (hm : lo + m ≤ z.size) (ha : 1 ≤ a) (ham : a ≤ m) (hB : SB kd z st) (hs : Up κ (arrOf st) lo (lo + a))
    (h : ∀ n, a ≤ n → n ≤ m → Up κ (arrOf st) lo (lo + n) → (n = m ∨ κ.klt (KK κ (arrOf st) (lo + n)) (KK κ (arrOf st) (lo + n - 1))) → Q (none, n) st) : wpS (model prog w) A E s (upL lo a m) Q st := by
  unfold upL
  refine wpS_forRange (I := fun x c st' => st' = st ∧ c = (none, x) ∧ Up κ (arrOf st) lo (lo + x)) ?sp ?fi ⟨rfl, rfl, hs⟩
  case fi =>
    rintro c st' ⟨rfl, rfl, hu⟩
    rw [show max a m = m by omega] at hu ⊢
    exact h m ham (Nat.le_refl _) hu (.inl rfl)
  case sp =>
    rintro x c st' hax hxm ⟨rfl, rfl, hu⟩
    dsimp only
    refine wpS_bind (w_lt hO hB hz (by omega) (by omega) ?_)
    cases hq : κ.blt (KK κ (arrOf st') (lo + x)) (KK κ (arrOf st') (lo + x - 1)) with
    | true =>
      simp only [if_true]
      exact wpS_pure (h x hax (by omega) hu (.inr hq))
    | false =>
      simp only [Bool.false_eq_true, if_false]
      exact wpS_pure ⟨rfl, rfl, up_snoc (r := lo + x) (by omega) hu hq⟩
end
end SR

set_option autoImplicit false
set_option linter.all false
set_option maxRecDepth 100000
namespace SR
open PySem PyProof.Rows
noncomputable def gal' : Bool → Keyed → Array Keyed → Nat → Nat → Nat → StateT SortSt Sem (Option Nat) := sortPriv% PySem.Builtin.gallop
section
variable {prog : Program} {w : World} {A : Around} {E : Value → Shared → Prop} {s : Shared} {z : Array Keyed} {κ : KeyKind} {kd : SortKind}
end
end SR

set_option autoImplicit false
set_option linter.all false
set_option maxRecDepth 100000
namespace SR
open PySem PyProof.Rows
section
variable {prog : Program} {w : World} {A : Around} {E : Value → Shared → Prop} {s : Shared} {z : Array Keyed} {κ : KeyKind} {kd : SortKind}
end
end SR

set_option autoImplicit false
set_option linter.all false
set_option maxRecDepth 100000
namespace SR
open PySem PyProof.Rows
section
variable {prog : Program} {w : World} {A : Around} {E : Value → Shared → Prop} {s : Shared} {κ : KeyKind} {kd : SortKind}
end
end SR

set_option autoImplicit false
set_option linter.all false
set_option maxRecDepth 100000
namespace SR
open PySem PyProof.Rows
noncomputable def rt (a : Array Keyed) (n : Nat) : List Keyed := (a.toList.take n).reverse
section
variable {prog : Program} {w : World} {A : Around} {E : Value → Shared → Prop} {s : Shared} {κ : KeyKind} {kd : SortKind}
noncomputable abbrev HiSt := Option (Array Keyed) × Nat × Nat × Array Keyed × Nat × Nat × Nat
noncomputable def hi3 (a b o : Array Keyed) (i j g p q : Nat) : StateT SortSt Sem (ForInStep HiSt) := do
  let x ← elem' a (i - 1)
  if (i - 1 == 0) = true then pure (ForInStep.done (some (a.extract 0 (i - 1) ++ b.extract 0 j ++ (o.push x).reverse), i - 1, j, o.push x, g, p, q))
  else if (decide (p < 7) && decide (q < 7)) = true then pure (ForInStep.done (none, i - 1, j, o.push x, g, p, q)) else pure (ForInStep.yield (none, i - 1, j, o.push x, g, p, q))
noncomputable def hi2 (a b o : Array Keyed) (i j g p q : Nat) : StateT SortSt Sem (ForInStep HiSt) := do
  let x ← elem' b j
  if (j == 1) = true then pure (ForInStep.done (some (b.extract 0 j ++ a.extract 0 i ++ (o.push x).reverse), i, j, o.push x, g, p, q))
  else do
    let u ← elem' a (i - 1)
    let z ← gal' true u b 0 j (j - 1)
    match z with
    | some y =>
      if j - y > 0 then
        if (y == 1) = true then pure (ForInStep.done (some (b.extract 0 y ++ a.extract 0 i ++ (o.push x ++ (b.extract y j).reverse).reverse), i, y, o.push x ++ (b.extract y j).reverse, g, p, j - y))
        else if (y == 0) = true then pure (ForInStep.done (some (a.extract 0 i ++ b.extract 0 y ++ (o.push x ++ (b.extract y j).reverse).reverse), i, y, o.push x ++ (b.extract y j).reverse, g, p, j - y))
        else hi3 a b (o.push x ++ (b.extract y j).reverse) i y g p (j - y)
      else hi3 a b (o.push x) i j g p (j - y)
    | _ => pure (ForInStep.done (some (a.extract 0 i ++ b.extract 0 j ++ (o.push x).reverse), i, j, o.push x, g, p, q))
end
end SR

set_option autoImplicit false
set_option linter.all false
set_option maxRecDepth 100000
namespace SR
open PySem PyProof.Rows
noncomputable def sg (xs : Array Keyed) (l n : Nat) : List Keyed := (xs.toList.drop l).take n
section
variable {κ : KeyKind} {kd : SortKind}
end
end SR

set_option autoImplicit false
set_option linter.all false
set_option maxRecDepth 100000
namespace SR
open PySem PyProof.Rows
section
variable {prog : Program} {w : World} {A : Around} {E : Value → Shared → Prop} {s : Shared} {z : Array Keyed} {κ : KeyKind} {kd : SortKind}
end
end SR

set_option autoImplicit false
set_option linter.all false
set_option maxRecDepth 100000
namespace SR
open PySem PyProof.Rows
section
variable {κ : KeyKind} {kd : SortKind}
end
section
variable {prog : Program} {w : World} {A : Around} {E : Value → Shared → Prop} {s : Shared} {z : Array Keyed} {κ : KeyKind} {kd : SortKind}
end
end SR

set_option autoImplicit false
set_option linter.all false
set_option maxRecDepth 100000
set_option maxHeartbeats 200000
namespace SR
open PySem PyProof.Rows PySem.Spec
section
variable {prog : Program} {w : World} {A : Around} {E : Value → Shared → Prop} {s : Shared}
end
end SR

set_option Elab.async false
set_option linter.all false
set_option maxRecDepth 100000
namespace L2
open PySem PyProof.Rows PySem.Spec
section
variable {X : Cx}
end
end L2

set_option Elab.async false
set_option linter.all false
set_option maxRecDepth 100000
namespace L2
open PySem PyProof.Rows PySem.Spec
section
variable {X : Cx}
theorem call_sumX (hc : X.calm = true) : CallR X (.builtin "sum") (fun xs H Q => ∃ (p : Addr) (ns : List Int), xs = [.ref p] ∧ SqL X.K H p (ns.map V.int) ∧ Q (.int ns.sum) H) := by
  intro pins s σ H xs us Q I r h
  obtain ⟨p, ns, rfl, hq, q⟩ := h
  obtain ⟨u, rfl, ru⟩ := vals1 r
  cases ru
  obtain ⟨its, rv, pl, _⟩ := I.list hq
  have hia := intsAre_of rv
  have hnum := hia.numsOf
  obtain ⟨ys, hx⟩ := hia.allInts.items
  have hl := pl.isList
  rw [hx] at hl
  have e : preSum (numAt ys) ys.size = ns.sum := by
    rw [preSum_eq, List.take_of_length_le (by simp)]
    rw [← hnum, show its = its.toArray.toList from by simp, hx, nums_intItems]
  exact sum_intListG (I.ok.hd hc) hl fun h' tk t' hk => ⟨.int ns.sum, H, I.kept hk, ⟨t', by rw [e]⟩, q⟩
end
end L2

namespace L2
open PySem PyProof.Rows PySem.Spec
section
variable {X : Cx}
theorem pe_bmK (K : PySem.W.Frag) (hK : X.K = K) {o e : Expr} {es : List Expr} {to : TE} {t : TA} {name : Str} {apos cpos : Pos} {T id : String} {r : V → List V → Hp → VK → Prop}
    (pa : PlainAttrs T) (slot : Slot T name id) (hty : typeOf (.builtin id) = pure (.type "method_descriptor")) (hm : MtR X id r) (ho : PE X o to) (ha : PA X (e :: es) t)
    (b1 : attributeBase o name X.env (eval o X.env) = eval o X.env := by rfl)
    (b2 : ((backTo cpos (starEach (e :: es) X.env)).all (fun x => !x.1) && (backToKw cpos (keywordEach [] X.env)).all (fun x => x.1.isSome) && decide ((e :: es).length + ([] : List Keyword).length + (if ([] : List Keyword).isEmpty then 0 else 1) < 30)) = true := by rfl)
    (b3 : (apos.endLine == cpos.line) = true := by rfl) (b4 : starEach (e :: es) X.env = (false, eval e X.env) :: starEach es X.env := by rfl) (b5 : (backTo cpos (starEach es X.env)).any (·.1) = false := by rfl) :
    PE X (.Call (.Attribute o name apos) (e :: es) [] cpos) (tBM K T r to t) := by
  subst hK
  exact pe_bm pa slot hty hm ho ha b1 b2 b3 b4 b5
end
end L2

set_option Elab.async false
set_option linter.all false
set_option maxRecDepth 100000
set_option Elab.async false
set_option linter.all false
set_option maxRecDepth 100000
namespace L2
open PySem PySem.Spec PyProof.Rows

end L2

namespace L2
open PySem PySem.Spec PyProof.Rows

section
variable (P : Program) (w : World)
end

section
variable {P : Program} {w : World} {H H' : Hp} {h h' : Heap} {a : Addr} {o : HO}
end

section
variable {P : Program} {w : World} {H : Hp} {h h' : Heap} {x e : Addr} {o' : HO}
end

section
variable {fs fs' ex ex' : List Addr} {H H1 H2 : Hp} {h h1 h2 h' : Heap} {a x e : Addr} {o : HO}
end

end L2

namespace L2
open PySem PySem.Spec PyProof.Rows

section
variable {X : Cx} {pins : List (Addr × Obj)} {σ : List (Option V)} {H H' : Hp} {s : Shared} {h' : Heap}

end

end L2

namespace L2
open PySem PySem.Spec PyProof.Rows
section
variable {X : Cx}

variable {a b : Expr} {ta tb : TE} {pos : Pos}
variable {tA tB' : TT} {rest : List Expr}
end
end L2

namespace L2
open PySem PySem.Spec PyProof.Rows

section
variable {X : Cx} {pins : List (Addr × Obj)} {σ : St} {H : Hp} {s : Shared} {a : Addr} {xs ys : List V}
end

section
variable {X : Cx} {pins : List (Addr × Obj)} {σ : St} {H : Hp} {s : Shared} {E : Value → Shared → Prop}
end

section
variable {X : Cx} {st : Stmt} {rest : List Stmt} {t u : TS} {e : Expr} {te : TE} {pos : Pos}
end

section
variable {X : Cx} {pos : Pos}
end

section
variable {X : Cx} {pos : Pos}
end

end L2

namespace L2
open PySem PySem.Spec PyProof.Rows
section
variable {X : Cx} {tg : Expr}
end

end L2

namespace L2
open PySem PySem.Spec PyProof.Rows

section
variable {X : Cx} {a b c : Expr} {ta tb tc : TE} {pos : Pos}

end

section
variable {X : Cx} {a b c : Expr} {ta tb tc : TE} {pos : Pos}
end
end L2

namespace L2
open PySem PySem.Spec PyProof.Rows

section
variable {prog : Program} {w : World} {A : Around} {E : Value → Shared → Prop} {s : Shared} {K : PySem.W.Frag} {x dx C f : Addr} {mA : Str → Option Value} {name : Str} {v : Value}

end

section
variable {P : Program} {w : World} {H H' : Hp} {h h' : Heap} {a C dx : Addr} {fs fs' : List (Str × V)}
end

section
variable {X : Cx} {pins : List (Addr × Obj)} {σ : St} {H : Hp} {s : Shared} {a C dx : Addr} {fs : List (Str × V)} {f : Str} {v : V} {A : Around} {E : Value → Shared → Prop}

end

section
variable {X : Cx} {o e value : Expr} {f : Str} {pos pos' tpos : Pos} {ta tv : TE}
end

section
variable {X : Cx} {pins : List (Addr × Obj)} {σ : St} {H : Hp} {s : Shared} {A : Around} {E : Value → Shared → Prop} {Q : Value → Shared → Prop} {c : Value} {b : Bool}
end
end L2

namespace L2
open PySem PySem.Spec PyProof.Rows

section
variable {X : Cx} {e : Expr} {es : List Expr} {te : TE} {t : TA} {pos : Pos}
end

section
variable {X : Cx} {pins : List (Addr × Obj)} {σ : St} {H : Hp} {s s' : Shared}
end

section
variable {X : Cx} {CX : CXT} {k : Nat} {f C : Addr} {fd : FuncData} {ps : List Str} {sp : Sp} {dvs : List V} {ds : List Value} {E : XK} {x m : Str} {p pos apos : Pos} {e o : Expr} {es : List Expr} {ta : TE} {t : TA}

end

section
variable {X : Cx} {CX : CXT} {k : Nat} {f C : Addr} {fd : FuncData} {ps ks : List Str} {sp : Sp} {E : XK} {x m : Str} {p pos apos kpos : Pos} {e o : Expr} {es : List Expr} {kws : List Keyword} {te ta : TE} {t tk : TA} {nm : Option Str}
variable {g : List Value → List Value → List Value} {gV : List V → List V → List V}
end

end L2

namespace L2
open PySem PySem.Spec PyProof.Rows
section
variable {X : Cx} {x : Str} {p pos : Pos} {e : Expr} {es : List Expr} {t : TA} {id T : String} {r : List V → Hp → VK → Prop}

end
end L2

namespace L2
open PySem PySem.Spec PyProof.Rows

section
variable {κ : Type} [DecidableEq κ]
noncomputable def valV (kvs : List (κ × V)) (k : κ) : Option V := (kvs.find? fun kv => decide (kv.1 = k)).map (·.2)
noncomputable def putK (kvs : List (κ × V)) (k : κ) (v : V) : List (κ × V) :=
  if (kvs.any fun kv => decide (kv.1 = k)) = true then kvs.map (fun kv => if kv.1 = k then (kv.1, v) else kv) else kvs ++ [(k, v)]
theorem valV_pos {p : κ × V} {r : List (κ × V)} {k : κ} (e : p.1 = k) : valV (p :: r) k = some p.2 := by simp [valV, List.find?_cons, e]
theorem valV_neg {p : κ × V} {r : List (κ × V)} {k : κ} (e : ¬ p.1 = k) : valV (p :: r) k = valV r k := by simp [valV, List.find?_cons, e]
theorem valV_any (k : κ) : ∀ kvs : List (κ × V), (kvs.any fun kv => decide (kv.1 = k)) = (valV kvs k).isSome
  | [] => rfl
  | p :: r => by
    rw [List.any_cons]
    by_cases e : p.1 = k
    · simp only [valV_pos e, decide_eq_true e, Bool.true_or, Option.isSome_some]
    · rw [valV_neg e, decide_eq_false e, Bool.false_or]; exact valV_any k r
theorem length_putK (kvs : List (κ × V)) (k : κ) (v : V) : (putK kvs k v).length ≤ kvs.length + 1 := by
  unfold putK
  split
  · rw [List.length_map]; omega
  · rw [List.length_append, List.length_cons, List.length_nil]; omega
theorem RelO.isSome_eq {o : Option V} {u : Option Value} (r : RelO o u) : o.isSome = u.isSome := by
  cases o with
  | none => cases u with
    | none => rfl
    | some _ => exact (show False from r).elim
  | some _ => cases u with
    | none => exact (show False from r).elim
    | some _ => rfl
theorem KV.val {kvs : List (κ × V)} {vs : List (κ × Value)} (r : KV kvs vs) (k : κ) : RelO (valV kvs k) (valueAt vs k) := by
  unfold KV at r
  induction r with
  | nil => exact True.intro
  | @cons p q ps qs h t ih =>
    obtain ⟨h1, h2⟩ := h
    by_cases e : p.1 = k
    · have e' : q.1 = k := h1.symm.trans e
      have b : valueAt (q :: qs) k = some q.2 := by simp [valueAt, List.find?_cons, e']
      rw [valV_pos e, b]; exact h2
    · have e' : ¬ q.1 = k := fun z => e (h1.trans z)
      have b : valueAt (q :: qs) k = valueAt qs k := by simp [valueAt, List.find?_cons, e']
      rw [valV_neg e, b]; exact ih
theorem KV.any {kvs : List (κ × V)} {vs : List (κ × Value)} (r : KV kvs vs) (k : κ) : (kvs.any fun kv => decide (kv.1 = k)) = vs.any fun kv => decide (kv.1 = k) := by
  unfold KV at r
  induction r with
  | nil => rfl
  | cons h t ih => rw [List.any_cons, List.any_cons, ih, h.1]
theorem KV.repl {kvs : List (κ × V)} {vs : List (κ × Value)} (r : KV kvs vs) (k : κ) {y : V} {u : Value} (ry : RelV y u) :
    KV (kvs.map fun kv => if kv.1 = k then (kv.1, y) else kv) (vs.map fun kv => if kv.1 = k then (kv.1, u) else kv) := by
  unfold KV at r ⊢
  induction r with
  | nil => exact .nil
  | @cons p q ps qs h t ih =>
    rw [List.map_cons, List.map_cons]
    refine .cons ?_ ih
    obtain ⟨h1, h2⟩ := h
    by_cases e : p.1 = k
    · rw [if_pos e, if_pos (h1.symm.trans e)]; exact ⟨h1, ry⟩
    · rw [if_neg e, if_neg (fun z => e (h1.trans z))]; exact ⟨h1, h2⟩
theorem KV.put {kvs : List (κ × V)} {vs : List (κ × Value)} (r : KV kvs vs) (k : κ) {y : V} {u : Value} (ry : RelV y u) : KV (putK kvs k y) (stored vs k u) := by
  unfold putK stored
  rw [r.any k]
  by_cases e : (vs.any fun kv => decide (kv.1 = k)) = true
  · rw [if_pos e, if_pos e]; exact r.repl k ry
  · rw [if_neg e, if_neg e]; exact Paired.snoc r ⟨rfl, ry⟩
theorem KV.length {kvs : List (κ × V)} {vs : List (κ × Value)} (r : KV kvs vs) : kvs.length = vs.length := Paired.length r
end


theorem kV_is {P : Program} {w : World} {k : Key} {u : Value} (r : RelV (kV k) u) : (mixKind P w).is k u = true := by
  cases k with
  | inl i => obtain ⟨t, e⟩ := (show ∃ t, u = Value.int i t from r); subst e; exact mixKind_int P w i t
  | inr x => obtain ⟨t, e⟩ := (show ∃ t, u = Value.str x t from r); subst e; exact mixKind_str P w x t
theorem items_are {P : Program} {w : World} : ∀ {ks : List Key} {us : List Value}, Vals (ks.map kV) us → ItemsAre (mixKind P w) ks us
  | [], _, r => by rw [List.map_nil] at r; cases r; exact .nil
  | k :: ks, _, r => by
    rw [List.map_cons] at r
    cases r with
    | cons h t => exact .cons (kV_is h) (items_are t)

noncomputable abbrev KT (H : Hp) : List (List Key × V) → List (List Key × Addr × Value) → Prop := Paired fun p q => p.1 = q.1 ∧ H q.2.1 = some (.tup (p.1.map kV)) ∧ RelV p.2 q.2.2
theorem KT.val {H : Hp} {kvs : List (List Key × V)} {xs : List (List Key × Addr × Value)} (r : KT H kvs xs) (k : List Key) : RelO (valV kvs k) ((atKey xs k).map (·.2)) := by
  induction r with
  | nil => exact True.intro
  | @cons p q ps qs h t ih =>
    obtain ⟨h1, _, h2⟩ := h
    by_cases e : p.1 = k
    · have e' : q.1 = k := h1.symm.trans e
      have b : atKey (q :: qs) k = some q.2 := by simp [atKey, List.find?_cons, e']
      rw [valV_pos e, b]; exact h2
    · have e' : ¬ q.1 = k := fun z => e (h1.trans z)
      have b : atKey (q :: qs) k = atKey qs k := by simp [atKey, List.find?_cons, e']
      rw [valV_neg e, b]; exact ih
theorem KT.repl {H : Hp} {kvs : List (List Key × V)} {xs : List (List Key × Addr × Value)} (r : KT H kvs xs) (k : List Key) {y : V} {u : Value} (ry : RelV y u) :
    KT H (kvs.map fun kv => if kv.1 = k then (kv.1, y) else kv) (xs.map (putAt k u)) := by
  induction r with
  | nil => exact .nil
  | @cons p q ps qs h t ih =>
    rw [List.map_cons, List.map_cons]
    refine .cons ?_ ih
    obtain ⟨h1, h2, h3⟩ := h
    unfold putAt
    by_cases e : p.1 = k
    · rw [if_pos e, if_pos (h1.symm.trans e)]; exact ⟨h1, h2, ry⟩
    · rw [if_neg e, if_neg (fun z => e (h1.trans z))]; exact ⟨h1, h2, h3⟩
theorem KT.put {H : Hp} {kvs : List (List Key × V)} {xs : List (List Key × Addr × Value)} (r : KT H kvs xs) (k : List Key) {b : Addr} {y : V} {u : Value} (hb : H b = some (.tup (k.map kV))) (ry : RelV y u) :
    KT H (putK kvs k y) (storedH xs k b u) := by
  have e : (kvs.any fun kv => decide (kv.1 = k)) = (atKey xs k).isSome := by
    rw [valV_any, (r.val k).isSome_eq, Option.isSome_map]
  unfold putK storedH
  rw [e]
  by_cases q : (atKey xs k).isSome = true
  · rw [if_pos q, if_pos q]; exact r.repl k ry
  · rw [if_neg q, if_neg q]; exact Paired.snoc r ⟨rfl, hb, ry⟩
theorem KT.keeps {H H' : Hp} {kvs : List (List Key × V)} {xs : List (List Key × Addr × Value)} (r : KT H kvs xs) (ht : ∀ b ys, H b = some (.tup ys) → H' b = some (.tup ys)) : KT H' kvs xs :=
  Paired.mapP r fun _ _ z => ⟨z.1, ht _ _ z.2.1, z.2.2⟩

section
variable {P : Program} {w : World} {H : Hp} {h : Heap} {a : Addr}
theorem rd_of {u : HO} (ok : HOk P w H h) (e : Rd H a u) : ObjOk P w H h a u := e.ok ok
theorem dk_rd {kvs : List (Key × V)} (ok : HOk P w H h) (e : Rd H a (.dK kvs)) : kvs.length ≤ sizeLine ∧ (a == sysModules) = false ∧ ∃ vs, KV kvs vs ∧ h.DictOf (mixKind P w) a vs :=
  show ObjOk P w H h a (.dK kvs) from rd_of ok e
theorem dk_of {kvs : List (Key × V)} (ok : HOk P w H h) (e : H a = some (.dK kvs)) : kvs.length ≤ sizeLine ∧ (a == sysModules) = false ∧ ∃ vs, KV kvs vs ∧ h.DictOf (mixKind P w) a vs := dk_rd ok (.inl e)
theorem key_of {ks : List Key} (ok : HOk P w H h) (e : H a = some (.tup (ks.map kV))) : (tupleKind (mixKind P w)).is h ks a := by
  obtain ⟨_, its, r, o, h1, h2, n, h3⟩ := (show ObjOk P w H h a (.tup (ks.map kV)) from ok a _ e)
  exact ⟨o, its.toArray, n, h1, h2, h3, by simpa using items_are r⟩
theorem dt_rd {kvs : List (List Key × V)} (ok : HOk P w H h) (e : Rd H a (.dT kvs)) : kvs.length ≤ sizeLine ∧ (a == sysModules) = false ∧
    ∃ xs, KT H kvs xs ∧ h.DictOfH (tupleKind (mixKind P w)) a xs := by
  obtain ⟨z, y, xs, r, o, es, ep, h1, h2, h3, h4, h5⟩ := (show ObjOk P w H h a (.dT kvs) from rd_of ok e)
  refine ⟨z, y, xs, r, o, es, ep, h1, h2, h3, h4, fun x hx => ?_, h5⟩
  have all : ∀ {l : List (List Key × V)} {m : List (List Key × Addr × Value)}, KT H l m → ∀ x ∈ m, (tupleKind (mixKind P w)).is h x.1 x.2.1 := by
    intro l m q
    induction q with
    | nil => intro x hx; exact nomatch hx
    | @cons p q ps qs hq t ih =>
      intro x hx
      rcases List.mem_cons.mp hx with e | hx
      · subst e
        exact key_of ok (by rw [← hq.1]; exact hq.2.1)
      · exact ih x hx
  exact all r x hx
theorem dt_of {kvs : List (List Key × V)} (ok : HOk P w H h) (e : H a = some (.dT kvs)) : kvs.length ≤ sizeLine ∧ (a == sysModules) = false ∧
    ∃ xs, KT H kvs xs ∧ h.DictOfH (tupleKind (mixKind P w)) a xs := dt_rd ok (.inl e)
end

noncomputable def DGet (H : Hp) (a : Addr) (y : V) (r : Option V) : Prop :=
  (∃ kvs k, Rd H a (.dK kvs) ∧ y = kV k ∧ r = valV kvs k) ∨ ∃ kvs k b, Rd H a (.dT kvs) ∧ y = .ref b ∧ H b = some (.tup (k.map kV)) ∧ r = valV kvs k
noncomputable def DPut (H : Hp) (a : Addr) (y v : V) (H' : Hp) : Prop :=
  (∃ kvs k, H a = some (.dK kvs) ∧ y = kV k ∧ kvs.length < sizeLine ∧ H' = upd H a (.dK (putK kvs k v))) ∨
  ∃ kvs k b, H a = some (.dT kvs) ∧ y = .ref b ∧ H b = some (.tup (k.map kV)) ∧ kvs.length < sizeLine ∧ H' = upd H a (.dT (putK kvs k v))
theorem DGet.k {H : Hp} {a : Addr} {kvs : List (Key × V)} {k : Key} (e : H a = some (.dK kvs)) : DGet H a (kV k) (valV kvs k) := .inl ⟨kvs, k, .inl e, rfl, rfl⟩
theorem DPut.k {H : Hp} {a : Addr} {kvs : List (Key × V)} {k : Key} {v : V} (e : H a = some (.dK kvs)) (hl : kvs.length < sizeLine) : DPut H a (kV k) v (upd H a (.dK (putK kvs k v))) := .inl ⟨kvs, k, e, rfl, hl, rfl⟩
section
variable {X : Cx} {pins : List (Addr × Obj)} {σ : St} {H : Hp} {s : Shared} {a : Addr} {y v : V} {u r : Value} {o : Option V} {A : Around} {E : Value → Shared → Prop}

theorem Inv.big (I : Inv X pins σ H s) : sysModules < s.heap.objs.size := by
  have h : mainGlobals < s.heap.objs.size := (I.mod.glob.keeps I.bk).lt
  exact Nat.lt_trans (by decide) h

theorem d_in {Q : Value → Shared → Prop} (hu : A.units + 1 < cLine) (I : Inv X pins σ H s) (g : DGet H a y o) (ry : RelV y u) (h : ∀ s', Inv X pins σ H s' → Q (.bool o.isSome) s') :
    wpAny (model X.prog X.w) A (compareOp .In u (.ref a)) Q E s := by
  rcases g with ⟨kvs, k, e, ey, l⟩ | ⟨kvs, k, b, e, ey, eb, l⟩
  · subst ey
    obtain ⟨z, hd, vs, rel, dd⟩ := dk_rd I.hok e
    refine wpAny_in_of (kV_is ry) hd dd.mapOf ?_
    rw [← (rel.val k).isSome_eq, ← l]
    exact h _ (I.tok _)
  · subst ey
    cases (show u = Value.ref b from ry)
    obtain ⟨z, hd, xs, rel, dd⟩ := dt_rd I.hok e
    refine wpAny_in_heap (tupleKind_room_in1 hu) (key_of I.hok eb) hd dd ?_
    have q := (rel.val k).isSome_eq
    rw [Option.isSome_map] at q
    rw [← q, ← l]
    exact h _ (I.tok _)
theorem d_write {h' : Heap} {t' : Nat} {ob : HO} (I : Inv X pins σ H s) (mu : Mut (H a)) (hs : Heap.SameBut a s.heap h') (he : ∃ q, h'.get? a = some q) (new : ObjOk X.prog X.w (upd H a ob) h' a ob) :
    Inv X pins σ (upd H a ob) { s with heap := h', toks := t' } :=
  I.write (x := a) (e := a) mu (.inl rfl) (fun b q hb z => (hs.2 b hb).trans z) he new
theorem dk_new {P : Program} {w : World} {H' : Hp} {h' : Heap} {kvs : List (Key × V)} {vs : List (Key × Value)} (z : kvs.length ≤ sizeLine) (hd : (a == sysModules) = false) (rel : KV kvs vs) (dd : h'.DictOf (mixKind P w) a vs) :
    ObjOk P w H' h' a (.dK kvs) := ⟨z, hd, vs, rel, dd⟩
theorem d_setItem {H' : Hp} {Q : Unit → Shared → Prop} (hu : A.units + 1 < cLine) (I : Inv X pins σ H s) (g : DPut H a y v H') (ry : RelV y u) (rv : RelV v r) (h : ∀ s', Inv X pins σ H' s' → Q () s') :
    wpAny (model X.prog X.w) A (setItem (.ref a) u r) Q E s := by
  rcases g with ⟨kvs, k, e, ey, l, eH⟩ | ⟨kvs, k, b, e, ey, eb, l, eH⟩
  · subst ey eH
    obtain ⟨z, hd, vs, rel, dd⟩ := dk_of I.hok e
    have hz : vs.length ≤ sizeLine := by rw [← rel.length]; exact z
    have hl : (putK kvs k v).length ≤ sizeLine := by have := length_putK kvs k v; omega
    refine wpAny_setItem_pairs (hsz := hz) (kV_is ry) dd fun h' dd' hs => h _ ?_
    have he : ∃ q, h'.get? a = some q := let ⟨q, _, _, hq, _⟩ := dd'; ⟨q, hq⟩
    exact d_write I (by rw [e]; exact True.intro) hs he (dk_new hl hd (rel.put k rv) dd')
  · subst ey eH
    cases (show u = Value.ref b from ry)
    obtain ⟨z, hd, xs, rel, dd⟩ := dt_of I.hok e
    have hz : xs.length ≤ sizeLine := by rw [← Paired.length rel]; exact z
    have hl : (putK kvs k v).length ≤ sizeLine := by have := length_putK kvs k v; omega
    refine wpAny_setItem_heap (hsz := hz) (tupleKind_room_in1 hu) (key_of I.hok eb) dd fun h' dd' hs => h _ ?_
    obtain ⟨q, es, ep, hq, h2, h3, h4, _, h5⟩ := dd'
    refine d_write I (by rw [e]; exact True.intro) hs ⟨q, hq⟩ ⟨hl, hd, _, (rel.put k eb rv).keeps fun c ys ec => ?_, q, es, ep, hq, h2, h3, h4, h5⟩
    rw [upd_ne (ne_of ec e (fun z => nomatch z))]
    exact ec
end

section
variable {X : Cx} {pins : List (Addr × Obj)} {σ : St} {H : Hp} {s : Shared} {a : Addr} {kvs : List (Key × V)} {k : Key} {u : Value} {A : Around} {E : Value → Shared → Prop}
theorem d_len {Q : Value → Shared → Prop} (I : Inv X pins σ H s) (e : Rd H a (.dK kvs)) (h : ∀ t s', Inv X pins σ H s' → Q (.int kvs.length t) s') : wpAny (model X.prog X.w) A (call (.builtin "len") [.ref a]) Q E s := by
  obtain ⟨z, hd, vs, rel, dd⟩ := dk_rd I.hok e
  refine call_len_dict hd dd (by rw [← rel.length]; rw [sizeLine_eq] at z; omega) ?_
  rw [← rel.length]
  exact h _ _ (I.tok _)
end


noncomputable def tDIn (ty td : TE) : TE := fun σ H Q => ty σ H fun y H1 => td σ H1 fun x H2 => ∃ a o, x = .ref a ∧ DGet H2 a y o ∧ Q (.bl o.isSome) H2
noncomputable def sDPut (td ty tv : TE) : TS := fun D σ H => tv σ H fun v H1 => td σ H1 fun x H2 => ty σ H2 fun y H3 => ∃ a H4, x = .ref a ∧ DPut H3 a y v H4 ∧ D.nx σ H4
section
variable {X : Cx} {o i e value : Expr} {pos pos' tpos : Pos} {td ty tv : TE}
theorem pc_din (hu : X.A.units + 1 < cLine) (hi : PE X i ty) (ho : PE X o td) : PC X .In i o (tDIn ty td) := by
  intro pins s σ H Q I h
  refine thn (hi pins s σ H _ I h) fun iv s1 ⟨y, H1, I1, ry, q1⟩ => thn (ho pins s1 σ H1 _ I1 q1) fun u s2 ⟨x, H2, I2, rx, a, ov, ex, g, q2⟩ => ?_
  subst ex
  obtain rfl : u = Value.ref a := rx
  exact d_in hu I2 g ry fun s3 I3 => ⟨.bl ov.isSome, H2, I3, rfl, q2⟩
theorem ps_dput (hu : X.A.units + 1 < cLine) (ho : PE X o td) (hi : PE X i ty) (hv : PE X value tv) (hs : swapsWith value (some (.Subscript o i pos')) pos.line X.env = pure false) :
    PS X (.Assign [.Subscript o i pos'] value pos) (sDPut td ty tv) := by
  intro pins s σ H D I h
  refine wpAny_Assign_Subscript (thn (hv pins s σ H _ I h) fun r s1 ⟨v, H1, I1, rv, q1⟩ => thn (ho pins s1 σ H1 _ I1 q1) fun u s2 ⟨x, H2, I2, rx, q2⟩ => thn (hi pins s2 σ H2 _ I2 q2) fun iv s3 ⟨y, H3, I3, ry, a, H4, ex, g, q3⟩ => ?_) hs
  subst ex
  obtain rfl : u = Value.ref a := rx
  exact d_setItem hu I3 g ry rv fun s4 I4 => ⟨σ, H4, I4, q3⟩
end


theorem dk_empty {P : Program} {w : World} {H : Hp} (h : Heap) (hb : sysModules < h.objs.size) : ObjOk P w H (h.push { cls := .type "dict", data := .dict #[] }) h.objs.size (.dK []) :=
  ⟨Nat.zero_le _, beq_eq_false_iff_ne.mpr (Ne.symm (Nat.ne_of_lt hb)), [], .nil, Heap.DictOf.new h⟩
section
variable {X : Cx} {pos : Pos}
end

noncomputable def tPairsD : List (TE × TE) → St → Hp → (List (V × V) → Hp → Prop) → Prop
  | [], _, H, Q => Q [] H
  | (tk, tv) :: r, σ, H, Q => tk σ H fun x H1 => tv σ H1 fun y H2 => tPairsD r σ H2 fun ps H3 => Q ((x, y) :: ps) H3
noncomputable abbrev VV : List (V × V) → List (Value × Value) → Prop := Paired fun p q => RelV p.1 q.1 ∧ RelV p.2 q.2
noncomputable def PPs (X : Cx) (pos : Pos) (keys : List (Option Expr)) (values : List Expr) (trs : List (TE × TE)) : Prop :=
  ∀ (pins : List (Addr × Obj)) (s : Shared) (σ : St) (H : Hp) (Q : List (V × V) → Hp → Prop), Inv X pins σ H s → tPairsD trs σ H Q →
    wpAny (model X.prog X.w) X.A (evalPairs (pairTrees keys values X.env pos)) (fun vs s' => ∃ ps H', Inv X pins σ H' s' ∧ VV ps vs ∧ Q ps H') X.xe s
theorem pps_nil {X : Cx} {pos : Pos} : PPs X pos [] [] [] := fun pins s σ H Q I h => pairTrees_nil_walk ⟨[], H, I, .nil, h⟩
theorem pps_cons {X : Cx} {pos : Pos} {k v : Expr} {ks : List (Option Expr)} {vs : List Expr} {tk tv : TE} {trs : List (TE × TE)} (hk : PE X k tk) (hv : PE X v tv) (hr : PPs X pos ks vs trs) :
    PPs X pos (some k :: ks) (v :: vs) ((tk, tv) :: trs) := fun pins s σ H Q I h =>
  pairTrees_cons_walk (thn (hk pins s σ H _ I h) fun u s1 ⟨x, H1, I1, rx, q1⟩ => thn (hv pins s1 σ H1 _ I1 q1) fun w2 s2 ⟨y, H2, I2, ry, q2⟩ =>
    thn (hr pins s2 σ H2 _ I2 q2) fun ws s3 ⟨ps, H3, I3, rel, q3⟩ => ⟨(x, y) :: ps, H3, I3, .cons ⟨rx, ry⟩ rel, q3⟩)

noncomputable def mergeK (kvs more : List (Key × V)) : List (Key × V) := more.foldl (fun acc kv => putK acc kv.1 kv.2) kvs
theorem KV.merge : ∀ {more : List (Key × V)} {rs : List (Key × Value)} {kvs : List (Key × V)} {vs : List (Key × Value)}, KV more rs → KV kvs vs → KV (mergeK kvs more) (merged vs rs) := by
  intro more rs kvs vs r
  unfold KV at r
  induction r generalizing kvs vs with
  | nil => intro q; exact q
  | @cons p q ps qs h t ih =>
    intro r0
    have e : KV (putK kvs p.1 p.2) (stored vs q.1 q.2) := by
      have := r0.put p.1 h.2
      rw [← h.1]; exact this
    exact ih e
theorem length_mergeK : ∀ (more kvs : List (Key × V)), (mergeK kvs more).length ≤ kvs.length + more.length
  | [], kvs => by show kvs.length ≤ kvs.length + 0; omega
  | p :: r, kvs => by
    have h1 := length_mergeK r (putK kvs p.1 p.2)
    have h2 := length_putK kvs p.1 p.2
    show (mergeK (putK kvs p.1 p.2) r).length ≤ _
    rw [List.length_cons]; omega
theorem carries_of {P : Program} {w : World} : ∀ {kvs : List (Key × V)} {ws : List (Value × Value)}, VV (kvs.map fun kv => (kV kv.1, kv.2)) ws → ∃ rs, Carries (mixKind P w) ws rs ∧ KV kvs rs
  | [], _, r => by rw [List.map_nil] at r; cases r; exact ⟨[], True.intro, .nil⟩
  | p :: kvs, _, r => by
    rw [List.map_cons] at r
    cases r with
    | @cons a b as bs h t =>
      obtain ⟨rs, c, q⟩ := carries_of (P := P) (w := w) t
      obtain ⟨b1, b2⟩ := b
      exact ⟨(p.1, b2) :: rs, ⟨kV_is h.1, rfl, c⟩, .cons ⟨rfl, h.2⟩ q⟩
noncomputable def tDisp (trs : List (TE × TE)) : TE := fun σ H Q => ∀ p, H p = none → tPairsD trs σ (upd H p (.dK [])) fun ps H2 => H2 p = some (.dK []) ∧ ∃ kvs : List (Key × V), ps = kvs.map (fun kv => (kV kv.1, kv.2)) ∧ kvs.length ≤ 15 ∧ Q (.ref p) (upd H2 p (.dK (mergeK [] kvs)))
theorem pe_disp {X : Cx} {pos : Pos} {keys : List (Option Expr)} {values : List Expr} {trs : List (TE × TE)} (h : PPs X pos keys values trs) (hall : keys.all (·.isSome) = true) (hl : keys.length = values.length) (h0 : keys ≠ [])
    (h15 : keys.length ≤ 15) : PE X (.Dict keys values pos) (tDisp trs) := by
  intro pins s σ H Q I q
  have hn := I.hok.fresh (Nat.le_refl s.heap.objs.size)
  have I1 := I.laid (a := s.heap.objs.size) (o := .dK []) (h' := s.heap.push { cls := .type "dict", data := .dict #[] }) (t' := s.toks) (fun _ _ q => Heap.get?_push_of_some _ q) (Nat.le_refl _) (dk_empty s.heap I.big)
  refine wpAny_Dict_walk (knd := mixKind X.prog X.w) hall hl h0 h15 (thn (h pins _ σ _ _ I1 (q _ hn)) fun ws s2 ⟨ps, H2, I2, rel, e, kvs, ep, lk, q2⟩ => ?_)
  subst ep
  obtain ⟨rs, c, rk⟩ := carries_of (P := X.prog) (w := X.w) rel
  obtain ⟨z, hd, vs0, r0, dd⟩ := dk_of I2.hok e
  cases r0
  refine ⟨rs, c, dd, fun h' dd' hs => ⟨.ref s.heap.objs.size, _, ?_, rfl, q2⟩⟩
  have hz : (mergeK [] kvs).length ≤ sizeLine := by
    have h1 := length_mergeK kvs []
    rw [List.length_nil] at h1
    rw [sizeLine_eq]; omega
  have he : ∃ q, h'.get? s.heap.objs.size = some q := let ⟨q, _, _, hq, _⟩ := dd'; ⟨q, hq⟩
  exact d_write I2 (by rw [e]; exact True.intro) hs he (dk_new hz hd (rk.merge .nil) dd')


section
variable {X : Cx} {pins : List (Addr × Obj)} {σ : St} {H : Hp} {s : Shared} {a : Addr} {y d : V} {u r : Value} {o : Option V} {A : Around} {E : Value → Shared → Prop}
end

section
variable {X : Cx} {o e f : Expr} {apos cpos : Pos} {td ty tx : TE}
end

section
variable {X : Cx} {pins : List (Addr × Obj)} {σ : St} {H : Hp} {s : Shared} {a : Addr} {kvs : List (Key × V)} {A : Around} {E : Value → Shared → Prop}
end


section
variable {X : Cx} {pins : List (Addr × Obj)} {σ : St} {H : Hp} {s : Shared} {a : Addr} {y : V} {u : Value} {A : Around} {E : Value → Shared → Prop}
end
end L2

namespace Att
open PySem PySem.W PySem.Calls PyProof.Rows

section
variable {prog : Program} {w : World} {A : Around} {E : Value → Shared → Prop} {s : Shared} {K : Frag}

end
end Att

namespace L2
open PySem PySem.Spec PyProof.Rows

end L2

namespace L2
open PySem PySem.Spec PyProof.Rows

end L2

namespace L2
open PySem PySem.Spec PyProof.Rows

section
variable {P : Program} {w : World} {K : PySem.W.Frag} {mg : Str → Option Value} {base : Heap}
end
section
variable {X : Cx}
theorem call_lenD : CallR X (.builtin "len") (fun xs H Q => ∃ a kvs, xs = [V.ref a] ∧ H a = some (.dK kvs) ∧ Q (.int kvs.length) H) := by
  intro pins s σ H xs us Q I r h
  obtain ⟨a, kvs, rfl, ha, q⟩ := h
  obtain ⟨u, rfl, ru⟩ := vals1 r
  cases ru
  exact d_len I (.inl ha) fun t s' I' => ⟨.int kvs.length, H, I', ⟨t, rfl⟩, q⟩
end

section
variable {κ : Type} [DecidableEq κ]
end
end L2


set_option Elab.async false
set_option linter.all false
set_option maxRecDepth 100000
set_option maxHeartbeats 400000
namespace L2
open PySem PySem.Spec PyProof.Rows
namespace RT
noncomputable def obj (x : Str) (t : Tok) (i : Int) : Obj := { cls := .type "reversed", data := .fields #[.str x t, rawInt i] }
noncomputable def Is (h : Heap) (a : Addr) (x : Str) (t : Tok) (i : Int) : Prop := ∃ o, h.get? a = some o ∧ o.cls = .type "reversed" ∧ o.data = .fields #[.str x t, rawInt i]
section
variable {prog : Program} {w : World} {A : Around} {E : Value → Shared → Prop} {s : Shared}
end
section
variable {prog : Program} {w : World} {A : Around} {E : Value → Shared → Prop} {s : Shared}
end
end RT
section
variable {X : Cx}
end
end L2

set_option Elab.async false
set_option linter.all false
set_option maxRecDepth 100000
namespace L2
open PySem PySem.Spec PyProof.Rows
section
variable {X : Cx}
end
end L2
namespace L2
open PySem PySem.Spec PyProof.Rows
set_option genInjectivity false in
structure Cam (P : Program) (w : World) (K : PySem.W.Frag) (mg : Str → Option Value) (base : Heap) (CX : CXT) (x : Str) (C : Addr) (k : Nat) (ps : List Str) (sp : Sp) : Prop where
  ex : ∃ (f : Addr) (fd : FuncData), FnOk P w K mg base CX k f fd ps sp ∧ Mk K C f ∧ mg x = some (.ref C) ∧ Binds K fd ps []
section
variable {X : Cx}
theorem pe_mak {CX : CXT} {x : Str} {C : Addr} {j k : Nat} {ps : List Str} {sp : Sp} {E : XK} {e : Expr} {es : List Expr} {t : TA} {p pos : Pos} (c : Cam X.prog X.w X.K X.mg X.base CX x C j ps sp) (hr : Room k X.A) (hx : Passes CX X E) (ha : PA X (e :: es) t)
    (hjk : j + 1 ≤ k := by decide) (hg : Gl X x := by rfl) (b1 : (x == ("__debug__" : Str)) = false := by decide) (b2 : starEach (e :: es) X.env = (false, eval e X.env) :: starEach es X.env := by rfl) (b3 : (backTo pos (starEach es X.env)).any (·.1) = false := by rfl) :
    PE X (.Call (.Name x p) (e :: es) [] pos) (tMake C sp [] E t) := by
  obtain ⟨f, fd, F, M, hm, hb⟩ := c.ex
  exact pe_make M F (hr.mono hjk) hg hm hb .nil hx ha b1 b2 b3
end
end L2

set_option Elab.async false
set_option linter.all false
set_option maxRecDepth 100000
set_option maxHeartbeats 4000000
namespace L2
open PySem PySem.Spec PyProof.Rows
section
variable {X : Cx}
end
namespace SE
section
variable {prog : Program} {w : World} {A : Around} {E : Value → Shared → Prop} {s : Shared}
end
end SE
section
variable {X : Cx}
end
end L2

set_option Elab.async false
set_option linter.all false
set_option maxRecDepth 100000
set_option maxHeartbeats 4000000
namespace L2
open PySem PyProof.Rows PySem.Spec
theorem on1 {α : Type} {C : List α → Prop} {us : List α} (h : us.length = 1) (k : ∀ a, C [a]) : C us := match us, h with | [a], _ => k a
theorem on2 {α : Type} {C : List α → Prop} {us : List α} (h : us.length = 2) (k : ∀ a b, C [a, b]) : C us := match us, h with | [a, b], _ => k a b
theorem on3 {α : Type} {C : List α → Prop} {us : List α} (h : us.length = 3) (k : ∀ a b c, C [a, b, c]) : C us := match us, h with | [a, b, c], _ => k a b c
theorem on4 {α : Type} {C : List α → Prop} {us : List α} (h : us.length = 4) (k : ∀ a b c d, C [a, b, c, d]) : C us := match us, h with | [a, b, c, d], _ => k a b c d
section
variable {X : Cx}
end
end L2

set_option Elab.async false
set_option linter.all false
set_option maxRecDepth 100000
namespace L2
open PySem PyProof.Rows
section
variable {X : Cx} {pins : List (Addr × Obj)} {σ : List (Option V)} {H H' : Hp} {s : Shared}
end
section
variable {X : Cx} {tg : Expr}
end
end L2
namespace L2
open PySem PyProof.Rows
section
variable {X : Cx} {o : Expr} {td : TE} {apos cpos : Pos}
end
end L2
namespace L2
open PySem PyProof.Rows PySem.Spec
section
variable {X : Cx}
end
end L2

set_option Elab.async false
set_option linter.all false
set_option maxRecDepth 100000
namespace L2
open PySem PyProof.Rows
section
variable {X : Cx}
end
end L2
namespace L2
open PySem PyProof.Rows PySem.Spec
section
variable {X : Cx}
end
end L2
namespace L2
open PySem PyProof.Rows PySem.Spec
section
variable {X : Cx}
theorem call_allB (hc : X.calm = true) : CallR X (.builtin "all") (fun xs H Q => ∃ (p : Addr) (bs : List Bool), xs = [.ref p] ∧ SqL X.K H p (bs.map V.bl) ∧ Q (.bl (bs.all id)) H) := by
  intro pins s σ H xs us Q I r h
  obtain ⟨p, bs, rfl, hq, q⟩ := h
  obtain ⟨u, rfl, ru⟩ := vals1 r
  cases ru
  obtain ⟨its, rv, pl, _⟩ := I.list hq
  have hlen := rv.length
  rw [List.length_map] at hlen
  have hat : ∀ (i : Nat) (v : Value), its.toArray[i]? = some v → v = .bool (bs.getD i false) := fun i v e => by
    have hi : i < bs.length := by
      have := (Array.getElem?_eq_some_iff.mp e).1
      rw [List.size_toArray] at this
      omega
    obtain ⟨w', e1, q1⟩ := rv.get (i := i) (x := .bl bs[i]) (by rw [List.getElem?_map, List.getElem?_eq_getElem hi]; rfl)
    rw [List.getElem?_toArray, e1] at e
    obtain rfl := Option.some.inj e
    rw [List.getD_eq_getElem?_getD, List.getElem?_eq_getElem hi]
    exact q1
  have hall : (List.range its.toArray.size).all (fun i => bs.getD i false) = bs.all id := by
    rw [List.size_toArray, ← hlen, Bool.eq_iff_iff, List.all_eq_true, List.all_eq_true]
    constructor
    · intro h b hb
      obtain ⟨i, hi⟩ := List.getElem?_of_mem hb
      have hil := (List.getElem?_eq_some_iff.mp hi).1
      have := h i (List.mem_range.mpr hil)
      rw [List.getD_eq_getElem?_getD, hi] at this
      exact this
    · intro h i hi
      have hil := List.mem_range.mp hi
      rw [List.getD_eq_getElem?_getD, List.getElem?_eq_getElem hil]
      exact h _ (List.getElem_mem hil)
  have hne : p ≠ s.heap.objs.size := by
    obtain ⟨o, ho, _⟩ := id pl.isList
    exact Nat.ne_of_lt (Heap.lt_size ho)
  refine call_all_walk (wpAny_pyIter_list pl.isList ⟨s.heap.objs.size, [s.heap.objs.size, p], [s.heap.objs.size], its.toArray.size, _, _, fun i => bs.getD i false, rfl, Walks.list (A := X.A.in1) (show X.A.in1.handled = none from I.ok.hd hc) s.heap.objs.size p hne its.toArray, ⟨⟨_, Heap.get?_push_size _ rfl, rfl, rfl⟩, pl.isList.at fun o e => Heap.get?_push_of_some _ e⟩, ?_, fun h' tk hk => ?_⟩)
  · intro i v s' Q' E' hP hQ
    rw [hat i v hP]
    exact wpAny_truthy_bool hQ
  · rw [hall]
    exact ⟨.bl _, H, I.kept (fun b o e => hk b o (by simp; exact Nat.ne_of_lt (Heap.lt_size e)) (Heap.get?_push_of_some _ e)), rfl, q⟩
end
end L2

set_option Elab.async false
set_option linter.all false
namespace L2
open PySem
section
variable {X : Cx}
end
end L2

set_option Elab.async false
set_option linter.all false
set_option maxRecDepth 100000
namespace L2
open PySem PyProof.Rows
section
variable {X : Cx}
end
end L2

set_option Elab.async false
set_option linter.all false
set_option maxRecDepth 100000
namespace ST
open PySem PySem.SetTable

noncomputable def it (M : Nat) : Nat → Nat → Nat
  | 0, i => i
  | s + 1, i => it M s ((i * 5 + 1) % M)
theorem it_add (M : Nat) : ∀ s t i, it M (s + t) i = it M t (it M s i)
  | 0, t, i => by rw [Nat.zero_add]; rfl
  | s + 1, t, i => by rw [Nat.add_right_comm]; exact it_add M s t _
noncomputable def orbit (M : Nat) : Nat → Nat → List Nat
  | 0, _ => []
  | s + 1, i => i :: orbit M s ((i * 5 + 1) % M)
theorem orbit_it {M : Nat} : ∀ {n i j : Nat}, j ∈ orbit M n i → ∃ s, s < n ∧ it M s i = j
  | n + 1, i, j, h => by
    rw [orbit, List.mem_cons] at h
    rcases h with h | h
    · exact ⟨0, by omega, h.symm⟩
    · obtain ⟨s, h1, h2⟩ := orbit_it h
      exact ⟨s + 1, by omega, h2⟩
noncomputable def full (M : Nat) : Bool := it M M 0 == 0 && (List.range M).all fun j => (orbit M M 0).contains j
theorem full_hits {M : Nat} (h : full M = true) {a j : Nat} (ha : a < M) (hj : j < M) : ∃ s, s < M ∧ it M s a = j := by
  rw [full, Bool.and_eq_true, beq_iff_eq, List.all_eq_true] at h
  have hit : ∀ x, x < M → ∃ s, s < M ∧ it M s 0 = x := fun x hx => orbit_it (by have := h.2 x (List.mem_range.mpr hx); simpa using this)
  obtain ⟨s0, h0, e0⟩ := hit a ha
  obtain ⟨s1, h1, e1⟩ := hit j hj
  rcases Nat.lt_or_ge s1 s0 with z | z
  · refine ⟨M - s0 + s1, by omega, ?_⟩
    have w : it M (M - s0) a = 0 := by rw [← e0, ← it_add, show s0 + (M - s0) = M by omega, h.1]
    rw [it_add, w, e1]
  · refine ⟨s1 - s0, by omega, ?_⟩
    rw [← e0, ← it_add, show s0 + (s1 - s0) = s1 by omega, e1]
noncomputable def Size (M : Nat) : Prop := M = 8 ∨ M = 16 ∨ M = 32 ∨ M = 64 ∨ M = 128 ∨ M = 256 ∨ M = 512
theorem Size.full {M : Nat} (h : Size M) : full M = true := by
  rcases h with rfl | rfl | rfl | rfl | rfl | rfl | rfl <;> decide +kernel
theorem Size.pos {M : Nat} (h : Size M) : 8 ≤ M := by
  rcases h with rfl | rfl | rfl | rfl | rfl | rfl | rfl <;> decide

noncomputable def lp (mask : Nat) : Nat → Nat → Nat → Nat × Nat
  | 0, i, p => (i, p)
  | s + 1, i, p => lp mask s (leap mask i p).1 (leap mask i p).2
theorem lp_add (mask : Nat) : ∀ s t i p, lp mask (s + t) i p = lp mask t (lp mask s i p).1 (lp mask s i p).2
  | 0, t, i, p => by rw [Nat.zero_add]; rfl
  | s + 1, t, i, p => by rw [Nat.add_right_comm]; exact lp_add mask s t _ _
theorem lp_p (mask : Nat) : ∀ s i p, (lp mask s i p).2 = p / 32 ^ s
  | 0, i, p => by rw [Nat.pow_zero, Nat.div_one]; rfl
  | s + 1, i, p => by
    show (lp mask s _ (p / 32)).2 = _
    rw [lp_p mask s, Nat.div_div_eq_div_mul, Nat.pow_succ, Nat.mul_comm]
theorem lp_it (mask : Nat) : ∀ s i, (lp mask s i 0).1 = it (mask + 1) s i
  | 0, i => rfl
  | s + 1, i => by
    show (lp mask s ((i * 5 + 1 + 0 / 32) % (mask + 1)) (0 / 32)).1 = _
    rw [Nat.zero_div, Nat.add_zero]
    exact lp_it mask s _
theorem lp_lt (mask : Nat) : ∀ s i p, i < mask + 1 → (lp mask s i p).1 < mask + 1
  | 0, i, p, h => h
  | s + 1, i, p, h => lp_lt mask s _ _ (Nat.mod_lt _ (Nat.succ_pos _))
theorem runEnd_ge (mask i : Nat) : i ≤ runEnd mask i := by
  unfold runEnd
  split <;> omega
theorem free_none {mask : Nat} {owner : Array (Option Nat)} : ∀ {fuel i p : Nat}, layClean.free mask owner fuel i p = none → ∀ s, s < fuel → (owner.getD (lp mask s i p).1 (some 0)).isNone = false
  | fuel + 1, i, p, h, s, hs => by
    rw [layClean.free] at h
    split at h
    · cases h
    · rename_i hf
      cases s with
      | zero =>
        have := List.find?_eq_none.mp hf 0 (List.mem_range.mpr (by have := runEnd_ge mask i; omega))
        rw [Nat.add_zero] at this
        exact Bool.eq_false_iff.mpr this
      | succ s => exact free_none h s (by omega)
theorem free_some {mask : Nat} {owner : Array (Option Nat)} : ∀ {fuel i p j : Nat}, layClean.free mask owner fuel i p = some j → (owner.getD j (some 0)).isNone = true
  | fuel + 1, i, p, j, h => by
    rw [layClean.free] at h
    split at h
    · rename_i k hf
      cases h
      have := List.find?_some hf
      exact this
    · exact free_some h
theorem free_ok {mask : Nat} {owner : Array (Option Nat)} {i p j : Nat} (hM : Size (mask + 1)) (hi : i < mask + 1) (hp : p < 2 ^ 64) (hj : j < mask + 1) (he : (owner.getD j (some 0)).isNone = true) :
    ∃ k, layClean.free mask owner (turns mask) i p = some k ∧ (owner.getD k (some 0)).isNone = true := by
  cases hf : layClean.free mask owner (turns mask) i p with
  | some k => exact ⟨k, rfl, free_some hf⟩
  | none =>
    exfalso
    have h13 : (lp mask 13 i p).2 = 0 := by
      rw [lp_p]
      exact Nat.div_eq_of_lt (Nat.lt_trans hp (by decide))
    obtain ⟨s, hs, e⟩ := full_hits hM.full (lp_lt mask 13 i p hi) hj
    have z := free_none hf (13 + s) (by unfold turns; omega)
    rw [lp_add, h13, lp_it, e, he] at z
    cases z

theorem fm_congr {α β : Type} {f g : α → Option β} : ∀ l : List α, (∀ i ∈ l, f i = g i) → l.filterMap f = l.filterMap g
  | [], _ => rfl
  | x :: l, h => by
    have ih := fm_congr l fun i hi => h i (List.mem_cons_of_mem _ hi)
    rw [List.filterMap_cons, List.filterMap_cons, h x (List.mem_cons_self ..), ih]
noncomputable def vals (N : Nat) (f : Nat → Option Nat) : List Nat := (List.range N).filterMap f
theorem fm_upd {f g : Nat → Option Nat} {j v : Nat} (hf : f j = none) (hg : g j = some v) (he : ∀ i, i ≠ j → g i = f i) : ∀ l : List Nat, l.Nodup → j ∈ l → (l.filterMap g).Perm (v :: l.filterMap f)
  | x :: l, nd, hm => by
    rw [List.nodup_cons] at nd
    by_cases e : x = j
    · subst e
      rw [List.filterMap_cons_some hg, List.filterMap_cons_none hf]
      have : l.filterMap g = l.filterMap f := fm_congr l fun i hi => he i fun z => nd.1 (z ▸ hi)
      rw [this]
    · have hm' : j ∈ l := by
        rcases List.mem_cons.mp hm with z | z
        · exact absurd z.symm e
        · exact z
      have ih := fm_upd hf hg he l nd.2 hm'
      have hx := he x e
      cases h : f x with
      | none => rw [List.filterMap_cons_none (hx.trans h), List.filterMap_cons_none h]; exact ih
      | some y =>
        rw [List.filterMap_cons_some (hx.trans h), List.filterMap_cons_some h]
        exact (ih.cons y).trans (List.Perm.swap ..)
theorem fm_full {f : Nat → Option Nat} : ∀ l : List Nat, (∀ i ∈ l, (f i).isNone = false) → (l.filterMap f).length = l.length
  | [], _ => rfl
  | x :: l, h => by
    have hx := h x (List.mem_cons_self ..)
    cases e : f x with
    | none => rw [e] at hx; cases hx
    | some y => rw [List.filterMap_cons_some e, List.length_cons, List.length_cons, fm_full l fun i hi => h i (List.mem_cons_of_mem _ hi)]
noncomputable def Good (mask : Nat) (owner : Array (Option Nat)) (k : Nat) : Prop := owner.size = mask + 1 ∧ (vals (mask + 1) fun j => owner.getD j none).Perm (List.range k)
theorem getD_some {owner : Array (Option Nat)} {j : Nat} (h : j < owner.size) : owner.getD j (some 0) = owner.getD j none := by
  simp [Array.getD, h]
theorem layStep {mask : Nat} (hM : Size (mask + 1)) {owner : Array (Option Nat)} {k : Nat} (g : Good mask owner k) (hk : k < mask + 1) (h : Int) :
    ∃ j, layClean.free mask owner (turns mask) (bits h % (mask + 1)) (bits h) = some j ∧ Good mask (owner.setIfInBounds j (some k)) (k + 1) := by
  obtain ⟨hs, hp⟩ := g
  obtain ⟨j0, hj0, he0⟩ : ∃ j, j < mask + 1 ∧ (owner.getD j (some 0)).isNone = true := by
    apply Classical.byContradiction
    intro hno
    have := fm_full (f := fun j => owner.getD j none) (List.range (mask + 1)) fun i hi => by
      have hi' := List.mem_range.mp hi
      have e := getD_some (owner := owner) (j := i) (by omega)
      cases z : (owner.getD i none).isNone with
      | false => rfl
      | true => exact absurd ⟨i, hi', by rw [e]; exact z⟩ hno
    rw [List.length_range] at this
    have h2 := hp.length_eq
    rw [List.length_range] at h2
    unfold vals at h2
    omega
  obtain ⟨j, e1, e2⟩ := free_ok hM (i := bits h % (mask + 1)) (p := bits h) (Nat.mod_lt _ (Nat.succ_pos _)) (by unfold bits; omega) hj0 he0
  have hj : j < owner.size := by
    rcases Nat.lt_or_ge j owner.size with z | z
    · exact z
    · rw [Array.getD, dif_neg (by omega)] at e2
      cases e2
  refine ⟨j, e1, by rw [Array.size_setIfInBounds]; exact hs, ?_⟩
  have hf : (fun i => owner.getD i none) j = none := by
    show owner.getD j none = none
    rw [getD_some hj] at e2
    cases z : owner.getD j none with
    | none => rfl
    | some y => rw [z] at e2; cases e2
  have hg : (fun i => (owner.setIfInBounds j (some k)).getD i none) j = some k := by
    show (owner.setIfInBounds j (some k)).getD j none = some k
    simp [Array.getD, hj]
  have q := fm_upd hf hg (fun i hi => by
    show (owner.setIfInBounds j (some k)).getD i none = owner.getD i none
    rw [Array.getD_eq_getD_getElem?, Array.getD_eq_getD_getElem?, Array.getElem?_setIfInBounds_ne (Ne.symm hi)]) (List.range (mask + 1)) List.nodup_range (List.mem_range.mpr (by omega))
  refine q.trans ?_
  rw [show List.range (k + 1) = List.range k ++ [k] from List.range_succ]
  exact (hp.cons k).trans (List.perm_append_singleton ..).symm
theorem layAll {mask : Nat} (hM : Size (mask + 1)) : ∀ (hs : List Int) (owner : Array (Option Nat)) (k : Nat), Good mask owner k → k + hs.length ≤ mask + 1 →
    ∃ o', (hs.foldl (fun acc h => do
      let (owner, k) ← acc
      let j ← layClean.free mask owner (turns mask) (bits h % (mask + 1)) (bits h)
      pure (owner.setIfInBounds j (some k), k + 1)) (some (owner, k))) = some (o', k + hs.length) ∧ Good mask o' (k + hs.length)
  | [], owner, k, g, _ => ⟨owner, rfl, g⟩
  | h :: hs, owner, k, g, hk => by
    rw [List.length_cons] at hk
    obtain ⟨j, e, g'⟩ := layStep hM g (by omega) h
    obtain ⟨o', e', g''⟩ := layAll hM hs _ _ g' (by omega)
    refine ⟨o', ?_, by rw [List.length_cons, show k + (hs.length + 1) = k + 1 + hs.length by omega]; exact g''⟩
    rw [List.foldl_cons, List.length_cons, show k + (hs.length + 1) = k + 1 + hs.length by omega, ← e']
    congr 1
    show (layClean.free mask owner (turns mask) (bits h % (mask + 1)) (bits h)).bind _ = _
    rw [e]
    rfl
theorem good_nil (mask : Nat) : Good mask (Array.replicate (mask + 1) none) 0 := by
  refine ⟨Array.size_replicate, ?_⟩
  have : vals (mask + 1) (fun j => (Array.replicate (mask + 1) (none : Option Nat)).getD j none) = [] := by
    unfold vals
    refine List.filterMap_eq_nil_iff.mpr fun i _ => ?_
    rw [Array.getD_eq_getD_getElem?, Array.getElem?_replicate]
    split <;> rfl
  rw [this]
  exact List.Perm.refl _
theorem laid_ok {mask finger moves : Nat} {led plain : Bool} {hashes : Array Int} (hM : Size (mask + 1)) (hn : hashes.size ≤ mask) :
    ∃ (t : SetTable) (order : Array Nat), laid mask finger moves led plain hashes = some (t, order) ∧ order.toList.Perm (List.range hashes.size) ∧ t.place.size = hashes.size ∧ t.mask = mask ∧ t.dummies = #[] ∧ t.led = led ∧ t.plain = plain := by
  obtain ⟨o, e, g⟩ := layAll hM hashes.toList _ 0 (good_nil mask) (by rw [Array.length_toList]; omega)
  have hc : layClean mask hashes = some o := by
    unfold layClean
    rw [← Array.foldl_toList]
    refine (congrArg (Option.map (·.1)) e).trans ?_
    rfl
  have em : ((List.range (mask + 1)).filterMap fun j => (o.getD j none).map (j, ·)).map (·.2) = vals (mask + 1) fun j => o.getD j none := by
    rw [List.map_filterMap]
    unfold vals
    refine fm_congr _ fun i _ => ?_
    cases o.getD i none <;> rfl
  have gp : (vals (mask + 1) fun j => o.getD j none).Perm (List.range hashes.size) := by
    have := g.2
    rw [Nat.zero_add, Array.length_toList] at this
    exact this
  refine ⟨_, _, by unfold laid; rw [hc]; rfl, by rw [em]; exact gp, ?_, rfl, rfl, rfl, rfl⟩
  show (((List.range (mask + 1)).filterMap fun j => (o.getD j none).map (j, ·)).map (·.1)).toArray.size = _
  have hl := congrArg List.length em
  rw [List.length_map] at hl
  rw [List.size_toArray, List.length_map, hl, gp.length_eq, List.length_range]
end ST

set_option Elab.async false
set_option linter.all false
set_option maxRecDepth 100000
set_option maxHeartbeats 4000000
namespace SS
open PySem PyProof.Rows
noncomputable def byT (w : World) : Bool := w.params.followText "set-order"
noncomputable def keyV : Value → Str
  | .str x _ => x
  | _ => Str.empty
noncomputable def El (w : World) (e : Int × Value) : Prop := e.1 = hashStr w (keyV e.2) ∧ ∃ t, e.2 = .str (keyV e.2) t
noncomputable def Els (w : World) (es : List (Int × Value)) (ms : List Str) : Prop := (∀ e ∈ es, El w e) ∧ (es.map fun e => keyV e.2).Perm ms
theorem Els.perm {w : World} {es es' : List (Int × Value)} {ms : List Str} (h : Els w es ms) (p : es'.Perm es) : Els w es' ms := ⟨fun e he => h.1 e (p.mem_iff.mp he), (p.map _).trans h.2⟩
theorem Els.of {w : World} {prog : Program} {es : List (Int × Value)} {ms : List Str} (h : Els w es ms) : ElemsOf (PySem.strKind prog w) es := fun e he => by
  obtain ⟨h1, t, h2⟩ := h.1 e he
  refine ⟨⟨keyV e.2, ?_, h1⟩, ?_⟩
  · rw [h2]
    exact strKind_is prog w _ t
  · rw [h2]
    rfl
theorem Els.len {w : World} {es : List (Int × Value)} {ms : List Str} (h : Els w es ms) : es.length = ms.length := by
  have := h.2.length_eq
  rwa [List.length_map] at this
theorem Els.has {w : World} {prog : Program} {es : List (Int × Value)} {ms : List Str} (h : Els w es ms) (k : Str) : k ∈ ms ↔ ∃ e ∈ es, (PySem.strKind prog w).is k e.2 = true := by
  rw [← h.2.mem_iff, List.mem_map]
  constructor
  · rintro ⟨e, he, rfl⟩
    obtain ⟨_, t, h2⟩ := h.1 e he
    refine ⟨e, he, ?_⟩
    conv => lhs; arg 3; rw [h2]
    exact strKind_is prog w _ t
  · rintro ⟨e, he, hk⟩
    obtain ⟨t, ht⟩ := Value.isStrOf_shape hk
    exact ⟨e, he, by rw [ht]; rfl⟩
noncomputable def Is (w : World) (h : Heap) (a : Addr) (ms : List Str) : Prop :=
  ∃ o es ep t, h.get? a = some o ∧ o.ExactSet ∧ o.data = .set es ep t ∧ Els w es.toList ms ∧ ms.Nodup ∧ es.size < scanBound ∧ t.fits es.size = true ∧ (byT w = true ∨ t.led = true) ∧ (es.size = 0 ∨ t.plain = false)
theorem Is.at {w : World} {h h' : Heap} {a : Addr} {ms : List Str} (x : Is w h a ms) (e : ∀ o, h.get? a = some o → h'.get? a = some o) : Is w h' a ms := let ⟨o, es, ep, t, ho, r⟩ := x; ⟨o, es, ep, t, e o ho, r⟩
theorem Is.there {w : World} {h : Heap} {a : Addr} {ms : List Str} (x : Is w h a ms) : ∃ o, h.get? a = some o := let ⟨o, _, _, _, ho, _⟩ := x; ⟨o, ho⟩
theorem layNew_led (t : SetTable) (es : Array (Int × Value)) (h : Int) (x : Value) : (layNew t es h x).2.1.led = t.led := by
  unfold layNew
  split
  · rename_i slot wd _
    show ((t.put slot).1.orStandIn _).led = t.led
    unfold SetTable.orStandIn
    split <;> rfl
  · rfl
theorem laid_marks {mask finger moves : Nat} {led plain : Bool} {hs : Array Int} {t : SetTable} {o : Array Nat} (h : SetTable.laid mask finger moves led plain hs = some (t, o)) : t.led = led ∧ t.plain = plain := by
  unfold SetTable.laid at h
  cases hc : SetTable.layClean mask hs with
  | none => rw [hc] at h; cases h
  | some ow =>
    rw [hc] at h
    have h' := Option.some.inj h
    rw [← (Prod.mk.inj h').1]
    exact ⟨rfl, rfl⟩
theorem relayAll_marks (t : SetTable) (es : Array (Int × Value)) (n : Nat) (hp : t.plain = false) : (relayAll t es n).2.1.led = t.led ∧ (relayAll t es n).2.1.plain = false := by
  unfold relayAll
  split
  · rename_i t' order e
    obtain ⟨h1, h2⟩ := laid_marks e
    dsimp only
    split
    · exact ⟨h1, h2.trans hp⟩
    · exact ⟨rfl, rfl⟩
  · exact ⟨rfl, rfl⟩
section
variable {prog : Program} {w : World} {A : Around} {E : Value → Shared → Prop} {s : Shared}
theorem Is.store (prog : Program) {a : Addr} {o : Obj} {es es' : Array (Int × Value)} {ep : Nat} {t t' : SetTable} {h : Heap} {ms : List Str} (ho : h.get? a = some o) (hex : o.ExactSet) (hd : o.data = .set es ep t) (hel : Els w es'.toList ms) (hnd : ms.Nodup) (hb : es'.size < scanBound) (hf : t'.fits es'.size = true)
    (hl : byT w = true ∨ t'.led = true) (hp : es'.size = 0 ∨ t'.plain = false) : (h.update a (Obj.putSet es' t')).get? a = some { o with data := .set es' (ep + 1) t' } ∧ Is w (h.update a (Obj.putSet es' t')) a ms := by
  have hg := (SetOf_store (knd := PySem.strKind prog w) (S' := fun k => decide (k ∈ ms)) ho hex hd hel.of (fun k => by rw [decide_eq_true_iff]; exact hel.has k) hb hf).1
  exact ⟨hg, _, es', ep + 1, t', hg, hex, rfl, hel, hnd, hb, hf, hl, hp⟩
theorem add_ok {a : Addr} {ms : List Str} {k : Str} {tk : Tok} {Q : Bool → Shared → Prop} (hS : Is w s.heap a ms) (hroom : ms.length + 1 < scanBound)
    (h : ∀ h' ms', Heap.SameBut a s.heap h' → Is w h' a ms' → (∀ x, x ∈ ms' ↔ x ∈ ms ∨ x = k) → ms'.length ≤ ms.length + 1 → Q (!decide (k ∈ ms)) { s with heap := h' }) :
    wpAny (model prog w) A (setAddHashed a (.str k tk) (hashStr w k)) Q E s := by
  obtain ⟨o, es, ep, t, ho, hex, hd, hel, hnd, hb, hf, hl, hp⟩ := hS
  have hn : es.size = ms.length := by rw [← hel.len, Array.length_toList]
  have hkey : (PySem.strKind prog w).is k (.str k tk) = true := strKind_is prog w k tk
  unfold setAddHashed setAddHashedIn
  refine wpAny_holding (wpAny_bind (wpAny_setState_of ho hd hf ?_))
  dsimp only
  rw [byScan_of (knd := PySem.strKind prog w) (x := .str k tk) rfl hb hel.of]
  simp only [↓reduceIte]
  unfold setAddByScan
  refine wpAny_bind (wpAny_bind (wpAny_rule (wpAny_bind (wpAny_setScan_of (knd := PySem.strKind prog w) hkey ho hd hf hel.of ?_))))
  cases hr : List.findIdx? (fun e => (PySem.strKind prog w).is k e.2) es.toList with
  | some j =>
    dsimp only
    obtain ⟨hj, hpj, _⟩ := List.findIdx?_eq_some_iff_getElem.mp hr
    have hm : k ∈ ms := (hel.has (prog := prog) k).mpr ⟨es.toList[j], List.getElem_mem hj, hpj⟩
    refine wpAny_pure (wpAny_pure ?_)
    have z := h s.heap ms (Heap.SameBut.refl a s.heap) ⟨o, es, ep, t, ho, hex, hd, hel, hnd, hb, hf, hl, hp⟩ (fun x => ⟨.inl, fun q => q.elim id fun e => e ▸ hm⟩) (by omega)
    rw [decide_eq_true hm] at z
    exact z
  | none =>
    dsimp only
    have hm : ¬ k ∈ ms := fun z => by
      obtain ⟨e, he, q⟩ := (hel.has (prog := prog) k).mp z
      have := List.findIdx?_eq_none_iff.mp hr e he
      rw [q] at this
      cases this
    have gw : ∀ (b : Bool) {s₁ : Shared} {Q' : Unit → Shared → Prop}, Q' () s₁ → wpAny (model prog w) A (match b with | true => rule "set.scan.the-table-gave-way" | false => pure ()) Q' E s₁ := fun b s₁ Q' hq => by
      cases b
      · exact wpAny_pure hq
      · exact wpAny_rule hq
    have hperm := layNew_perm t es (hashStr w k) (.str k tk)
    have hfits := layNew_fits t es (hashStr w k) (.str k tk)
    have hled := layNew_led t es (hashStr w k) (.str k tk)
    generalize hL : layNew t es (hashStr w k) (.str k tk) = L at hperm hfits hled ⊢
    obtain ⟨es1, t1, wasDummy, gave⟩ := L
    dsimp only at hperm hfits hled ⊢
    rw [Array.toList_push] at hperm
    have hel1 : Els w es1.toList (ms ++ [k]) := by
      refine Els.perm ⟨fun e he => ?_, ?_⟩ hperm
      · rcases List.mem_append.mp he with z | z
        · exact hel.1 e z
        · have e' : e = (hashStr w k, .str k tk) := by simpa using z
          rw [e']
          exact ⟨rfl, tk, rfl⟩
      · rw [List.map_append]
        exact hel.2.append_right _
    have hnd1 : (ms ++ [k]).Nodup := List.nodup_append.mpr ⟨hnd, by simp, fun x hx y hy e => hm (by have : y = k := (by simpa using hy); rw [← this, ← e]; exact hx)⟩
    have hsz1 : es1.size = ms.length + 1 := by rw [← Array.length_toList, hel1.len, List.length_append, List.length_singleton]
    have hb1 : es1.size < scanBound := by omega
    have fin : ∀ h', Heap.SameBut a s.heap h' → Is w h' a (ms ++ [k]) → Q true { s with heap := h' } := fun h' sb x => by
      have z := h h' (ms ++ [k]) sb x (fun y => by rw [List.mem_append, List.mem_singleton]) (by rw [List.length_append, List.length_singleton]; omega)
      rw [decide_eq_false hm] at z
      exact z
    have tail : ∀ t2 : SetTable, t2.fits es1.size = true → (byT w = true ∨ t2.led = true) → t2.plain = false → wpAny (model prog w) A (do
        storeSet a es1 t2
        if (!wasDummy && t2.tooFull) = true then do
            (match (relayAll t2 es1 (SetTable.grown es1.size)).2.2 with | true => rule "set.scan.the-table-gave-way" | false => pure ())
            storeSet a (relayAll t2 es1 (SetTable.grown es1.size)).1 (relayAll t2 es1 (SetTable.grown es1.size)).2.1
            pure (some true)
          else pure (some true)) (fun r s' => wpAny (model prog w) A (match r with | some added => pure added | none => setAddHashedIn a (.str k tk) (hashStr w k) 99999) Q E s') E s := fun t2 hf2 hl2 hp2 => by
      refine wpAny_bind (wpAny_storeSet_of ho hd ?_ (fits_of_scanBound hb1))
      obtain ⟨ho1, hS1⟩ := Is.store prog ho hex hd hel1 hnd1 hb1 hf2 hl2 (.inr hp2)
      have sb1 := Heap.SameBut.update s.heap a (Obj.putSet es1 t2)
      split
      · have q1 := relayAll_perm t2 es1 (SetTable.grown es1.size)
        have q2 := relayAll_fits t2 es1 (SetTable.grown es1.size)
        have q3 := relayAll_marks t2 es1 (SetTable.grown es1.size) hp2
        generalize relayAll t2 es1 (SetTable.grown es1.size) = Rl at q1 q2 q3 ⊢
        obtain ⟨es2, t3, g2⟩ := Rl
        dsimp only at q1 q2 q3 ⊢
        have hel2 := hel1.perm q1
        have hsz : es2.size = es1.size := by rw [← Array.length_toList, q1.length_eq, Array.length_toList]
        have hb2 : es2.size < scanBound := by omega
        refine wpAny_bind (gw _ (wpAny_bind (wpAny_storeSet_of ho1 rfl ?_ (fits_of_scanBound hb2))))
        obtain ⟨_, hS2⟩ := Is.store prog ho1 hex rfl hel2 hnd1 hb2 q2 (hl2.imp id fun z => q3.1.trans z) (.inr q3.2)
        exact wpAny_pure (wpAny_pure (fin _ (sb1.trans (Heap.SameBut.update _ a _)) hS2))
      · exact wpAny_pure (wpAny_pure (fin _ sb1 hS1))
    refine wpAny_bind (gw _ ?_)
    have hl1 : byT w = true ∨ t1.led = true := hl.imp id fun z => hled.trans z
    split
    · refine wpAny_bind (wpAny_pure ?_)
      simp only [Bool.false_eq_true, ↓reduceIte]
      exact tail { t1 with plain := false } (SetTable.fits_plain_off hfits) hl1 rfl
    · rename_i hpl
      refine wpAny_bind (wpAny_pure ?_)
      simp only [↓reduceIte]
      exact tail t1 hfits hl1 (Bool.eq_false_iff.mpr hpl)
end
end SS

set_option Elab.async false
set_option linter.all false
set_option maxRecDepth 100000
set_option maxHeartbeats 4000000
namespace SS
open PySem PyProof.Rows

theorem above_ok : ∀ n, n ≤ 256 → ST.Size (SetTable.sizeAbove n) ∧ n < SetTable.sizeAbove n := by
  have key : ∀ n, n < 257 → (SetTable.sizeAbove n = 8 ∨ SetTable.sizeAbove n = 16 ∨ SetTable.sizeAbove n = 32 ∨ SetTable.sizeAbove n = 64 ∨ SetTable.sizeAbove n = 128 ∨ SetTable.sizeAbove n = 256 ∨ SetTable.sizeAbove n = 512) ∧ n < SetTable.sizeAbove n := by decide +kernel
  exact fun n h => key n (by omega)
theorem reorder_perm {es : Array (Int × Value)} {order : Array Nat} (h : order.toList.Perm (List.range es.size)) : (order.filterMap (es[·]?)).toList.Perm es.toList := by
  rw [Array.toList_filterMap]
  exact (h.filterMap _).trans (by rw [filterMap_getElem?_range])
theorem erase_perm {α : Type} : ∀ (l : List α) (i : Nat) (h : i < l.length), (l[i] :: l.eraseIdx i).Perm l
  | x :: l, 0, _ => List.Perm.refl _
  | x :: l, i + 1, h => by
    have h' : i < l.length := by simpa using h
    have ih := erase_perm l i h'
    exact (List.Perm.swap x (l[i]'h') (l.eraseIdx i)).trans (ih.cons x)
theorem pick_perm {α : Type} (next : Nat → Nat) (xs : Array α) : (pickOrder next xs).toList.Perm xs.toList := by
  have key : ∀ (fuel k : Nat) (left : List α) (out : Array α), left.length = fuel → (pickOrder.go next fuel k left out).toList.Perm (out.toList ++ left) := by
    intro fuel
    induction fuel with
    | zero =>
      intro k left out hl
      obtain rfl := List.length_eq_zero_iff.mp hl
      rw [pickOrder.go, List.append_nil]
    | succ fuel ih =>
      intro k left out hl
      have hlt : next k % left.length < left.length := Nat.mod_lt _ (by omega)
      rw [pickOrder.go, List.getElem?_eq_getElem hlt]
      dsimp only
      refine (ih _ _ _ (by rw [List.length_eraseIdx_of_lt hlt]; omega)).trans ?_
      rw [Array.toList_push, List.append_assoc]
      refine List.Perm.append_left _ ?_
      exact erase_perm left _ hlt
  have z := key xs.size 0 xs.toList #[] (Array.length_toList)
  simpa [pickOrder] using z
section
variable {prog : Program} {w : World} {A : Around} {E : Value → Shared → Prop} {s : Shared}
theorem byText_ok {Q : Bool → Shared → Prop} (h : Q (byT w) s) : wpAny (model prog w) A setsByText Q E s := by
  unfold setsByText
  exact wpAny_bind (wpAny_askSetting (wpAny_pure h))
theorem relay_ok {a : Addr} {ms : List Str} {n : Nat} {Q : Unit → Shared → Prop} {o : Obj} {es : Array (Int × Value)} {ep : Nat} {t : SetTable} (ho : s.heap.get? a = some o) (hd : o.data = .set es ep t) (hf : t.fits es.size = true) (hn : n ≤ 256) (hm : es.size ≤ n)
    (h : ∀ (es' : Array (Int × Value)) (t' : SetTable), es'.toList.Perm es.toList → t'.place.size = es.size → t'.mask + 1 = SetTable.sizeAbove n → t'.dummies = #[] → t'.led = t.led → t'.plain = t.plain → Q () { s with heap := s.heap.update a (Obj.putSet es' t') }) :
    wpAny (model prog w) A (setRelay a n) Q E s := by
  obtain ⟨hM, hlt⟩ := above_ok n hn
  have h8 := hM.pos
  unfold setRelay
  refine wpAny_bind (wpAny_setState_of ho hd hf ?_)
  dsimp only
  have hs : sizeLine = 16777216 := sizeLine_eq
  have hsl : ¬ SetTable.sizeAbove n > sizeLine := by
    rcases hM with e | e | e | e | e | e | e <;> omega
  rw [if_neg hsl]
  obtain ⟨t', order, e1, e2, e3, e4, e5, e6, e7⟩ := ST.laid_ok (mask := SetTable.sizeAbove n - 1) (finger := t.finger) (moves := t.movedTo (SetTable.sizeAbove n - 1)) (led := t.led) (plain := t.plain) (hashes := es.map (·.1)) (by rw [Nat.sub_add_cancel (by omega)]; exact hM) (by rw [Array.size_map]; omega)
  have e1' : t.relaid (es.map (·.1)) n = some (t', order) := e1
  rw [e1']
  rw [Array.size_map] at e2 e3
  have hp := reorder_perm e2
  have hsz : (order.filterMap (es[·]?)).size = es.size := by rw [← Array.length_toList, hp.length_eq, Array.length_toList]
  refine wpAny_bind (m := (do
    if ((order.filterMap (es[·]?)).size != es.size) = true then unsupported "internal:set-table-lost-an-element"
    pure (order.filterMap (es[·]?), t'))) ?_
  rw [hsz, bne_self_eq_false, if_neg Bool.false_ne_true]
  refine wpAny_pure ?_
  exact wpAny_storeSet_of ho hd (h _ _ hp e3 (by rw [e4]; omega) e5 e6 e7) (by rw [hsz]; omega)
theorem quiet_ok {a b : Addr} {ms ms' : List Str} {Q : Bool → Shared → Prop} (h1 : Is w s.heap a ms) (h2 : Is w s.heap b ms') (h : Q true s) : wpAny (model prog w) A (setsQuiet [a, b]) Q E s := by
  unfold setsQuiet
  refine wpAny_bind ?_
  refine wpAny_forIn_list _ (fun rest r s' => r = (none, ()) ∧ s' = s ∧ ∀ c ∈ rest, ∃ ks, Is w s.heap c ks) _ ?_ ?_ _ _ ⟨rfl, rfl, fun c hc => ?_⟩
  · rintro c rest r s' ⟨rfl, rfl, hall⟩
    obtain ⟨ks, hc⟩ := hall c (List.mem_cons_self ..)
    obtain ⟨o, es, ep, t, ho, hex, hd, hel, hnd, hb, hf, _⟩ := hc
    refine wpAny_bind (wpAny_setEntries_of ho hd hf (wpAny_bind ?_))
    rw [← Array.forIn_toList]
    refine wpAny_forIn_list _ (fun rest r s2 => r = (none, ()) ∧ s2 = s' ∧ ∀ e ∈ rest, El w e) _ ?_ ?_ _ _ ⟨rfl, rfl, hel.1⟩
    · rintro ⟨hh, x⟩ rest2 r s2 ⟨rfl, rfl, hall2⟩
      obtain ⟨_, tk, e⟩ := hall2 _ (List.mem_cons_self ..)
      dsimp only at e ⊢
      rw [e]
      exact wpAny_pure ⟨rfl, rfl, fun u hu => hall2 u (List.mem_cons_of_mem _ hu)⟩
    · rintro r s2 ⟨rfl, rfl, _⟩
      exact wpAny_pure ⟨rfl, rfl, fun u hu => hall u (List.mem_cons_of_mem _ hu)⟩
  · rintro r s' ⟨rfl, rfl, _⟩
    exact wpAny_pure h
  · rcases List.mem_cons.mp hc with rfl | hc
    · exact ⟨ms, h1⟩
    · rcases List.mem_cons.mp hc with rfl | hc
      · exact ⟨ms', h2⟩
      · cases hc
theorem walkU {a b : Addr} {ms1 ms2 : List Str} {Q : Array (Int × Value) → Shared → Prop} (h1 : Is w s.heap a ms1) (hne : ms1 ≠ []) (h2 : Is w s.heap b ms2) (h : ∀ es : Array (Int × Value), Els w es.toList ms2 → Q es s) :
    wpAny (model prog w) A (setWalkUnseen b [a] (some a)) Q E s := by
  obtain ⟨o, es, ep, t, ho, hex, hd, hel, hnd, hb, hf, hl, hp⟩ := id h2
  unfold setWalkUnseen
  refine wpAny_bind (wpAny_setState_of ho hd hf ?_)
  dsimp only
  refine wpAny_bind (byText_ok ?_)
  have walk : ∀ Q' : Array (Int × Value) → Shared → Prop, (byT w = true ∨ es.size ≤ 1) → (∀ es' : Array (Int × Value), Els w es'.toList ms2 → Q' es' s) → wpAny (model prog w) A (setWalk b) Q' E s := fun Q' hc hQ => by
    unfold setWalk
    refine wpAny_bind (wpAny_setState_of ho hd hf ?_)
    dsimp only
    refine wpAny_bind (byText_ok ?_)
    by_cases hby : byT w = true
    · rw [if_pos hby]
      refine wpAny_bind (wpAny_askSetting (wpAny_pure (hQ _ (hel.perm (pick_perm _ _)))))
    · rw [if_neg hby]
      have h1 : es.size ≤ 1 := hc.resolve_left hby
      have hdr : (!t.plain && decide (es.size > 1)) = false := by
        rw [decide_eq_false (by omega), Bool.and_false]
      have hml : (!t.led && decide (es.size > 1)) = false := by
        rw [decide_eq_false (by omega), Bool.and_false]
      show wpAny _ _ (if (!t.plain && decide (es.size > 1)) = true then _ else _) _ _ s
      rw [hdr, if_neg Bool.false_ne_true]
      refine wpAny_bind (m := if (!t.led && decide (es.size > 1)) = true then unsupported "set:maker-not-led" else pure ()) ?_
      rw [hml, if_neg Bool.false_ne_true]
      exact wpAny_pure (wpAny_pure (hQ _ hel))
  by_cases hc : byT w = true ∨ es.size ≤ 1
  · have e : (byT w || (t.led && t.plain) || decide (es.size ≤ 1)) = true := by
      rcases hc with z | z
      · rw [z]; simp
      · rw [decide_eq_true z]; simp
    rw [e, if_pos rfl]
    exact walk _ hc h
  · have hby : byT w = false := Bool.eq_false_iff.mpr fun z => hc (.inl z)
    have hs1 : ¬ es.size ≤ 1 := fun z => hc (.inr z)
    have hpl : t.plain = false := hp.resolve_left (by omega)
    have hld : t.led = true := hl.resolve_left (by rw [hby]; exact Bool.false_ne_true)
    have e : (byT w || (t.led && t.plain) || decide (es.size ≤ 1)) = false := by
      rw [hby, hpl, decide_eq_false hs1]; simp
    rw [e, if_neg Bool.false_ne_true]
    refine wpAny_bind (quiet_ok h2 h1 ?_)
    simp only [Bool.not_true, Bool.false_eq_true, ↓reduceIte]
    refine wpAny_bind (wpAny_rule ?_)
    obtain ⟨o1, es1, ep1, t1, ho1, hex1, hd1, hel1, hnd1, hb1, hf1, hl1, hp1⟩ := id h1
    refine wpAny_bind (wpAny_setState_of ho1 hd1 hf1 ?_)
    dsimp only
    have hs0 : es1.size ≠ 0 := fun z => hne (List.length_eq_zero_iff.mp (by rw [← hel1.len, Array.length_toList]; exact z))
    have hpl1 : t1.plain = false := hp1.resolve_left hs0
    have hc2 : (t1.led && !t.led || t1.plain && !t.plain) = false := by
      rw [hld, hpl1]; simp
    rw [hc2, if_neg Bool.false_ne_true]
    exact wpAny_pure (h es hel)
theorem room_ok {a : Addr} {ms : List Str} {m : Nat} {Q : Unit → Shared → Prop} (hS : Is w s.heap a ms) (hm : ms.length + m ≤ 128) (h : ∀ h', Heap.SameBut a s.heap h' → Is w h' a ms → Q () { s with heap := h' }) : wpAny (model prog w) A (setRoomFor a m) Q E s := by
  obtain ⟨o, es, ep, t, ho, hex, hd, hel, hnd, hb, hf, hl, hp⟩ := id hS
  have hn : es.size = ms.length := by rw [← hel.len, Array.length_toList]
  have hpsz : t.place.size = es.size := by
    simp only [SetTable.fits, Bool.and_eq_true, beq_iff_eq] at hf
    exact hf.1
  unfold setRoomFor
  refine wpAny_bind (wpAny_setState_of ho hd hf ?_)
  dsimp only
  unfold SetTable.roomFor
  by_cases hc : (t.fill + m) * 5 ≥ t.mask * 3
  · rw [if_pos hc]
    refine relay_ok (ms := ms) ho hd hf (by omega) (by omega) fun es' t' p1 p2 p3 p4 p5 p6 => ?_
    have hsz : es'.size = es.size := by rw [← Array.length_toList, p1.length_eq, Array.length_toList]
    have h8 := (above_ok ((t.place.size + m) * 2) (by omega)).2
    have hf' : t'.fits es'.size = true := by
      simp only [SetTable.fits, Bool.and_eq_true, beq_iff_eq, decide_eq_true_eq, SetTable.fill, p4]
      exact ⟨by omega, by show t'.place.size + 0 ≤ t'.mask; omega⟩
    exact h _ (Heap.SameBut.update _ a _) (Is.store prog ho hex hd (hel.perm p1) hnd (by omega) hf' (hl.imp id fun z => p5.trans z) (hp.imp (fun z => by omega) fun z => p6.trans z)).2
  · rw [if_neg hc]
    exact wpAny_pure (h s.heap (Heap.SameBut.refl a _) hS)
theorem merge_on {a b : Addr} {ms1 ms2 : List Str} {each : Sem Unit} {Q : Unit → Shared → Prop} (hab : a ≠ b) (h1 : Is w s.heap a ms1) (h2 : Is w s.heap b ms2) (hne : ms1 ≠ []) (hsz : ms1.length + ms2.length ≤ 128)
    (heach : ∀ (s' : Shared) (Q' : Unit → Shared → Prop), (∀ o, s.heap.get? b = some o → s'.heap.get? b = some o) → Q' () s' → wpAny (model prog w) A each Q' E s')
    (h : ∀ h' ms', Heap.SameBut a s.heap h' → Is w h' a ms' → (∀ x, x ∈ ms' ↔ x ∈ ms1 ∨ x ∈ ms2) → ms'.length ≤ ms1.length + ms2.length → Q () { s with heap := h' }) : wpAny (model prog w) A (setMerge a b each) Q E s := by
  obtain ⟨o, es, ep, t, ho, hex, hd, hel, hnd, hb, hf, hl, hp⟩ := id h2
  have hn : es.size = ms2.length := by rw [← hel.len, Array.length_toList]
  unfold setMerge
  rw [if_neg (show ¬ ((a == b) = true) by rw [beq_iff_eq]; exact hab)]
  refine wpAny_bind (wpAny_setState_of ho hd hf ?_)
  dsimp only
  by_cases h0 : es.isEmpty = true
  · rw [if_pos h0]
    have e0 : ms2 = [] := List.length_eq_zero_iff.mp (by rw [← hn]; simpa using h0)
    exact wpAny_pure (h s.heap ms1 (Heap.SameBut.refl a _) h1 (fun x => by rw [e0]; simp) (by omega))
  rw [if_neg h0]
  refine wpAny_bind (room_ok h1 (by omega) fun h3 sb3 i3 => ?_)
  have hb3 : h3.get? b = some o := (sb3.2 b (Ne.symm hab)).trans ho
  have h2' : Is w h3 b ms2 := ⟨o, es, ep, t, hb3, hex, hd, hel, hnd, hb, hf, hl, hp⟩
  obtain ⟨o3, es3, ep3, t3, ho3, hex3, hd3, hel3, hnd3, hb3', hf3, hl3, hp3⟩ := id i3
  refine wpAny_bind (wpAny_setState_of (s := { s with heap := h3 }) ho3 hd3 hf3 ?_)
  dsimp only
  have hroad : t3.road t = .oneByOne := by
    unfold SetTable.road
    have hp : t3.place.size = es3.size := by
      simp only [SetTable.fits, Bool.and_eq_true, beq_iff_eq] at hf3
      exact hf3.1
    have hpos : 0 < es3.size := by
      rw [← Array.length_toList, hel3.len]
      exact List.length_pos_iff.mpr hne
    rw [if_pos]
    rw [bne_iff_ne]
    unfold SetTable.fill
    omega
  rw [hroad]
  dsimp only
  refine wpAny_bind (walkU (s := { s with heap := h3 }) i3 hne h2' fun es4 hel4 => wpAny_bind ?_)
  rw [← Array.forIn_toList]
  refine wpAny_forIn_list _ (fun rest _ s' => ∃ dn ms', es4.toList = dn ++ rest ∧ s' = { s with heap := s'.heap } ∧ Heap.SameBut a s.heap s'.heap ∧ Is w s'.heap a ms' ∧ (∀ x, x ∈ ms' ↔ x ∈ ms1 ∨ ∃ e ∈ dn, x = keyV e.2) ∧ ms'.length ≤ ms1.length + dn.length) _ ?_ ?_ _ _ ⟨[], ms1, rfl, rfl, sb3, i3, fun x => by simp, by simp⟩
  · rintro ⟨hh, x⟩ rest u s' ⟨dn, ms', e1, e2, sb, i4, hm, hle⟩
    obtain ⟨q1, tk, q2⟩ := hel4.1 (hh, x) (by rw [e1]; simp)
    dsimp only at q1 q2 ⊢
    have hlen : dn.length + (rest.length + 1) = ms2.length := by
      have := congrArg List.length e1
      rw [hel4.len, List.length_append, List.length_cons] at this
      omega
    rw [q2, q1]
    have sb128 : scanBound = 4096 := rfl
    refine wpAny_bind (wpAny_holding (add_ok (s := s') i4 (by omega) fun h5 ms5 sb5 i5 hm5 hl5 => ?_))
    have hb5 : h5.get? b = some o := (sb5.2 b (Ne.symm hab)).trans ((sb.2 b (Ne.symm hab)).trans ho)
    refine wpAny_bind (heach _ _ (fun o' z => ?_) ?_)
    · rw [ho] at z
      cases z
      exact hb5
    · refine wpAny_bind (wpAny_setState_of (s := { s' with heap := h5 }) hb5 hd hf ?_)
      dsimp only
      rw [bne_self_eq_false, if_neg Bool.false_ne_true]
      refine wpAny_pure ⟨dn ++ [(hh, x)], ms5, by rw [e1, List.append_assoc]; rfl, by rw [e2], sb.trans sb5, i5, fun y => ?_, by rw [List.length_append, List.length_singleton]; omega⟩
      rw [hm5, hm]
      constructor
      · rintro ((z | ⟨e, he, rfl⟩) | rfl)
        · exact .inl z
        · exact .inr ⟨e, List.mem_append_left _ he, rfl⟩
        · exact .inr ⟨(hh, x), by simp, rfl⟩
      · rintro (z | ⟨e, he, rfl⟩)
        · exact .inl (.inl z)
        · rcases List.mem_append.mp he with z | z
          · exact .inl (.inr ⟨e, z, rfl⟩)
          · have : e = (hh, x) := by simpa using z
            subst this
            exact .inr rfl
  · rintro u s' ⟨dn, ms', e1, e2, sb, i4, hm, hle⟩
    rw [List.append_nil] at e1
    rw [e2]
    refine wpAny_pure (h _ ms' sb i4 (fun x => ?_) ?_)
    · rw [hm, ← e1, ← hel4.2.mem_iff, List.mem_map]
      exact or_congr Iff.rfl ⟨fun ⟨e, he, z⟩ => ⟨e, he, z.symm⟩, fun ⟨e, he, z⟩ => ⟨e, he, z.symm⟩⟩
    · have := congrArg List.length e1
      rw [hel4.len] at this
      omega
end
end SS

set_option Elab.async false
set_option linter.all false
set_option maxRecDepth 100000
set_option maxHeartbeats 4000000
namespace SS
open PySem PyProof.Rows
section
variable {prog : Program} {w : World} {A : Around} {E : Value → Shared → Prop} {s : Shared}
noncomputable def freshO (w : World) : Obj := { cls := .type "set", dict := none, data := .set #[] 0 (.fresh 0 0 (!byT w)) }
theorem new_ok {Q : Value → Shared → Prop} (h : Q (.ref s.heap.objs.size) { s with heap := s.heap.push (freshO w) }) : wpAny (model prog w) A (newSet (.type "set")) Q E s := by
  unfold newSet
  refine wpAny_bind (byText_ok ?_)
  dsimp only
  simp only [newObj]
  exact wpAny_bind (wpAny_alloc (wpAny_pure h))
theorem Is.fresh (h : Heap) : Is w (h.push (freshO w)) h.objs.size [] := by
  refine ⟨freshO w, #[], 0, .fresh 0 0 (!byT w), Heap.get?_push_size _ rfl, ⟨rfl, rfl, rfl⟩, rfl, ⟨fun e he => by simp at he, by simp⟩, List.nodup_nil, by decide, rfl, ?_, .inl rfl⟩
  cases byT w
  · exact .inr rfl
  · exact .inl rfl
theorem room_new {a : Addr} {n : Nat} {Q : Unit → Shared → Prop} (ho1 : s.heap.get? a = some (freshO w)) (hn : n ≤ 128)
    (h : ∀ (h3 : Heap) (o3 : Obj) (ep3 : Nat) (t3 : SetTable), Heap.SameBut a s.heap h3 → h3.get? a = some o3 → o3.ExactSet → o3.data = .set #[] ep3 t3 → t3.place.size = 0 → t3.dummies = #[] → ST.Size (t3.mask + 1) → n ≤ t3.mask → (byT w = true ∨ t3.led = true) → Q () { s with heap := h3 }) :
    wpAny (model prog w) A (setRoomFor a n) Q E s := by
  have hled : byT w = true ∨ (!byT w) = true := by cases byT w <;> simp
  unfold setRoomFor
  refine wpAny_bind (wpAny_setState_of ho1 rfl rfl ?_)
  dsimp only
  unfold SetTable.roomFor
  by_cases hc : ((SetTable.fresh 0 0 (!byT w)).fill + n) * 5 ≥ (SetTable.fresh 0 0 (!byT w)).mask * 3
  · rw [if_pos hc]
    refine relay_ok (ms := []) ho1 rfl rfl (by show (0 + n) * 2 ≤ 256; omega) (Nat.zero_le _) fun es' t' p1 p2 p3 p4 p5 p6 => ?_
    obtain rfl : es' = #[] := by
      have := p1.length_eq
      rw [Array.length_toList] at this
      exact Array.eq_empty_of_size_eq_zero this
    obtain ⟨hM, hlt⟩ := above_ok ((0 + n) * 2) (by omega)
    have p3' : t'.mask + 1 = SetTable.sizeAbove ((0 + n) * 2) := p3
    have hg : (s.heap.update a (Obj.putSet #[] t')).get? a = some { freshO w with data := .set #[] (0 + 1) t' } := by
      have := Heap.get?_update_self (Obj.putSet #[] t') ho1 (by rw [putSet_of (o := freshO w) #[] t' rfl]; rfl)
      rw [putSet_of (o := freshO w) #[] t' rfl] at this
      exact this
    exact h _ _ 1 t' (Heap.SameBut.update _ a _) hg ⟨rfl, rfl, rfl⟩ rfl p2 p4 (by rw [p3']; exact hM) (by omega) (hled.imp id fun z => p5.trans z)
  · rw [if_neg hc]
    have hc' : ¬ (0 + n) * 5 ≥ 7 * 3 := hc
    exact wpAny_pure (h s.heap (freshO w) 0 _ (Heap.SameBut.refl a _) ho1 ⟨rfl, rfl, rfl⟩ rfl rfl rfl (.inl rfl) (by show n ≤ 7; omega) hled)
theorem merge_new {a b : Addr} {ms : List Str} {Q : Unit → Shared → Prop} (hab : a ≠ b) (ho1 : s.heap.get? a = some (freshO w)) (h2 : Is w s.heap b ms) (hsz : ms.length ≤ 128)
    (h : ∀ h', Heap.SameBut a s.heap h' → Is w h' a ms → Q () { s with heap := h' }) : wpAny (model prog w) A (setMerge a b) Q E s := by
  obtain ⟨o, es, ep, t, ho, hex, hd, hel, hnd, hb, hf, hl, hp⟩ := id h2
  have hn : es.size = ms.length := by rw [← hel.len, Array.length_toList]
  have hled : byT w = true ∨ (!byT w) = true := by cases byT w <;> simp
  unfold setMerge
  rw [if_neg (show ¬ ((a == b) = true) by rw [beq_iff_eq]; exact hab)]
  refine wpAny_bind (wpAny_setState_of ho hd hf ?_)
  dsimp only
  by_cases h0 : es.isEmpty = true
  · rw [if_pos h0]
    have e0 : ms = [] := List.length_eq_zero_iff.mp (by rw [← hn]; simpa using h0)
    subst e0
    exact wpAny_pure (h s.heap (Heap.SameBut.refl a _) ⟨freshO w, #[], 0, .fresh 0 0 (!byT w), ho1, ⟨rfl, rfl, rfl⟩, rfl, ⟨fun e he => by simp at he, by simp⟩, List.nodup_nil, by decide, rfl, hled, .inl rfl⟩)
  rw [if_neg h0]
  have hpos : 0 < es.size := by
    rcases Nat.eq_zero_or_pos es.size with z | z
    · exact absurd (by simpa using z) h0
    · exact z
  have hpl : t.plain = false := hp.resolve_left (by omega)
  refine wpAny_bind (room_new ho1 (by omega) fun h3 o3 ep3 t3 sb3 ho3 hex3 hd3 hps hdu hM hle hld3 => ?_)
  have hf3 : t3.fits (#[] : Array (Int × Value)).size = true := by
    simp only [SetTable.fits, Bool.and_eq_true, beq_iff_eq, decide_eq_true_eq, SetTable.fill, hdu]
    exact ⟨hps, by show t3.place.size + 0 ≤ t3.mask; omega⟩
  refine wpAny_bind (wpAny_setState_of (s := { s with heap := h3 }) ho3 hd3 hf3 ?_)
  dsimp only
  have hled3 : byT w = true ∨ (t3.led && t.led) = true := by
    rcases hld3 with z | z
    · exact .inl z
    · rcases hl with y | y
      · exact .inl y
      · exact .inr (by rw [z, y]; rfl)
  have hfill : (t3.fill != 0) = false := by
    unfold SetTable.fill
    rw [hps, hdu]
    rfl
  unfold SetTable.road
  rw [hfill, if_neg Bool.false_ne_true]
  by_cases hm : (t3.mask == t.mask && t.dummies.isEmpty) = true
  · rw [if_pos hm]
    dsimp only
    refine wpAny_storeSet_of (s := { s with heap := h3 }) ho3 hd3 ?_ (fits_of_scanBound hb)
    exact h _ (sb3.trans (Heap.SameBut.update _ a _)) (Is.store prog (t' := { mask := t.mask, place := t.place, dummies := t.dummies, finger := t3.finger, led := t3.led && t.led, moves := t3.moves, plain := t3.plain && t.plain }) ho3 hex3 hd3 hel hnd hb hf hled3 (.inr (by show (t3.plain && t.plain) = false; rw [hpl, Bool.and_false]))).2
  · rw [if_neg hm]
    dsimp only
    obtain ⟨t', order, e1, e2, e3, e4, e5, e6, e7⟩ := ST.laid_ok (finger := t3.finger) (moves := t3.moves) (led := t3.led && t.led) (plain := t3.plain && t.plain) (hashes := es.map (·.1)) hM (by rw [Array.size_map]; exact hle)
    rw [e1]
    rw [Array.size_map] at e2 e3
    have hpm := reorder_perm e2
    have hsz' : (order.filterMap (es[·]?)).size = es.size := by rw [← Array.length_toList, hpm.length_eq, Array.length_toList]
    refine wpAny_bind (m := (do
      if ((order.filterMap (es[·]?)).size != es.size) = true then unsupported "internal:set-table-lost-an-element"
      pure (order.filterMap (es[·]?), t'))) ?_
    rw [hsz', bne_self_eq_false, if_neg Bool.false_ne_true]
    refine wpAny_pure ?_
    refine wpAny_storeSet_of (s := { s with heap := h3 }) ho3 hd3 ?_ (by rw [hsz']; exact fits_of_scanBound hb)
    have hf' : t'.fits (order.filterMap (es[·]?)).size = true := by
      simp only [SetTable.fits, Bool.and_eq_true, beq_iff_eq, decide_eq_true_eq, SetTable.fill, e5]
      exact ⟨by omega, by show t'.place.size + 0 ≤ t'.mask; omega⟩
    exact h _ (sb3.trans (Heap.SameBut.update _ a _)) (Is.store prog ho3 hex3 hd3 (hel.perm hpm) hnd (by rw [hsz']; exact hb) hf' (by rw [e6]; exact hled3) (.inr (by rw [e7, hpl, Bool.and_false]))).2
theorem Is.ty {a : Addr} {ms : List Str} (x : Is w s.heap a ms) : s.TypeIs (.ref a) "set" := by
  obtain ⟨o, _, _, _, ho, hex, _⟩ := x
  exact ⟨o, ho, hex.1⟩
theorem copy_ok {b : Addr} {ms : List Str} {Q : Value → Shared → Prop} (h2 : Is w s.heap b ms) (hsz : ms.length ≤ 128)
    (h : ∀ h', (∀ x o, s.heap.get? x = some o → h'.get? x = some o) → Is w h' s.heap.objs.size ms → Q (.ref s.heap.objs.size) { s with heap := h' }) : wpAny (model prog w) A (Builtin.Frozenset.copyOf b) Q E s := by
  unfold Builtin.Frozenset.copyOf Builtin.Frozenset.baseOf
  refine wpAny_bind (wpAny_bind (wpAny_isInstance h2.ty sub_set_self (wpAny_pure ?_)))
  rw [if_pos rfl]
  refine wpAny_bind (new_ok ?_)
  refine wpAny_bind (m := Builtin.Frozenset.addrOf (.ref s.heap.objs.size)) (wpAny_pure ?_)
  obtain ⟨o, ho⟩ := h2.there
  have hlt := Heap.lt_size ho
  refine wpAny_bind (merge_new (s := { s with heap := s.heap.push (freshO w) }) (Nat.ne_of_gt hlt) (Heap.get?_push_size _ rfl) (h2.at fun o e => Heap.get?_push_of_some _ e) hsz fun h' sb i => wpAny_pure ?_)
  exact h h' (fun x o e => (sb.2 x (Nat.ne_of_lt (Heap.lt_size e))).trans (Heap.get?_push_of_some _ e)) i
theorem entry_or : entryFor table "set.__or__" = some Builtin.«frozenset.__or__» :=
  entryFor_alias (id' := "frozenset.__or__") (by kernel_rfl) (by first | rfl | decide +kernel | (unfold String.splitOn; simp +decide [String.splitOnAux])) (by decide +kernel) (by kernel_rfl)
theorem or_ok {a b : Addr} {ms1 ms2 : List Str} {Q : Value → Shared → Prop} (hab : a ≠ b) (h1 : Is w s.heap a ms1) (h2 : Is w s.heap b ms2) (hne : ms1 ≠ []) (hsz : ms1.length + ms2.length ≤ 128)
    (h : ∀ h' ms', (∀ x o, s.heap.get? x = some o → h'.get? x = some o) → Is w h' s.heap.objs.size ms' → (∀ x, x ∈ ms' ↔ x ∈ ms1 ∨ x ∈ ms2) → ms'.length ≤ ms1.length + ms2.length → Q (.ref s.heap.objs.size) { s with heap := h' }) :
    wpAny (model prog w) A (binaryOp .BitOr (.ref a) (.ref b)) Q E s := by
  refine wpAny_binaryOp_same h1.ty h2.ty F.fills_set_or F.slot_set_or (wpAny_call_entry F.slot_set_or h1.ty entry_or ?_ (F.args_set_or_2 _ _))
  refine wpAny_bind (m := Builtin.Frozenset.slot1 "__or__" ⟨[.ref a, .ref b], []⟩) (wpAny_pure (a := (Value.ref a, Value.ref b)) ?_)
  dsimp only
  simp only [Bool.false_eq_true, ↓reduceIte]
  have any : ∀ (c : Addr) (ms : List Str) (A' : Around) (s' : Shared) (Q' : Bool → Shared → Prop), Is w s'.heap c ms → Q' true s' → wpAny (model prog w) A' (Builtin.Frozenset.isAnySet (.ref c)) Q' E s' := fun c ms A' s' Q' hc hQ => by
    unfold Builtin.Frozenset.isAnySet
    refine wpAny_bind (m := isInstance (.ref c) (.type "set")) (wpAny_isInstance hc.ty sub_set_self ?_)
    exact wpAny_pure hQ
  refine wpAny_bind (m := Builtin.Frozenset.isAnySet (.ref a) <&&> Builtin.Frozenset.isAnySet (.ref b)) ?_
  refine wpAny_bind (m := Builtin.Frozenset.isAnySet (.ref a)) (any a ms1 _ s _ h1 ?_)
  refine any b ms2 _ s _ h2 ?_
  simp only [Bool.not_true, Bool.false_eq_true, ↓reduceIte]
  refine wpAny_bind (m := Builtin.Frozenset.addrOf (.ref a)) (wpAny_pure ?_)
  refine wpAny_bind ?_
  refine wpAny_bind (m := Builtin.Frozenset.copyOf a) (copy_ok h1 (by omega) fun h3 kp3 i3 => ?_)
  have hb : (Value.ref b != Value.ref a) = true := by
    rw [bne_iff_ne]
    exact fun z => hab (by cases z; rfl)
  have hlt := Heap.lt_size h2.there.choose_spec
  have h2' : Is w h3 b ms2 := h2.at fun o e => kp3 b o e
  have nb : s.heap.objs.size ≠ b := Nat.ne_of_gt hlt
  rw [hb, if_pos rfl]
  refine wpAny_bind (m := holding [.ref s.heap.objs.size] (do Builtin.Frozenset.updateFrom _ (← Builtin.Frozenset.addrOf (.ref s.heap.objs.size)) (.ref b))) (wpAny_holding ?_)
  refine wpAny_bind (m := Builtin.Frozenset.addrOf (.ref s.heap.objs.size)) (wpAny_pure ?_)
  unfold Builtin.Frozenset.updateFrom
  refine wpAny_bind (m := Builtin.Frozenset.isAnySet (.ref b)) (any b ms2 _ { s with heap := h3 } _ h2' ?_)
  rw [if_pos rfl]
  refine wpAny_bind (m := Builtin.Frozenset.addrOf (.ref b)) (wpAny_pure ?_)
  unfold Builtin.Frozenset.merge
  obtain ⟨o, es, ep, t, ho, hex, hd, hel, hnd, hbs, hf, hl, hp⟩ := id h2'
  refine wpAny_bind (wpAny_setEpoch_of (s := { s with heap := h3 }) ho hd hf ?_)
  refine merge_on (s := { s with heap := h3 }) nb i3 h2' hne hsz (fun s' Q' keep hQ => ?_) fun h4 ms' sb4 i4 hm hle => ?_
  · unfold Builtin.Frozenset.unchanged
    refine wpAny_bind (wpAny_setEpoch_of (s := s') (keep o ho) hd hf ?_)
    rw [bne_self_eq_false, if_neg Bool.false_ne_true]
    exact wpAny_pure hQ
  · refine wpAny_pure (wpAny_pure ⟨_, rfl, (by intro z; cases z), h h4 ms' (fun x o' e => (sb4.2 x (Nat.ne_of_lt (Heap.lt_size e))).trans (kp3 x o' e)) i4 hm hle⟩)
end
end SS

set_option Elab.async false
set_option linter.all false
set_option maxRecDepth 100000
set_option maxHeartbeats 4000000
namespace SS
open PySem PyProof.Rows
theorem slot_next : Slot "set_iterator" "__next__" "set_iterator.__next__" :=
  .of (owner := "set_iterator") (n := "__next__") (by rw [typeLookup_type, builtinLookup_eq_fast]; kernel_rfl) (by decide +kernel) (by decide +kernel) (by decide +kernel) (by first | exact .inl (by decide +kernel) | exact .inr (by decide +kernel)) (by rw [isSubtype_type]; kernel_rfl)
theorem entry_next : entryFor table "set_iterator.__next__" = some Builtin.«set_iterator.__next__» := entryFor_of_tree (by kernel_rfl)
theorem args_next (a : Value) : argsOk "set_iterator.__next__" ⟨[a], []⟩ := by unfold argsOk; kernel_rfl
theorem slot_self : Slot "set_iterator" "__iter__" "set_iterator.__iter__" :=
  .of (owner := "set_iterator") (n := "__iter__") (by rw [typeLookup_type, builtinLookup_eq_fast]; kernel_rfl) (by decide +kernel) (by decide +kernel) (by decide +kernel) (by first | exact .inl (by decide +kernel) | exact .inr (by decide +kernel)) (by rw [isSubtype_type]; kernel_rfl)
theorem args_self (a : Value) : argsOk "set_iterator.__iter__" ⟨[a], []⟩ := by unfold argsOk; kernel_rfl
theorem entry_self : entryFor table "set_iterator.__iter__" = some Builtin.«dict_keyiterator.__iter__» :=
  entryFor_alias (id' := "dict_keyiterator.__iter__") (by kernel_rfl) (by first | rfl | decide +kernel | (unfold String.splitOn; simp +decide [String.splitOnAux])) (by decide +kernel) (by kernel_rfl)
theorem entry_iter : entryFor table "set.__iter__" = some Builtin.«frozenset.__iter__» :=
  entryFor_alias (id' := "frozenset.__iter__") (by kernel_rfl) (by first | rfl | decide +kernel | (unfold String.splitOn; simp +decide [String.splitOnAux])) (by decide +kernel) (by kernel_rfl)
noncomputable def It (h : Heap) (I a : Addr) (first : Value) (i n ep : Nat) : Prop := ∃ o, h.get? I = some o ∧ o.cls = .type "set_iterator" ∧ o.data = .fields #[first, rawInt (i : Int), .ref a, rawInt (n : Int), rawInt (ep : Int)]
theorem It.at {h h' : Heap} {I a : Addr} {first : Value} {i n ep : Nat} (x : It h I a first i n ep) (e : ∀ o, h.get? I = some o → h'.get? I = some o) : It h' I a first i n ep := let ⟨o, ho, r⟩ := x; ⟨o, e _ ho, r⟩
section
variable {prog : Program} {w : World} {A : Around} {E : Value → Shared → Prop} {s : Shared}
theorem It.ty {I a : Addr} {first : Value} {i n ep : Nat} (x : It s.heap I a first i n ep) : s.TypeIs (.ref I) "set_iterator" := let ⟨o, ho, hc, _⟩ := x; ⟨o, ho, hc⟩
theorem stop_ok {α : Type} {I : Addr} {s0 s : Shared} {Q : Option Value → Shared → Prop} (hh : A.handled = none) (hQ : ∀ h', (∀ b o, s.heap.get? b = some o → h'.get? b = some o) → Q none { s with heap := h' }) :
    wpAny (model prog w) A.in1 (newExc (.type "StopIteration") [] >>= fun e => (raiseNew e : Sem Fin)) (fun fin s' => ∃ v, fin = .done (.ret v) ∧ wpAny (model prog w) A (pure (some v)) Q E s')
      (fun e s' => wpAny (model prog w) A (do if ← isInstance e (.type "StopIteration") then pure none else throw e) Q E s') s := by
  refine wpAny_bind ?_
  simp only [newExc, newTuple]
  refine wpAny_bind (wpAny_newObj_type ?_ (by size_fits))
  refine wpAny_bind (m := firstArgMember _ _) (wpAny_of_eq (a := Value.none) (by first | rfl | (simp only [firstArgMember]; rfl)) ?_)
  refine wpAny_newObj_type ?_ (by size_fits)
  simp only [raiseNew]
  refine wpAny_bind (wpAny_handled ?_)
  first | rw [show A.in1.handled = none from hh] | rw [hh]
  refine wpAny_bind (wpAny_pure (wpAny_throw ?_))
  refine wpAny_bind (wpAny_isInstance (T := "StopIteration") (b := true) ⟨_, Heap.get?_push_size _ rfl, rfl⟩ isSubtype_stop ?_)
  refine wpAny_pure (hQ _ fun b ob eb => ?_)
  exact Heap.get?_push_of_some _ (Heap.get?_push_of_some _ eb)
end
end SS

set_option Elab.async false
set_option linter.all false
set_option maxRecDepth 100000
set_option maxHeartbeats 4000000
namespace SS
open PySem PyProof.Rows
section
variable {prog : Program} {w : World} {A : Around} {E : Value → Shared → Prop} {s : Shared}
theorem item_int {I a : Addr} {o : Obj} {es : Array (Int × Value)} {ep i slot nx : Nat} {t : SetTable} {x : Value} {Q : Option Value → Shared → Prop} (hI : It s.heap I a (rawInt (slot : Int)) i es.size ep) (hne : a ≠ I) (ho : s.heap.get? a = some o) (hd : o.data = .set es ep t) (hf : t.fits es.size = true)
    (hN : ∀ (A' : Around) (E' : Value → Shared → Prop) (Q' : Option (Value × Nat) → Shared → Prop), Q' (some (x, nx)) s → wpAny (model prog w) A' (setNext a slot i ep) Q' E' s)
    (hQ : ∀ h', It h' I a (rawInt (nx : Int)) (i + 1) es.size ep → Heap.SameBut I s.heap h' → Q (some x) { s with heap := h' }) : wpAny (model prog w) A (pyNext (.ref I)) Q E s := by
  obtain ⟨oi, hoi, hci, hdi⟩ := id hI
  unfold pyNext
  refine wpAny_bind (wpAny_attempt (wpAny_callSpecial?_slot (name := Str.ofString "__next__") hI.ty slot_next (wpAny_call_entry slot_next hI.ty entry_next ?_ (args_next _))))
  unfold Builtin.«set_iterator.__next__»
  refine wpAny_bind (wpAny_of_eq (a := (Value.ref I, [])) rfl ?_)
  try dsimp only
  refine wpAny_bind (wpAny_fieldsOf hoi hdi ?_)
  dsimp only [rawInt]
  refine wpAny_bind (wpAny_setEntries_of ho hd hf ?_)
  rw [if_neg (by simp)]
  refine wpAny_bind (m := setNext a (slot : Int).toNat (i : Int).toNat (ep : Int).toNat) ?_
  rw [Int.toNat_natCast, Int.toNat_natCast, Int.toNat_natCast]
  refine hN _ _ _ ?_
  dsimp only
  refine wpAny_bind (wpAny_setField hoi hdi (by simp) ?_)
  have h2 := Heap.get?_update_self (Obj.mapFields (·.setIfInBounds 0 (rawInt (nx : Int)))) hoi (Obj.isFreed_of_fields (Obj.data_mapFields hdi _))
  refine wpAny_bind (wpAny_setField h2 (Obj.data_mapFields hdi _) (by simp) ?_)
  refine wpAny_pure ⟨_, rfl, wpAny_pure (hQ _ ?_ ((Heap.SameBut.update ..).trans (Heap.SameBut.update ..)))⟩
  exact ⟨_, Heap.get?_update_self _ h2 (Obj.isFreed_of_fields (Obj.data_mapFields (Obj.data_mapFields hdi _) _)), (Obj.cls_mapFields ..).trans ((Obj.cls_mapFields ..).trans hci), by rw [Obj.data_mapFields (Obj.data_mapFields hdi _)]; simp [rawInt]⟩
theorem end_int {I a : Addr} {o : Obj} {es : Array (Int × Value)} {ep i slot : Nat} {t : SetTable} {Q : Option Value → Shared → Prop} (hh : A.handled = none) (hI : It s.heap I a (rawInt (slot : Int)) i es.size ep) (hne : a ≠ I) (ho : s.heap.get? a = some o) (hd : o.data = .set es ep t) (hf : t.fits es.size = true)
    (hN : ∀ (A' : Around) (E' : Value → Shared → Prop) (Q' : Option (Value × Nat) → Shared → Prop), Q' none s → wpAny (model prog w) A' (setNext a slot i ep) Q' E' s)
    (hQ : ∀ h', Heap.ExtBut I s.heap h' → Q none { s with heap := h' }) : wpAny (model prog w) A (pyNext (.ref I)) Q E s := by
  obtain ⟨oi, hoi, hci, hdi⟩ := id hI
  unfold pyNext
  refine wpAny_bind (wpAny_attempt (wpAny_callSpecial?_slot (name := Str.ofString "__next__") hI.ty slot_next (wpAny_call_entry slot_next hI.ty entry_next ?_ (args_next _))))
  unfold Builtin.«set_iterator.__next__»
  refine wpAny_bind (wpAny_of_eq (a := (Value.ref I, [])) rfl ?_)
  try dsimp only
  refine wpAny_bind (wpAny_fieldsOf hoi hdi ?_)
  dsimp only [rawInt]
  refine wpAny_bind (wpAny_setEntries_of ho hd hf ?_)
  rw [if_neg (by simp)]
  refine wpAny_bind (m := setNext a (slot : Int).toNat (i : Int).toNat (ep : Int).toNat) ?_
  rw [Int.toNat_natCast, Int.toNat_natCast, Int.toNat_natCast]
  refine hN _ _ _ ?_
  dsimp only
  refine wpAny_bind (wpAny_setField hoi hdi (by simp) ?_)
  refine wpAny_mono (stop_ok (α := Unit) (I := I) (s0 := s) (Q := Q) (E := E) hh fun h' kp => hQ h' fun b ob hb eb => kp b ob ((Heap.get?_update_other _ _ (Ne.symm hb)).trans eb)) (fun fin s' z => z) fun e s' z => z
theorem item_ref {I a tp : Addr} {o ot : Obj} {es : Array (Int × Value)} {ep i p nt : Nat} {t : SetTable} {x : Int × Value} {ps : List Nat} {Q : Option Value → Shared → Prop} (hI : It s.heap I a (.ref tp) i es.size ep) (ho : s.heap.get? a = some o) (hd : o.data = .set es ep t) (hf : t.fits es.size = true)
    (hot : s.heap.get? tp = some ot) (hdt : ot.data = .seq (ps.map fun j : Nat => rawInt (j : Int)).toArray nt) (hp : ps[i]? = some p) (hx : es[p]? = some x)
    (hQ : ∀ h', It h' I a (.ref tp) (i + 1) es.size ep → Heap.SameBut I s.heap h' → Q (some x.2) { s with heap := h' }) : wpAny (model prog w) A (pyNext (.ref I)) Q E s := by
  obtain ⟨oi, hoi, hci, hdi⟩ := id hI
  unfold pyNext
  refine wpAny_bind (wpAny_attempt (wpAny_callSpecial?_slot (name := Str.ofString "__next__") hI.ty slot_next (wpAny_call_entry slot_next hI.ty entry_next ?_ (args_next _))))
  unfold Builtin.«set_iterator.__next__»
  refine wpAny_bind (wpAny_of_eq (a := (Value.ref I, [])) rfl ?_)
  try dsimp only
  refine wpAny_bind (wpAny_fieldsOf hoi hdi ?_)
  dsimp only [rawInt]
  refine wpAny_bind (wpAny_setEntries_of ho hd hf ?_)
  rw [if_neg (by simp)]
  refine wpAny_bind (wpAny_seqItems hot hdt ?_)
  dsimp only
  rw [Int.toNat_natCast, List.getElem?_toArray, List.getElem?_map, hp]
  dsimp only [Option.map, rawInt]
  refine wpAny_bind (m := setNextDrawn a (p : Int).toNat (ep : Int).toNat) ?_
  rw [Int.toNat_natCast, Int.toNat_natCast]
  unfold setNextDrawn
  refine wpAny_bind (wpAny_setState_of ho hd hf ?_)
  dsimp only
  rw [bne_self_eq_false, if_neg Bool.false_ne_true, hx]
  refine wpAny_pure ?_
  refine wpAny_bind (wpAny_setField hoi hdi (by simp) ?_)
  refine wpAny_pure ⟨_, rfl, wpAny_pure (hQ _ ?_ (Heap.SameBut.update ..))⟩
  exact ⟨_, Heap.get?_update_self _ hoi (Obj.isFreed_of_fields (Obj.data_mapFields hdi _)), (Obj.cls_mapFields ..).trans hci, by rw [Obj.data_mapFields hdi]; simp [rawInt]⟩
theorem end_ref {I a tp : Addr} {o ot : Obj} {es : Array (Int × Value)} {ep i nt : Nat} {t : SetTable} {ps : List Nat} {Q : Option Value → Shared → Prop} (hh : A.handled = none) (hI : It s.heap I a (.ref tp) i es.size ep) (ho : s.heap.get? a = some o) (hd : o.data = .set es ep t) (hf : t.fits es.size = true)
    (hot : s.heap.get? tp = some ot) (hdt : ot.data = .seq (ps.map fun j : Nat => rawInt (j : Int)).toArray nt) (hp : ps[i]? = none)
    (hQ : ∀ h', Heap.ExtBut I s.heap h' → Q none { s with heap := h' }) : wpAny (model prog w) A (pyNext (.ref I)) Q E s := by
  obtain ⟨oi, hoi, hci, hdi⟩ := id hI
  unfold pyNext
  refine wpAny_bind (wpAny_attempt (wpAny_callSpecial?_slot (name := Str.ofString "__next__") hI.ty slot_next (wpAny_call_entry slot_next hI.ty entry_next ?_ (args_next _))))
  unfold Builtin.«set_iterator.__next__»
  refine wpAny_bind (wpAny_of_eq (a := (Value.ref I, [])) rfl ?_)
  try dsimp only
  refine wpAny_bind (wpAny_fieldsOf hoi hdi ?_)
  dsimp only [rawInt]
  refine wpAny_bind (wpAny_setEntries_of ho hd hf ?_)
  rw [if_neg (by simp)]
  refine wpAny_bind (wpAny_seqItems hot hdt ?_)
  dsimp only
  rw [Int.toNat_natCast, List.getElem?_toArray, List.getElem?_map, hp]
  dsimp only [Option.map]
  refine wpAny_bind (wpAny_setField hoi hdi (by simp) ?_)
  have h2 := Heap.get?_update_self (Obj.mapFields (·.setIfInBounds 0 (rawInt 0))) hoi (Obj.isFreed_of_fields (Obj.data_mapFields hdi _))
  refine wpAny_bind (wpAny_setField h2 (Obj.data_mapFields hdi _) (by simp) ?_)
  refine wpAny_mono (stop_ok (α := Unit) (I := I) (s0 := s) (Q := Q) (E := E) hh fun h' kp => hQ h' fun b ob hb eb => kp b ob ((Heap.get?_update_other _ _ (Ne.symm hb)).trans ((Heap.get?_update_other _ _ (Ne.symm hb)).trans eb))) (fun fin s' z => z) fun e s' z => z
theorem self_ok {I a : Addr} {first : Value} {i n ep : Nat} {Q : Value → Shared → Prop} (hI : It s.heap I a first i n ep) (h : Q (.ref I) s) : wpAny (model prog w) A (pyIter (.ref I)) Q E s := by
  refine wpAny_pyIter_slot hI.ty slot_self (wpAny_call_entry slot_self hI.ty entry_self ?_ (args_self _))
  show wpAny _ _ (ret (.ref I)) _ _ s
  exact wpAny_pure ⟨_, rfl, "set_iterator", _, hI.ty, slot_next.lookup, h⟩
theorem wpAny_choose {M : Model} {src : Source} {n : Nat} {Q : Nat → Shared → Prop} (hn : n ≠ 0) (h : ∀ i d, i < n → Q i { s with drawn := d }) : wpAny M A (choose src n) Q E s := fun Γ p hΓ => ⟨hn, h _ _ (Nat.mod_lt _ (Nat.pos_of_ne_zero hn))⟩
theorem draw_ok {α : Type} : ∀ (xs : List α) (s : Shared) (Q : List α → Shared → Prop), (∀ ys d, ys.Perm xs → Q ys { s with drawn := d }) → wpAny (model prog w) A (drawOrder xs.length xs) Q E s := by
  intro xs
  generalize hn : xs.length = n
  induction n generalizing xs with
  | zero =>
    intro s Q h
    obtain rfl := List.length_eq_zero_iff.mp hn
    rw [drawOrder]
    exact wpAny_pure (h [] s.drawn (List.Perm.refl _))
  | succ n ih =>
    intro s Q h
    cases xs with
    | nil => cases hn
    | cons x xs =>
      rw [drawOrder]
      rotate_left
      · intro z
        cases z
      refine wpAny_bind (wpAny_choose (by simp) fun i d hi => ?_)
      rw [List.getElem?_eq_getElem hi]
      dsimp only
      refine wpAny_bind (ih ((x :: xs).eraseIdx i) (by rw [List.length_eraseIdx_of_lt hi, hn]; rfl) _ _ fun ys d2 hp => wpAny_pure ?_)
      exact h _ d2 ((hp.cons _).trans (erase_perm _ i hi))
end
end SS

set_option Elab.async false
set_option linter.all false
set_option maxRecDepth 100000
set_option maxHeartbeats 4000000
namespace SS
open PySem PyProof.Rows
theorem walk_int {prog : Program} {w : World} {A : Around} {a I : Addr} {o : Obj} {es : Array (Int × Value)} {ep : Nat} {t : SetTable} {L : List (Int × Value)} {slots : Nat → Nat} (hh : A.handled = none) (hne : a ≠ I) (hd : o.data = .set es ep t) (hf : t.fits es.size = true)
    (hN : ∀ (i : Nat) (s : Shared) (A' : Around) (E' : Value → Shared → Prop) (Q' : Option (Value × Nat) → Shared → Prop), s.heap.get? a = some o → i ≤ L.length → Q' ((L[i]?).map fun e => (e.2, slots (i + 1))) s → wpAny (model prog w) A' (setNext a (slots i) i ep) Q' E' s) :
    Walks prog w A I [I, a] [I] L.length (fun i v => (L.map (·.2))[i]? = some v) (fun i h => h.get? a = some o ∧ It h I a (rawInt (slots i : Int)) i es.size ep) where
  sub := fun b hb => by simp at hb; simp [hb]
  frame := fun _ _ _ y hk => ⟨hk a (by simp) o y.1, y.2.at fun o e => hk I (by simp) o e⟩
  item := fun i s Q E hi y hQ => by
    refine item_int (x := L[i].2) (nx := slots (i + 1)) y.2 hne y.1 hd hf (fun A' E' Q' q => hN i s A' E' Q' y.1 (by omega) ?_) fun h' hit hs => ?_
    · rw [List.getElem?_eq_getElem hi]
      exact q
    · exact hQ _ h' s.toks (by rw [List.getElem?_map, List.getElem?_eq_getElem hi]; rfl) ⟨(hs.2 a hne).trans y.1, hit⟩ fun b o hb eo => hs.extBut b o (fun h => hb (by simp [h])) eo
  done := fun s Q E y hQ => by
    refine end_int hh y.2 hne y.1 hd hf (fun A' E' Q' q => hN L.length s A' E' Q' y.1 (Nat.le_refl _) ?_) fun h' he => hQ h' s.toks fun b o hb eo => he b o (fun h => hb (by simp [h])) eo
    rw [List.getElem?_eq_none (Nat.le_refl _)]
    exact q
  self := fun _ _ _ _ y hQ => self_ok y.2 hQ
theorem walk_ref {prog : Program} {w : World} {A : Around} {a I tp : Addr} {o ot : Obj} {es : Array (Int × Value)} {ep nt : Nat} {t : SetTable} {ps : List Nat} (hh : A.handled = none) (hne : a ≠ I) (hnt : tp ≠ I) (hd : o.data = .set es ep t) (hf : t.fits es.size = true)
    (hdt : ot.data = .seq (ps.map fun j : Nat => rawInt (j : Int)).toArray nt) (hps : ∀ p ∈ ps, p < es.size) :
    Walks prog w A I [I, a, tp] [I] ps.length (fun i v => (ps.map fun p => (es.getD p (0, .none)).2)[i]? = some v) (fun i h => h.get? a = some o ∧ h.get? tp = some ot ∧ It h I a (.ref tp) i es.size ep) where
  sub := fun b hb => by simp at hb; simp [hb]
  frame := fun _ _ _ y hk => ⟨hk a (by simp) o y.1, hk tp (by simp) ot y.2.1, y.2.2.at fun o e => hk I (by simp) o e⟩
  item := fun i s Q E hi y hQ => by
    have hp : ps[i]? = some ps[i] := List.getElem?_eq_getElem hi
    have hlt := hps _ (List.getElem_mem hi)
    have hx : es[ps[i]]? = some (es[ps[i]]'hlt) := Array.getElem?_eq_getElem hlt
    refine item_ref y.2.2 y.1 hd hf y.2.1 hdt hp hx fun h' hit hs => ?_
    refine hQ _ h' s.toks ?_ ⟨(hs.2 a hne).trans y.1, (hs.2 tp hnt).trans y.2.1, hit⟩ fun b o hb eo => hs.extBut b o (fun h => hb (by simp [h])) eo
    rw [List.getElem?_map, hp]
    show some (es.getD ps[i] (0, Value.none)).2 = _
    rw [Array.getD_eq_getD_getElem?, hx]
    rfl
  done := fun s Q E y hQ => end_ref hh y.2.2 y.1 hd hf y.2.1 hdt (List.getElem?_eq_none (Nat.le_refl _)) fun h' he => hQ h' s.toks fun b o hb eo => he b o (fun h => hb (by simp [h])) eo
  self := fun _ _ _ _ y hQ => self_ok y.2.2 hQ
theorem strs_els {w : World} : ∀ L : List (Int × Value), (∀ e ∈ L, El w e) → StrsAre (L.map (·.2)) (L.map fun e => keyV e.2)
  | [], _ => .nil
  | e :: L, h => by
    obtain ⟨_, tk, q⟩ := h e (List.mem_cons_self ..)
    rw [List.map_cons, List.map_cons]
    have r := strs_els L fun x hx => h x (List.mem_cons_of_mem _ hx)
    have z : StrsAre (Value.str (keyV e.2) tk :: L.map (·.2)) (keyV e.2 :: L.map fun e => keyV e.2) := .cons _ _ r
    rw [← q] at z
    exact z
section
variable {prog : Program} {w : World} {A : Around} {E : Value → Shared → Prop} {s : Shared}
theorem iter_ok {a : Addr} {ms : List Str} {Q : Value → Shared → Prop} (hS : Is w s.heap a ms)
    (h : ∀ (h' : Heap) (d : Drawn) (I : Addr) (fp : List Addr) (xs : List Value) (ss : List Str) (St : Nat → Heap → Prop), (∀ A' : Around, A'.handled = none → Walks prog w A' I fp [I] xs.length (fun i v => xs[i]? = some v) St) → St 0 h' →
      (∀ b o, s.heap.get? b = some o → h'.get? b = some o) → s.heap.objs.size ≤ I → (∀ b ∈ fp, b = a ∨ s.heap.objs.size ≤ b) → StrsAre xs ss → ss.Perm ms → Q (.ref I) { s with heap := h', drawn := d }) :
    wpAny (model prog w) A (pyIter (.ref a)) Q E s := by
  obtain ⟨o, es, ep, t, ho, hex, hd, hel, hnd, hb, hf, hl, hp⟩ := id hS
  have hlt := Heap.lt_size ho
  have hps : t.place.size = es.size := by
    simp only [SetTable.fits, Bool.and_eq_true, beq_iff_eq] at hf
    exact hf.1
  refine wpAny_pyIter_slot hS.ty F.slot_set_iter (wpAny_call_entry F.slot_set_iter hS.ty entry_iter ?_ (F.args_set_iter_1 _))
  unfold Builtin.«frozenset.__iter__»
  refine wpAny_bind (m := Builtin.Frozenset.slot0 "__iter__" ⟨[.ref a], []⟩) (wpAny_of_eq (a := a) rfl ?_)
  unfold Builtin.Frozenset.sizeOf
  refine wpAny_bind (wpAny_bind (wpAny_setEntries_of ho hd hf (wpAny_pure ?_)))
  have hlist : ∀ L : List (Int × Value), L.Perm es.toList → StrsAre (L.map (·.2)) (L.map fun e => keyV e.2) ∧ (L.map fun e => keyV e.2).Perm ms := fun L hp => ⟨strs_els L (hel.perm hp).1, (hel.perm hp).2⟩

  have fin : ∀ (L : List (Int × Value)) (slots : Nat → Nat), slots 0 = 0 → L.Perm es.toList → (∀ (i : Nat) (s : Shared) (A' : Around) (E' : Value → Shared → Prop) (Q' : Option (Value × Nat) → Shared → Prop), s.heap.get? a = some o → i ≤ L.length → Q' ((L[i]?).map fun e => (e.2, slots (i + 1))) s → wpAny (model prog w) A' (setNext a (slots i) i ep) Q' E' s) →
      wpAny (model prog w) A.in1 (setEpoch a >>= fun e => newFields "set_iterator" [rawInt 0, rawInt 0, .ref a, rawInt (es.size : Int), rawInt (e : Int)] >>= ret) (fun fin s' => ∃ v, fin = .done (.ret v) ∧ ∃ (T : String) (r : Value), s'.TypeIs v T ∧ typeLookup (.type T) "__next__" = pure (some r) ∧ Q v s') E s := fun L slots h0 hL hN => by
    refine wpAny_bind (wpAny_setEpoch_of ho hd hf ?_)
    have hI : It (s.heap.push { cls := .type "set_iterator", data := .fields #[rawInt 0, rawInt 0, .ref a, rawInt (es.size : Int), rawInt (ep : Int)] }) s.heap.objs.size a (rawInt (slots 0 : Int)) 0 es.size ep := ⟨_, Heap.get?_push_size _ rfl, rfl, by rw [h0]; rfl⟩
    obtain ⟨q1, q2⟩ := hlist L hL
    refine wpAny_bind (wpAny_newObj_type (wpAny_pure ⟨_, rfl, "set_iterator", _, ⟨_, Heap.get?_push_size _ rfl, rfl⟩, slot_next.lookup, ?_⟩))
    have z := h (s.heap.push { cls := .type "set_iterator", data := .fields #[rawInt 0, rawInt 0, .ref a, rawInt (es.size : Int), rawInt (ep : Int)] }) s.drawn s.heap.objs.size [s.heap.objs.size, a] (L.map (·.2)) _ (fun i h => h.get? a = some o ∧ It h s.heap.objs.size a (rawInt (slots i : Int)) i es.size ep) (fun A' hA' => by
        rw [List.length_map]
        exact walk_int hA' (Nat.ne_of_lt hlt) hd hf hN) ⟨Heap.get?_push_of_some _ ho, hI⟩ (fun b o e => Heap.get?_push_of_some _ e) (Nat.le_refl _) (fun b hb => by
        rcases List.mem_cons.mp hb with rfl | hb
        · exact .inr (Nat.le_refl _)
        · exact .inl (List.mem_singleton.mp hb)) q1 q2
    exact z
  have hdrw : ∀ (Q' : Bool → Shared → Prop), Q' (!byT w && (!t.plain && decide (es.size > 1))) s → wpAny (model prog w) A.in1 (setDrawn a) Q' E s := fun Q' q => by
    unfold setDrawn
    refine wpAny_bind (wpAny_setState_of ho hd hf ?_)
    dsimp only
    exact wpAny_bind (byText_ok (wpAny_pure q))
  refine wpAny_bind (hdrw _ ?_)
  by_cases hby : byT w = true
  · rw [hby]
    simp only [Bool.not_true, Bool.false_and, Bool.false_eq_true, ↓reduceIte]
    refine wpAny_bind (wpAny_pure ?_)
    refine fin (pickOrder (w.params.setOrder a ep) es).toList (fun _ => 0) rfl (pick_perm _ _) fun i s' A' E' Q' ho' hi q => ?_
    unfold setNext
    refine wpAny_bind (wpAny_setState_of ho' hd hf ?_)
    dsimp only
    refine wpAny_bind (byText_ok ?_)
    rw [hby, if_pos rfl, bne_self_eq_false, if_neg Bool.false_ne_true]
    unfold setWalk
    refine wpAny_bind (wpAny_bind (wpAny_setState_of ho' hd hf ?_))
    dsimp only
    refine wpAny_bind (byText_ok ?_)
    rw [hby, if_pos rfl]
    refine wpAny_bind (wpAny_askSetting (wpAny_pure (wpAny_pure ?_)))
    rw [Array.getElem?_toList] at q
    exact q
  · have hbf : byT w = false := Bool.eq_false_iff.mpr hby
    have hld : t.led = true := hl.resolve_left hby
    by_cases h1 : es.size ≤ 1
    · have hnot : (!byT w && (!t.plain && decide (es.size > 1))) = false := by rw [decide_eq_false (by omega)]; simp
      rw [hnot]
      simp only [Bool.false_eq_true, ↓reduceIte]
      refine wpAny_bind (wpAny_pure ?_)
      have hN : ∀ (slot i : Nat) (s' : Shared) (A' : Around) (E' : Value → Shared → Prop) (Q' : Option (Value × Nat) → Shared → Prop), s'.heap.get? a = some o →
          Q' (match es[SetTable.below t.place slot]?, t.place[SetTable.below t.place slot]? with | some (_, x), some j => some (x, j + 1) | _, _ => none) s' → wpAny (model prog w) A' (setNext a slot i ep) Q' E' s' := fun slot i s' A' E' Q' ho' q => by
        unfold setNext
        refine wpAny_bind (wpAny_setState_of ho' hd hf ?_)
        dsimp only
        refine wpAny_bind (byText_ok ?_)
        rw [hbf, if_neg Bool.false_ne_true]
        have hdr : (!t.plain && decide (es.size > 1)) = false := by rw [decide_eq_false (by omega)]; simp
        show wpAny _ _ (if (!t.plain && decide (es.size > 1)) = true then _ else _) _ _ s'
        rw [hdr, if_neg Bool.false_ne_true]
        refine wpAny_bind (m := if (!t.led && !es.isEmpty) = true then unsupported "set:maker-not-led" else pure ()) ?_
        rw [hld]
        simp only [Bool.not_true, Bool.false_and, Bool.false_eq_true, ↓reduceIte]
        exact wpAny_pure (wpAny_pure q)
      by_cases h0 : es.size = 0
      · have ee : es = #[] := Array.eq_empty_of_size_eq_zero h0
        refine fin [] (fun _ => 0) rfl (by rw [ee]) fun i s' A' E' Q' ho' hi q => hN 0 i s' A' E' Q' ho' ?_
        rw [ee, Array.getElem?_eq_none (by simp)]
        exact q
      · obtain ⟨e0, he0⟩ : ∃ e0, es = #[e0] := by
          obtain ⟨l⟩ := es
          match l, h0, h1 with
          | [e0], _, _ => exact ⟨e0, rfl⟩
          | [], h, _ => exact absurd rfl h
          | _ :: _ :: _, _, h => simp at h
        obtain ⟨j, hj⟩ : ∃ j, t.place = #[j] := by
          rw [he0] at hps
          cases hpl : t.place with
          | mk l =>
            rw [hpl] at hps
            match l, hps with
            | [j], _ => exact ⟨j, rfl⟩
        refine fin [e0] (fun i => if i = 0 then 0 else j + 1) rfl (by rw [he0]) fun i s' A' E' Q' ho' hi q => hN _ i s' A' E' Q' ho' ?_
        have b0 : SetTable.below #[j] 0 = 0 := by
          simp [SetTable.below, SetTable.below.go]
        have b1 : SetTable.below #[j] (j + 1) = 1 := by
          simp [SetTable.below, SetTable.below.go]
        match i, hi with
        | 0, _ =>
          rw [if_pos rfl, hj, b0, he0]
          exact q
        | 1, _ =>
          rw [if_neg (by decide), hj, b1, he0]
          exact q
    · have hpl : t.plain = false := hp.resolve_left (by omega)
      have hyes : (!byT w && (!t.plain && decide (es.size > 1))) = true := by rw [hbf, hpl, decide_eq_true (by omega)]; rfl
      rw [hyes, if_pos rfl]
      have hr : (List.range es.size).length = es.size := List.length_range
      refine wpAny_bind (m := drawOrder es.size (List.range es.size)) ?_
      have dr := draw_ok (prog := prog) (w := w) (A := A.in1) (E := E) (List.range es.size) s
      rw [hr] at dr
      refine dr _ fun ps d hpp => ?_
      have hpl : ps.length = es.size := by rw [hpp.length_eq, hr]
      have hs : sizeLine = 16777216 := sizeLine_eq
      have sb : scanBound = 4096 := rfl
      refine wpAny_bind (wpAny_newTuple ?_ (by rw [List.length_map]; omega))
      generalize hot : ({ cls := .type "tuple", data := .seq (ps.map fun j : Nat => rawInt (j : Int)).toArray } : Obj) = ot
      have hg : (s.heap.push ot).get? s.heap.objs.size = some ot := Heap.get?_push_size _ (by rw [← hot]; rfl)
      have ho2 : (s.heap.push ot).get? a = some o := Heap.get?_push_of_some _ ho
      refine wpAny_bind (wpAny_setEpoch_of (s := { s with heap := s.heap.push ot, drawn := d }) ho2 hd hf ?_)
      refine wpAny_bind (wpAny_newObj_type (wpAny_pure ⟨_, rfl, "set_iterator", _, ⟨_, Heap.get?_push_size _ rfl, rfl⟩, slot_next.lookup, ?_⟩))
      have hsz : (s.heap.push ot).objs.size = s.heap.objs.size + 1 := Heap.size_push _ _
      have hfm : (ps.map fun p => es.getD p (0, Value.none)).Perm es.toList := by
        have e1 : (List.range es.size).map (fun p => es.getD p (0, Value.none)) = es.toList := by
          apply List.ext_getElem
          · simp
          · intro i g1 g2
            have g3 : i < es.size := by simpa using g1
            simp [Array.getD_eq_getD_getElem?, g3]
        exact (hpp.map _).trans (by rw [e1])
      obtain ⟨q1, q2⟩ := hlist _ hfm
      rw [List.map_map, List.map_map] at q1
      rw [List.map_map] at q2
      have hps' : ∀ p ∈ ps, p < es.size := fun p hp => List.mem_range.mp (hpp.mem_iff.mp hp)
      have hgo : ∀ (o2 : Obj), o2 = { cls := .type "set_iterator", data := .fields #[.ref s.heap.objs.size, rawInt 0, .ref a, rawInt (es.size : Int), rawInt (ep : Int)] } → Q (.ref (s.heap.objs.size + 1)) { s with heap := (s.heap.push ot).push o2, drawn := d } := fun o2 ho2' => by
       refine h ((s.heap.push ot).push o2) d (s.heap.objs.size + 1) [s.heap.objs.size + 1, a, s.heap.objs.size] (ps.map fun p => (es.getD p (0, Value.none)).2) _ (fun i h => h.get? a = some o ∧ h.get? s.heap.objs.size = some ot ∧ It h (s.heap.objs.size + 1) a (.ref s.heap.objs.size) i es.size ep) (fun A' hA' => by
           rw [List.length_map]
           exact walk_ref (ot := ot) (nt := 0) hA' (Nat.ne_of_lt (Nat.lt_succ_of_lt hlt)) (Nat.ne_of_lt (Nat.lt_succ_self _)) hd hf (by rw [← hot]) hps') ⟨Heap.get?_push_of_some _ ho2, Heap.get?_push_of_some _ hg, ?_⟩ (fun b o e => Heap.get?_push_of_some _ (Heap.get?_push_of_some _ e)) (Nat.le_succ _) (fun b hb => ?_) q1 q2
       · rw [← hsz]
         exact ⟨o2, Heap.get?_push_size _ (by rw [ho2']; rfl), by rw [ho2'], by rw [ho2']; rfl⟩
       · rcases List.mem_cons.mp hb with rfl | hb
         · exact .inr (Nat.le_succ _)
         · rcases List.mem_cons.mp hb with rfl | hb
           · exact .inl rfl
           · exact .inr (Nat.le_of_eq (List.mem_singleton.mp hb).symm)
      have z := hgo _ rfl
      rw [← hsz] at z
      exact z
end
end SS

set_option Elab.async false
set_option linter.all false
set_option maxRecDepth 100000
set_option maxHeartbeats 4000000
namespace SS
open PySem PyProof.Rows
theorem items_eq {xs : List Value} {acc : Array Value} (h : ItemsOf (fun i v => xs[i]? = some v) acc xs.length) : acc.toList = xs := by
  apply List.ext_getElem?
  intro i
  rw [Array.getElem?_toList]
  cases e : acc[i]? with
  | some v => exact (h.2 i v e).symm
  | none =>
    have : acc.size ≤ i := by
      rcases Nat.lt_or_ge i acc.size with z | z
      · rw [Array.getElem?_eq_getElem z] at e; cases e
      · exact z
    rw [List.getElem?_eq_none (by rw [← h.1]; exact this)]
section
variable {prog : Program} {w : World} {A : Around} {E : Value → Shared → Prop} {s : Shared}
theorem hint_ok {a : Addr} {ms : List Str} {Q : Bool → Shared → Prop} (hS : Is w s.heap a ms) (h : Q false s) : wpAny (model prog w) A (Builtin.List.listLengthHint (.ref a)) Q E s := by
  unfold Builtin.List.listLengthHint
  refine wpAny_bind (wpAny_specialOf hS.ty F.slot_set_len.lookup ?_)
  generalize hid : ("set.__len__" : String) = id0
  wp_delta
  rw [show splitId id0 = some ("set", "__len__") from by subst hid; decide +kernel]
  subst hid
  refine wpAny_bind (wpAny_isInstance (T := "set") (b := true) hS.ty sub_set_self ?_)
  refine wpAny_ite_split (fun hab => absurd hab (by decide)) (fun _ => ?_)
  refine wpAny_ite_split (fun _ => ?_) (fun hab => absurd (by decide +kernel) hab)
  refine wpAny_bind (wpAny_typeOf hS.ty ?_)
  exact wpAny_pure h
theorem extend_ok {a : Addr} {ms : List Str} {R : Result → Shared → Prop} (hh : A.handled = none) (hS : Is w s.heap a ms) (hz : ms.length ≤ sizeLine) (S : Addr) (res : Value) (h1 : S ≠ a) (hSl : s.heap.get? S = some { cls := .type "list", data := .seq #[] })
    (hR : ∀ s' acc' c' ss, (∀ b o, b ≠ S → s.heap.get? b = some o → s'.heap.get? b = some o) → s'.gens = s.gens → s'.os = s.os → s'.heap.get? S = some { cls := .type "list", dict := none, data := .seq acc' c', slots := #[] } → StrsAre acc'.toList ss → ss.Perm ms → R (.ok (.ret res)) s') :
    wpAny (model prog w) A.in1 (Builtin.List.listExtendWith (.ref S) (.ref a) res)
      (fun fin s' => match fin with | .done f => R (.ok f) s' | .again c' => c'.quiet = true ∧ codeAny (model prog w) A c' R s') (fun e s' => R (.error e) s') s := by
  unfold Builtin.List.listExtendWith
  refine wpAny_bind (wpAny_typeOf hS.ty ?_)
  have g1 : Builtin.List.listSameRef (.ref S) (.ref a) = false := by simp [Builtin.List.listSameRef, h1]
  have g2 : (Value.type "set" == Value.type "list") = false := by decide
  have g3 : (Value.type "set" == Value.type "tuple") = false := by decide
  simp only [g1, g2, g3, Bool.or_false, Bool.false_eq_true, if_false]
  refine wpAny_bind (iter_ok (A := A.in1) hS fun h2 d I fp xs ss St W st0 kp hIs hfp hss hpm => ?_)
  have hlt := Heap.lt_size hSl
  have hSI : S ≠ I := Nat.ne_of_lt (Nat.lt_of_lt_of_le hlt hIs)
  have hSf : S ∉ fp := fun z => by
    rcases hfp S z with e | e
    · exact h1 e
    · exact absurd hlt (Nat.not_lt.mpr e)
  have hS2 : Is w h2 a ms := hS.at fun o e => kp a o e
  refine wpAny_bind (wpAny_holding (hint_ok (s := { s with heap := h2, drawn := d }) hS2 ?_))
  have WS := (W A.in1 hh).toS
  have hxl : xs.length = ms.length := by rw [hss.length, hpm.length_eq]
  have last : ∀ (h0 : Heap) (c0 : Nat), (∀ b o, b ≠ S → h2.get? b = some o → h0.get? b = some o) → h0.get? S = some { cls := .type "list", data := .seq #[] c0 } →
      wpAny (model prog w) A.in1 (again (.builtin "list.extend.loop" ⟨[.ref S, .ref I, res], []⟩))
        (fun fin s' => match fin with | .done f => R (.ok f) s' | .again c' => c'.quiet = true ∧ codeAny (model prog w) A c' R s') (fun e s' => R (.error e) s') { s with heap := h0, drawn := d } := fun h0 c0 hk0 hS0 => by
    refine wpAny_pure ⟨plainId_quiet F.plain_extend_loop _, codeAny_extend_loopS WS (by omega) S hSf res xs.length 0 _ #[] c0 rfl (Nat.zero_le _) ?_ hS0 (ItemsOf.nil _) fun s' acc' c' hm hS' hacc => ?_⟩
    · exact (W A.in1 hh).frame 0 h2 h0 st0 fun b hb o e => hk0 b o (fun z => hSf (z ▸ hb)) e
    · refine hR s' acc' c' ss (fun b o hb e => ?_) hm.gens hm.os hS' (by rw [items_eq hacc]; exact hss) hpm
      by_cases hbI : b = I
      · subst hbI
        exact absurd (Heap.lt_size e) (Nat.not_lt.mpr hIs)
      · exact hm.heap b o (by simp [hb, hbI]) (hk0 b o hb (kp b o e))
  refine wpAny_ite_split (fun _ => ?_) (fun hab => absurd (by decide +kernel) hab)
  refine wpAny_bind (wpAny_rule ?_)
  have hSl2 : h2.get? S = some { cls := .type "list", data := .seq #[] } := kp S _ hSl
  refine wpAny_bind (m := ((do updateSeq S (fun z => z.push .none); updateSeq S (fun z => z.pop)) : Sem Unit)) (wpAny_bind (wpAny_updateSeq (s := { s with heap := h2, drawn := d }) hSl2 rfl ?_))
  have k1 := Heap.get?_update_self (Obj.mapSeq (fun z => z.push .none)) hSl2 rfl
  refine wpAny_updateSeq k1 rfl ?_
  have k2 := Heap.get?_update_self (Obj.mapSeq (fun z => z.pop)) k1 rfl
  exact last _ _ (fun b o hb e => (Heap.get?_update_other _ _ (Ne.symm hb)).trans ((Heap.get?_update_other _ _ (Ne.symm hb)).trans e)) k2
theorem collect_ok {a : Addr} {ms : List Str} {Q : List Value → Shared → Prop} (hh : A.handled = none) (hS : Is w s.heap a ms) (hz : ms.length ≤ sizeLine)
    (hQ : ∀ s' vs ss, (∀ b o, s.heap.get? b = some o → s'.heap.get? b = some o) → s'.gens = s.gens → s'.os = s.os → StrsAre vs ss → ss.Perm ms → Q vs s') : wpAny (model prog w) A (collect (.ref a)) Q E s := by
  have hlt := Heap.lt_size hS.there.choose_spec
  unfold collect
  refine wpAny_bind (wpAny_runValue (codeAny_builtin F.entry_proto_collect ?_))
  rw [Around.under_plainId F.plain_proto_collect]
  refine wpAny_bind (m := newList []) (wpAny_newObj_type (wpAny_pure ⟨plainId_quiet F.plain_list_iadd _, codeAny_builtin F.entry_list_iadd ?_⟩))
  rw [Around.under_plainId F.plain_list_iadd]
  have hSl : (s.heap.push { cls := .type "list", data := .seq #[] }).get? s.heap.objs.size = some { cls := .type "list", data := .seq #[] } := Heap.get?_push_size _ rfl
  have go : ∀ R : Result → Shared → Prop, (∀ s' acc' c' ss, (∀ b o, s.heap.get? b = some o → s'.heap.get? b = some o) → s'.gens = s.gens → s'.os = s.os → s'.heap.get? s.heap.objs.size = some { cls := .type "list", dict := none, data := .seq acc' c', slots := #[] } → StrsAre acc'.toList ss → ss.Perm ms → R (.ok (.ret (.ref s.heap.objs.size))) s') →
      wpAny (model prog w) A.in1 (Builtin.List.listExtendWith (.ref s.heap.objs.size) (.ref a) (.ref s.heap.objs.size))
        (fun fin s' => match fin with | .done f => R (.ok f) s' | .again c' => c'.quiet = true ∧ codeAny (model prog w) A c' R s') (fun e s' => R (.error e) s') { s with heap := s.heap.push { cls := .type "list", data := .seq #[] } } := fun R hR =>
    extend_ok (A := A) (s := { s with heap := s.heap.push { cls := .type "list", data := .seq #[] } }) hh (hS.at fun o e => Heap.get?_push_of_some _ e) hz s.heap.objs.size (.ref s.heap.objs.size) (Nat.ne_of_gt hlt) hSl
      fun s' acc' c' ss kp g1 g2 e1 e2 e3 => hR s' acc' c' ss (fun b o e => kp b o (Nat.ne_of_lt (Heap.lt_size e)) (Heap.get?_push_of_some _ e)) g1 g2 e1 e2 e3
  refine go (fun r s' => match r with
    | .ok (.ret v) => wpAny (model prog w) A (match v with
      | .ref a => do
        match (← load a).data with
        | .seq xs _ => pure xs.toList
        | _ => unsupported "internal:collect"
      | _ => unsupported "internal:collect") Q E s'
    | .ok _ => False
    | .error e => E e s') fun s' acc' c' ss kp g1 g2 hS' e2 e3 => ?_
  refine wpAny_bind (m := load s.heap.objs.size) (wpAny_load hS' (wpAny_pure ?_))
  exact hQ s' acc'.toList ss kp g1 g2 e2 e3
theorem code_new1 (a : Value) {Q₁ : Value → Shared → Prop} (h : Q₁ (.ref s.heap.objs.size) { s with heap := s.heap.push (freshO w) }) : codeAny (model prog w) A (.call (.builtin "set.__new__") ⟨[.type "set", a], []⟩) (wants Q₁ E) s := by
  refine codeAny_of_tree (show wpAny _ A.in1 (do checkBuiltinCall "set.__new__" ⟨[.type "set", a], []⟩; again (.builtin "set.__new__" ⟨[.type "set", a], []⟩)) _ _ s from ?_)
  refine wpAny_bind (wpAny_of_eq (F.newCall_set_1 a) (wpAny_pure ⟨plainId_quiet F.plain_set_new _, codeAny_builtin F.entry_set_new ?_⟩))
  rw [Around.under_plainId F.plain_set_new _]
  unfold Builtin.«set.__new__» Builtin.Frozenset.newClass
  have hsub := sub_set_self
  obtain ⟨hp, g, d, tk, os⟩ := s
  dsimp only
  wp_walk
  refine wpAny_askSetting (wpAny_pure ?_)
  dsimp only
  simp only [newObj]
  refine wpAny_bind (wpAny_alloc (wpAny_pure (wpAny_pure h)))
end
end SS

set_option Elab.async false
set_option linter.all false
set_option maxRecDepth 100000
set_option maxHeartbeats 4000000
namespace L2
open PySem PySem.Spec PyProof.Rows
namespace SE
noncomputable def Of (w : World) (h : Heap) (D : Addr) (ls : List (List Nat)) (i : Nat) : Prop := ∃ ms, SS.Is w h D ms ∧ (∀ x, x ∈ ms ↔ x ∈ (ls.take i).map tx) ∧ ms.length ≤ i
theorem Of.at {w : World} {h h' : Heap} {D : Addr} {ls : List (List Nat)} {i : Nat} (x : Of w h D ls i) (k : ∀ o, h.get? D = some o → h'.get? D = some o) : Of w h' D ls i := let ⟨ms, a, b⟩ := x; ⟨ms, a.at k, b⟩
section
variable {prog : Program} {w : World} {A : Around} {R : Result → Shared → Prop} {J : Addr} {fp wr : List Addr} {G : Array GenState → Array GenState → Prop} {n : Nat} {P : Nat → Value → Prop} {St : Nat → Shared → Prop}
theorem loopI (W : WalksS prog w A.in1 J fp wr G n P St) {D : Addr} (hD : D ∉ fp) (ls : List (List Nat)) (hv : ∀ i v, P i v → ∃ t, v = Value.str (tx (ls.getD i [])) t) (hn : n + 1 < scanBound) (hnl : n ≤ ls.length) :
    ∀ (k i : Nat) (s : Shared), n - i = k → i ≤ n → St i s → Of w s.heap D ls i →
      (∀ s', Moved (D :: wr) G s s' → Of w s'.heap D ls n → R (.ok (.ret .none)) s') → codeAny (model prog w) A (.builtin "set.update.loop" ⟨[.ref D, .ref J], []⟩) R s := by
  have hDw : D ∉ wr := fun z => hD (W.sub _ z)
  have up : ∀ b ∈ wr, b ∈ D :: wr := fun b hb => .tail _ hb
  intro k
  induction k with
  | zero =>
    intro i s hk hi st hs hR
    obtain rfl : i = n := by omega
    refine codeAny_builtin PyProof.Rows.F.entry_set_update_loop ?_
    rw [Around.under_plainId PyProof.Rows.F.plain_set_update_loop]
    refine wpAny_bind (m := pyNext (.ref J)) (W.done s _ _ st fun s2 mv => ?_)
    exact (show wpAny _ A.in1 (ret Value.none) _ _ s2 from wpAny_pure (hR s2 (mv.mono up) (hs.at fun o e => mv.heap D o hDw e)))
  | succ k ih =>
    intro i s hk hi st hs hR
    have hlt : i < n := by omega
    refine codeAny_builtin PyProof.Rows.F.entry_set_update_loop ?_
    rw [Around.under_plainId PyProof.Rows.F.plain_set_update_loop]
    refine wpAny_bind (m := pyNext (.ref J)) (W.item i s _ _ hlt st fun v s2 pv st2 mv => ?_)
    obtain ⟨t, rfl⟩ := hv i v pv
    have hs2 := hs.at fun o e => mv.heap D o hDw e
    refine wpAny_bind (m := holding [Value.str (tx (ls.getD i [])) t] (setAdd D (.str (tx (ls.getD i [])) t))) (wpAny_holding ?_)
    unfold setAdd
    refine wpAny_holding (wpAny_bind ((PySem.strKind prog w).pyHash (k := tx (ls.getD i [])) (strKind_is _ _ _ _) ?_))
    obtain ⟨ms, hi1, hi2, hi3⟩ := hs2
    refine SS.add_ok (s := { s2 with toks := s2.toks + 1 }) hi1 (by omega) fun h3 ms3 sb i3 m3 l3 => ?_
    have x4 : Of w h3 D ls (i + 1) := by
      refine ⟨ms3, i3, fun x => ?_, by omega⟩
      have e : ls.take (i + 1) = ls.take i ++ [ls.getD i []] := by
        rw [List.take_add_one, List.getD_eq_getElem?_getD, List.getElem?_eq_getElem (by omega)]
        rfl
      rw [m3, hi2, e, List.map_append, List.mem_append, List.map_cons, List.map_nil, List.mem_singleton]
    refine wpAny_pure ⟨plainId_quiet PyProof.Rows.F.plain_set_update_loop _, ih (i + 1) _ (by omega) hlt (W.frame _ s2 _ _ st2 (Nat.le_succ _) fun b hb o e => (sb.2 b fun z => hD (z ▸ hb)).trans e) x4 fun s5 m5 x5 => ?_⟩
    refine hR s5 (Moved.trans W.gtrans ((mv.mono up).then_heap (Nat.le_succ _) fun b o hb e => (sb.2 b fun z => hb (z ▸ .head _)).trans e) m5) x5

variable {E : Value → Shared → Prop} {s : Shared}
theorem call_ofI {l : Addr} {its : Array Value} {ls : List (List Nat)} {Q : Value → Shared → Prop} (hh : A.handled = none) (hl : s.heap.IsList l its) (hv : ∀ i v, its[i]? = some v → ∃ t, v = Value.str (tx (ls.getD i [])) t) (hn : its.size + 1 < scanBound) (hnl : its.size ≤ ls.length)
    (h : ∀ (h' : Heap) (tk : Nat), Of w h' s.heap.objs.size ls its.size → (∀ b o, s.heap.get? b = some o → h'.get? b = some o) → Q (.ref s.heap.objs.size) { s with heap := h', toks := tk }) :
    wpAny (model prog w) A (call (.type "set") [.ref l]) Q E s := by
  obtain ⟨mc, mt, f0⟩ := F.called_set.mro
  have f1 := F.called_set.made; have f2 := F.called_set.sub; have f3 := F.called_set.notType; have f4 := F.called_set.canCreate; have f5 := F.typeCall_set_1 (.ref l)
  refine wpAny_call (codeAny_of_tree (show wpAny _ _ (callAny (.type "set") _) _ _ _ from wpAny_pure ⟨Code.quiet_builtin _ (by decide +kernel), codeAny_builtin F.entry_type_call ?_⟩))
  rw [Around.under_plain (weight_type_call_type "set" [.ref l] []) rfl]
  repeat (any_goals (first | wp_step | assumption))
  refine codeAny_mono (SS.code_new1 (.ref l) (E := E) (Q₁ := fun ob s1 => ob = .ref s.heap.objs.size ∧ s1 = { s with heap := s.heap.push (SS.freshO w) }) ⟨rfl, rfl⟩) fun r s1 hr => ?_
  cases r with
  | error e => exact hr
  | ok fl =>
    cases fl with
    | ret ob =>
      obtain ⟨rfl, rfl⟩ := hr
      generalize hob : SS.freshO w = ob
      have hD : (s.heap.push ob).get? s.heap.objs.size = some ob := Heap.get?_push_size _ (by rw [← hob]; rfl)
      have hT : Shared.TypeIs { s with heap := s.heap.push ob } (.ref s.heap.objs.size) "set" := ⟨_, hD, by rw [← hob]; rfl⟩
      have f6 := F.called_set.init.lookup; have f7 := F.called_set.init.bind (.ref s.heap.objs.size)
      repeat (any_goals (first | wp_step | assumption))
      refine codeAny_mono (codeAny_call_builtin (R := wants (fun r s2 => r = .none ∧ ∃ h' tk, s2 = { s with heap := h', toks := tk } ∧ Of w h' s.heap.objs.size ls its.size ∧ ∀ b o, s.heap.get? b = some o → h'.get? b = some o) E)
        F.called_set.init.plain F.entry_set_init (check_set_init_1 hT ?_)) fun r2 s2 hr2 => ?_
      · obtain ⟨⟨oc, od, odt, osl⟩, hol, hcl, nl, hdl⟩ := id hl
        simp only at hcl hdl
        subst hcl hdl
        have hol' : (s.heap.push ob).get? l = some { cls := .type "list", dict := od, data := .seq its nl, slots := osl } := Heap.get?_push_of_some _ hol
        have f8 := F.sub_list_set; have f9 := F.sub_list_frozenset
        have f10 : (Value.type "list" == Value.type "dict") = false := by decide
        have hl1 : (s.heap.push ob).IsList l its := ⟨_, hol', rfl, nl, rfl⟩
        subst hob
        unfold Builtin.«set.__init__» noKeywords Builtin.Frozenset.updateFrom
        generalize hPI : pyIter = PI
        wp_walk
        subst hPI
        refine wpAny_pyIter_list hl1 ?_
        refine wpAny_bind (wpAny_runValue ?_)
        have hlt : l < s.heap.objs.size := Heap.lt_size hol
        have hh3 : A.in1.in1.in1.handled = none := by simp [hh]
        have hsz : (s.heap.push (SS.freshO w)).objs.size = s.heap.objs.size + 1 := Heap.size_push _ _
        have hne : l ≠ (s.heap.push (SS.freshO w)).objs.size := by rw [hsz]; exact Nat.ne_of_lt (Nat.lt_succ_of_lt hlt)
        have hfp : s.heap.objs.size ∉ [(s.heap.push (SS.freshO w)).objs.size, l] := by
          rw [hsz]
          intro z
          rcases List.mem_cons.mp z with e | e
          · exact Nat.ne_of_lt (Nat.lt_succ_self _) e
          · exact Nat.ne_of_gt hlt (List.mem_singleton.mp e)
        refine loopI ((Walks.list hh3 _ l hne its).toS) (D := s.heap.objs.size) hfp ls hv hn hnl (its.size - 0) 0 _ (by omega) (Nat.zero_le _) ⟨⟨_, Heap.get?_push_size _ rfl, rfl, rfl⟩, hl1.push _⟩ ?_ fun s3 mv x3 => ?_
        · have hg : ((s.heap.push (SS.freshO w)).push { cls := .type "list_iterator", data := .fields #[.ref l, .int 0 0] }).get? s.heap.objs.size = some (SS.freshO w) := Heap.get?_push_of_some _ hD
          exact ⟨[], (SS.Is.fresh s.heap).at fun o e => Heap.get?_push_of_some _ e, fun x => by simp, Nat.zero_le _⟩
        · obtain ⟨h3, g3, d3, tk3, os3⟩ := s3
          obtain rfl : g3 = s.gens := mv.gens
          obtain rfl : d3 = s.drawn := mv.drawn
          obtain rfl : os3 = s.os := mv.os
          refine wpAny_pure (show wpAny _ _ (ret Value.none) _ _ _ from wpAny_pure ⟨rfl, h3, tk3, rfl, x3, fun c o e => ?_⟩)
          have hc := Heap.lt_size e
          exact mv.heap c o (show c ∉ [s.heap.objs.size, (s.heap.push (SS.freshO w)).objs.size] by
            rw [hsz]
            intro z
            rcases List.mem_cons.mp z with e | e
            · exact Nat.ne_of_lt hc e
            · exact Nat.ne_of_lt (Nat.lt_succ_of_lt hc) (List.mem_singleton.mp e)) (Heap.get?_push_of_some _ (Heap.get?_push_of_some _ e))
      · cases r2 with
        | error e => exact hr2
        | ok fl2 =>
          cases fl2 with
          | ret r =>
            obtain ⟨rfl, h3, tk, rfl, x3, k3⟩ := hr2
            repeat (any_goals (first | wp_step | assumption))
            exact h _ _ x3 k3
          | _ => exact hr2.elim
    | _ => exact hr.elim
end
end SE
noncomputable def SetI (w : World) (D : Addr) (ms : List (List Nat)) : HO := .ext fun h => SS.Is w h D (ms.map tx)
theorem mem_tx {ls : List (List Nat)} {x : Str} : x ∈ ls.map tx ↔ x.cps.toList ∈ ls := by
  rw [List.mem_map]
  constructor
  · rintro ⟨l, h, rfl⟩
    rw [tx_cps]
    exact h
  · intro h
    exact ⟨_, h, tx_eta x⟩
theorem is_perm {w : World} {h : Heap} {D : Addr} {ms ms' : List Str} (x : SS.Is w h D ms) (p : ms.Perm ms') : SS.Is w h D ms' := by
  obtain ⟨o, es, ep, t, ho, hex, hd, hel, hnd, r⟩ := x
  exact ⟨o, es, ep, t, ho, hex, hd, ⟨hel.1, hel.2.trans p⟩, p.nodup_iff.mp hnd, r⟩
theorem is_nodup {w : World} {h : Heap} {D : Addr} {ms : List Str} (x : SS.Is w h D ms) : ms.Nodup := let ⟨_, _, _, _, _, _, _, _, n, _⟩ := x; n
theorem nodup_tx {ls : List (List Nat)} (h : ls.Nodup) : (ls.map tx).Nodup := by
  refine List.pairwise_map.mpr (h.imp fun hne e => hne (tx_inj e))
section
variable {X : Cx}
theorem setI_ok {pins : List (Addr × Obj)} {σ : St} {H : Hp} {s : Shared} {D : Addr} {ms : List (List Nat)} (I : Inv X pins σ H s) (h : H D = some (SetI X.w D ms)) : SS.Is X.w s.heap D (ms.map tx) := by
  obtain ⟨x, _⟩ := (show ObjOk X.prog X.w H s.heap D (SetI X.w D ms) from I.hok D _ h)
  exact x
theorem call_setI (hc : X.calm = true) : CallR X (.type "set") (fun xs H Q => ∃ (p : Addr) (ls : List (List Nat)), xs = [.ref p] ∧ SqL X.K H p (ls.map T) ∧ ls.length + 1 < 4096 ∧ ∀ D, H D = none → Q (.ref D) (upd H D (SetI X.w D (uniq ls)))) := by
  intro pins s σ H xs us Q I r h
  obtain ⟨p, ls, rfl, hq, hz, q⟩ := h
  obtain ⟨u, rfl, ru⟩ := vals1 r
  cases ru
  obtain ⟨its, rv, pl, _⟩ := I.list hq
  have hlen := rv.length
  rw [List.length_map] at hlen
  refine SE.call_ofI (I.ok.hd hc) pl.isList (ls := ls) (fun i v e => str_at rv (by simpa using e)) (by rw [List.size_toArray]; unfold scanBound; omega) (by rw [List.size_toArray]; omega) fun h' tk x k => ?_
  obtain ⟨ms, i1, i2, _⟩ := x
  have x : SS.Is X.w h' s.heap.objs.size ((uniq ls).map tx) := by
    refine is_perm i1 ((List.perm_ext_iff_of_nodup (is_nodup i1) (nodup_tx (uniq_nodup ls))).mpr fun y => ?_)
    rw [i2, mem_tx, mem_tx, uniq_mem, List.size_toArray, ← hlen, List.take_length]
  have hf : H s.heap.objs.size = none := I.hok.fresh (Nat.le_refl _)
  refine ⟨.ref s.heap.objs.size, _, I.laid (t' := tk) k (Nat.le_refl _) (o := SetI X.w s.heap.objs.size (uniq ls)) ⟨x, x.there, fun h1 h2 x1 kk => x1.at kk⟩, rfl, q _ hf⟩
theorem op_orI : OpR X (binaryOp .BitOr) (fun x y H Q => ∃ (a b : Addr) (ls ms : List (List Nat)), x = .ref a ∧ y = .ref b ∧ a ≠ b ∧ H a = some (SetI X.w a ls) ∧ H b = some (SetI X.w b ms) ∧ ls ≠ [] ∧ ls.length + ms.length ≤ 128 ∧
    ∀ (D : Addr) (qs : List (List Nat)), H D = none → qs.Nodup → qs.length ≤ ls.length + ms.length → (∀ z, z ∈ qs ↔ z ∈ ls ∨ z ∈ ms) → Q (.ref D) (upd H D (SetI X.w D qs))) := by
  intro pins s σ H x y v u Q I rx ry h
  obtain ⟨a, b, ls, ms, rfl, rfl, hab, h1, h2, hne, hsz, q⟩ := h
  cases rx
  cases ry
  refine SS.or_ok hab (setI_ok I h1) (setI_ok I h2) (fun z => hne (List.map_eq_nil_iff.mp z)) (by rw [List.length_map, List.length_map]; exact hsz) fun h' ms' kp i hm hl => ?_
  have em : (ms'.map fun x => x.cps.toList).map tx = ms' := by
    rw [List.map_map]
    conv => rhs; rw [← List.map_id ms']
    exact List.map_congr_left fun x _ => tx_eta x
  have hnd : (ms'.map fun x => x.cps.toList).Nodup := List.pairwise_map.mpr ((is_nodup i).imp fun {a b} hne e => hne ((tx_eta a).symm.trans ((congrArg tx e).trans (tx_eta b))))
  have x : SS.Is X.w h' s.heap.objs.size ((ms'.map fun x => x.cps.toList).map tx) := by rw [em]; exact i
  refine ⟨.ref s.heap.objs.size, _, I.laid (t' := s.toks) kp (Nat.le_refl _) (o := SetI X.w s.heap.objs.size (ms'.map fun x => x.cps.toList)) ⟨x, x.there, fun h1 h2 x1 kk => x1.at kk⟩, rfl, q _ _ (I.hok.fresh (Nat.le_refl _)) hnd (by rw [List.length_map]; rw [List.length_map, List.length_map] at hl; exact hl) fun z => ?_⟩
  have e := hm (tx z)
  rw [mem_tx, mem_tx, tx_cps] at e
  rw [← e, ← em, mem_tx, tx_cps, em]
end
end L2

set_option Elab.async false
set_option linter.all false
set_option maxRecDepth 100000
namespace L2
open PySem PySem.Spec PyProof.Rows
set_option genInjectivity false in
structure Reads (J : It) (H : Hp) (vs : List V) : Prop where
  go : ∀ i H', Same H H' → i < vs.length → J.go i H'
  yl : ∀ i H' y H2, Same H H' → J.yld i H' y H2 → H2 = H' ∧ vs[i]? = some y
  st : ∀ H', Same H H' → J.stop vs.length H'
theorem reads_list {K : PySem.W.Frag} {a : Addr} {H : Hp} {vs : List V} (h : SqL K H a vs) : Reads (Itl K a) H vs :=
  ⟨fun i H' s hi => ⟨vs, vs[i], s.seq h, List.getElem?_eq_getElem hi⟩, fun i H' y H2 s ⟨e1, e2⟩ => ⟨e1, e2 vs (s.seq h)⟩, fun H' s => ⟨vs, s.seq h, Nat.le_refl _⟩⟩
theorem tupOn {K : PySem.W.Frag} {H H' : Hp} {p : Addr} {xs : List V} (s : Same H H') (h : SqT K H p xs) : SqT K H' p xs := by
  rcases h with (h | ⟨q, h⟩) | h
  · exact .inl (.inl (s _ _ h))
  · exact .inl (.inr ⟨q, s _ _ h⟩)
  · exact .inr h
theorem reads_tup {K : PySem.W.Frag} {a : Addr} {H : Hp} {vs : List V} (h : SqT K H a vs) : Reads (Itt K a) H vs :=
  ⟨fun i H' s hi => ⟨vs, vs[i], tupOn s h, List.getElem?_eq_getElem hi⟩, fun i H' y H2 s ⟨e1, e2⟩ => ⟨e1, e2 vs (tupOn s h)⟩, fun H' s => ⟨vs, tupOn s h, Nat.le_refl _⟩⟩
theorem compG {J : It} {vs : List V} {te : TE} {σ : St} {H : Hp} {Q : VK} (f : V → V) (rd : Reads J H vs) (hn : vs.length ≤ sizeLine)
    (he : ∀ x H', x ∈ vs → Same H H' → ∀ N : V → Hp → Prop, (∀ H'', Same H' H'' → N (f x) H'') → te (some x :: σ) H' N)
    (hq : ∀ D H', H D = none → Same H H' → H' D = some (.lst (vs.map f)) → Q (.ref D) H') : compAt te σ Q J H := by
  intro D hD
  refine ⟨fun i m ys H2 => m = vs.length - i ∧ i ≤ vs.length ∧ ys = (vs.take i).map f ∧ Same H H2 ∧ H2 D = some (.lst ys), ⟨vs.length, rfl, Nat.zero_le _, rfl, fun b o e => ?_, upd_same⟩, ?_⟩
  · rw [upd_ne (ne_of_none e hD)]
    exact e
  · rintro i m ys H2 ⟨rfl, hi, rfl, hs, hd⟩
    by_cases hlt : i < vs.length
    · have hx : vs[i]? = some vs[i] := List.getElem?_eq_getElem hlt
      refine .inr ⟨rd.go i H2 hs hlt, by rw [List.length_map, List.length_take]; omega, fun v H' => v = f vs[i] ∧ Same H2 H', fun v H' ⟨ev, hs'⟩ => ⟨hs' D _ hd, vs.length - (i + 1), by omega, rfl, hlt, ?app, fun b o e => ?kp, upd_same⟩, fun y H' hy => ?stp⟩
      case app =>
        rw [ev, List.take_add_one, hx, List.map_append]
        rfl
      case kp =>
        rw [upd_ne (ne_of_none e hD)]
        exact hs' b o (hs b o e)
      case stp =>
        obtain ⟨rfl, e2⟩ := rd.yl i H2 y H' hs hy
        have e4 : y = vs[i] := by rw [hx] at e2; exact (Option.some.inj e2).symm
        subst e4
        exact he _ _ (List.getElem_mem hlt) hs _ fun H'' h'' => ⟨rfl, h''⟩
    · have e : i = vs.length := by omega
      subst e
      rw [List.take_length] at hd
      exact .inl ⟨rd.st H2 hs, hq D H2 hD hs hd⟩
theorem compFG {J : It} {vs : List V} {tc : TT} {te : TE} {σ : St} {H : Hp} {Q : VK} (p : V → Bool) (f : V → V) (rd : Reads J H vs) (hn : vs.length ≤ sizeLine)
    (ht : ∀ x H', x ∈ vs → Same H H' → ∀ N : Bool → Hp → Prop, (∀ H'', Same H' H'' → N (p x) H'') → tc (some x :: σ) H' N)
    (he : ∀ x H', x ∈ vs → p x = true → Same H H' → ∀ N : V → Hp → Prop, (∀ H'', Same H' H'' → N (f x) H'') → te (some x :: σ) H' N)
    (hq : ∀ D H', H D = none → Same H H' → H' D = some (.lst ((vs.filter p).map f)) → Q (.ref D) H') : compAtF tc te σ Q J H := by
  intro D hD
  refine ⟨fun i m ys H2 => m = vs.length - i ∧ i ≤ vs.length ∧ ys = ((vs.take i).filter p).map f ∧ Same H H2 ∧ H2 D = some (.lst ys), ⟨vs.length, rfl, Nat.zero_le _, rfl, fun b o e => ?_, upd_same⟩, ?_⟩
  · rw [upd_ne (ne_of_none e hD)]
    exact e
  · rintro i m ys H2 ⟨rfl, hi, rfl, hs, hd⟩
    by_cases hlt : i < vs.length
    · have hx : vs[i]? = some vs[i] := List.getElem?_eq_getElem hlt
      refine .inr ⟨rd.go i H2 hs hlt, by have := filter_take_len p vs i; rw [List.length_map]; omega, fun v H' => v = f vs[i] ∧ p vs[i] = true ∧ Same H2 H', fun v H' ⟨ev, hp, hs'⟩ => ⟨hs' D _ hd, vs.length - (i + 1), by omega, rfl, hlt, ?app, fun b o e => ?kp, upd_same⟩,
        fun H' => p vs[i] = false ∧ Same H2 H', fun H' ⟨hp, hs'⟩ => ⟨vs.length - (i + 1), by omega, rfl, hlt, ?skp, fun b o e => hs' b o (hs b o e), hs' D _ hd⟩, fun y H' hy => ?stp⟩
      case app =>
        rw [ev, take_filter p vs i _ hx, hp, List.map_append]
        rfl
      case kp =>
        rw [upd_ne (ne_of_none e hD)]
        exact hs' b o (hs b o e)
      case skp =>
        rw [take_filter p vs i _ hx, hp]
        simp
      case stp =>
        obtain ⟨rfl, e2⟩ := rd.yl i H2 y H' hs hy
        have e4 : y = vs[i] := by rw [hx] at e2; exact (Option.some.inj e2).symm
        subst e4
        refine ht _ _ (List.getElem_mem hlt) hs _ fun H'' h'' => ?_
        by_cases hp : p vs[i] = true
        · rw [if_pos hp]
          exact he _ _ (List.getElem_mem hlt) hp (hs.trans h'') _ fun H3 h3 => ⟨rfl, hp, h''.trans h3⟩
        · rw [if_neg hp]
          exact ⟨by simpa using hp, h''⟩
    · have e : i = vs.length := by omega
      subst e
      rw [List.take_length] at hd
      exact .inl ⟨rd.st H2 hs, hq D H2 hD hs hd⟩
noncomputable def unT : V → List Nat
  | .str x => x.cps.toList
  | _ => []
theorem unT_T (l : List Nat) : unT (T l) = l := tx_cps l
section
variable {X : Cx}
theorem op_in_seqK (K : PySem.W.Frag) (h : X.K = K) : OpR X (compareOp .In) (rIn K false) := by subst h; exact op_in_seq
end
theorem map_unT {f : List Nat → V} (ls : List (List Nat)) : (ls.map T).map (fun x => f (unT x)) = ls.map f := by
  rw [List.map_map]
  exact List.map_congr_left fun l _ => by show f (unT (T l)) = f l; rw [unT_T]
theorem filter_unT {p : List Nat → Bool} : ∀ ls : List (List Nat), (ls.map T).filter (fun x => p (unT x)) = (ls.filter p).map T
  | [] => rfl
  | l :: ls => by
    rw [List.map_cons, List.filter_cons, List.filter_cons, unT_T, filter_unT ls]
    split <;> rfl
end L2

set_option Elab.async false
set_option linter.all false
set_option maxRecDepth 100000
set_option maxHeartbeats 4000000
namespace SS
open PySem PyProof.Rows L2
section
variable {prog : Program} {w : World} {A : Around} {E : Value → Shared → Prop} {s : Shared}
theorem dhint_ok {a : Addr} {Q : Bool → Shared → Prop} (hS : s.TypeIs (.ref a) "dict") (h : Q false s) : wpAny (model prog w) A (Builtin.List.listLengthHint (.ref a)) Q E s := by
  unfold Builtin.List.listLengthHint
  refine wpAny_bind (wpAny_specialOf hS F.slot_dict_len.lookup ?_)
  generalize hid : ("dict.__len__" : String) = id0
  wp_delta
  rw [show splitId id0 = some ("dict", "__len__") from by subst hid; decide +kernel]
  subst hid
  refine wpAny_bind (wpAny_isInstance (T := "dict") (b := true) hS F.sub_dict_dict ?_)
  refine wpAny_ite_split (fun hab => absurd hab (by decide)) (fun _ => ?_)
  refine wpAny_ite_split (fun _ => ?_) (fun hab => absurd (by decide +kernel) hab)
  refine wpAny_bind (wpAny_typeOf hS ?_)
  exact wpAny_pure h
noncomputable def KeyAt (vs : List (Key × Value)) (i : Nat) (v : Value) : Prop := ∃ k x, vs[i]? = some (k, x) ∧ keyIs k v = true
theorem dat_push {h : Heap} {a : Addr} {vs : List (Key × Value)} {ep : Nat} {ob : Obj} (hD : Heap.DictAt (mixKind prog w) h a vs ep) : Heap.DictAt (mixKind prog w) (h.push ob) a vs ep := by
  obtain ⟨o, es, g, r⟩ := hD
  exact ⟨o, es, Heap.get?_push_of_some _ g, r⟩
theorem dat_ty {a : Addr} {vs : List (Key × Value)} {ep : Nat} (hD : Heap.DictAt (mixKind prog w) s.heap a vs ep) : s.TypeIs (.ref a) "dict" := by
  obtain ⟨o, es, g, r⟩ := hD
  exact (show Heap.DictOf (mixKind prog w) s.heap a vs from ⟨o, es, ep, g, r⟩).typeIs
theorem dextend_ok {a : Addr} {vs : List (Key × Value)} {ep : Nat} {R : Result → Shared → Prop} (hh : A.handled = none) (hd : (a == sysModules) = false) (hD : Heap.DictAt (mixKind prog w) s.heap a vs ep) (hz : vs.length ≤ sizeLine) (S : Addr) (res : Value) (h1 : S ≠ a) (hSl : s.heap.get? S = some { cls := .type "list", data := .seq #[] })
    (hR : ∀ s' acc' c', (∀ b o, b ≠ S → s.heap.get? b = some o → s'.heap.get? b = some o) → s'.gens = s.gens → s'.os = s.os → s'.heap.get? S = some { cls := .type "list", dict := none, data := .seq acc' c', slots := #[] } → ItemsOf (KeyAt vs) acc' vs.length → R (.ok (.ret res)) s') :
    wpAny (model prog w) A.in1 (Builtin.List.listExtendWith (.ref S) (.ref a) res)
      (fun fin s' => match fin with | .done f => R (.ok f) s' | .again c' => c'.quiet = true ∧ codeAny (model prog w) A c' R s') (fun e s' => R (.error e) s') s := by
  unfold Builtin.List.listExtendWith
  refine wpAny_bind (wpAny_typeOf (dat_ty hD) ?_)
  have g1 : Builtin.List.listSameRef (.ref S) (.ref a) = false := by simp [Builtin.List.listSameRef, h1]
  have g2 : (Value.type "dict" == Value.type "list") = false := by decide
  have g3 : (Value.type "dict" == Value.type "tuple") = false := by decide
  simp only [g1, g2, g3, Bool.or_false, Bool.false_eq_true, if_false]
  refine wpAny_bind (wpAny_pyIter_dict hd hD ?_)
  have hlt := Heap.lt_size hSl
  have hal : a < s.heap.objs.size := by obtain ⟨o, es, g, r⟩ := hD; exact Heap.lt_size g
  generalize hio : ({ cls := Value.type "dict_keyiterator", data := Data.fields #[Value.ref a, Value.int 0 0, Value.int (↑vs.length) 0, Value.int (↑ep) 0] } : Obj) = io
  have hIs : s.heap.objs.size ≤ s.heap.objs.size := Nat.le_refl _
  have hSI : S ≠ s.heap.objs.size := Nat.ne_of_lt hlt
  have haI : a ≠ s.heap.objs.size := Nat.ne_of_lt hal
  have kp : ∀ b o, s.heap.get? b = some o → (s.heap.push io).get? b = some o := fun b o e => Heap.get?_push_of_some _ e
  have W := Walks.dictKeys (prog := prog) (w := w) (knd := mixKind prog w) (A := A.in1) hh s.heap.objs.size a haI vs ep
  have hD2 : Heap.DictAt (mixKind prog w) (s.heap.push io) a vs ep := dat_push hD
  have st0 : (s.heap.push io).IsKeyIter s.heap.objs.size a 0 vs.length ep ∧ Heap.DictAt (mixKind prog w) (s.heap.push io) a vs ep := by
    refine ⟨⟨io, Heap.get?_push_size _ (by rw [← hio]; rfl), ?_, ?_⟩, hD2⟩
    · rw [← hio]
    · rw [← hio]; rfl
  have hSf : S ∉ [s.heap.objs.size, a] := by simp [hSI, h1]
  refine wpAny_bind (wpAny_holding (dhint_ok (s := { s with heap := s.heap.push io }) (dat_ty (s := { s with heap := s.heap.push io }) hD2) ?_))
  have WS := W.toS
  have last : ∀ (h0 : Heap) (c0 : Nat), (∀ b o, b ≠ S → (s.heap.push io).get? b = some o → h0.get? b = some o) → h0.get? S = some { cls := .type "list", data := .seq #[] c0 } →
      wpAny (model prog w) A.in1 (again (.builtin "list.extend.loop" ⟨[.ref S, .ref s.heap.objs.size, res], []⟩))
        (fun fin s' => match fin with | .done f => R (.ok f) s' | .again c' => c'.quiet = true ∧ codeAny (model prog w) A c' R s') (fun e s' => R (.error e) s') { s with heap := h0 } := fun h0 c0 hk0 hS0 => by
    refine wpAny_pure ⟨plainId_quiet F.plain_extend_loop _, codeAny_extend_loopS WS (by omega) S hSf res vs.length 0 _ #[] c0 rfl (Nat.zero_le _) ?_ hS0 (ItemsOf.nil _) fun s' acc' c' hm hS' hacc => ?_⟩
    · exact W.frame 0 (s.heap.push io) h0 st0 fun b hb o e => hk0 b o (fun z => hSf (z ▸ hb)) e
    · refine hR s' acc' c' (fun b o hb e => ?_) hm.gens hm.os hS' hacc
      by_cases hbI : b = s.heap.objs.size
      · subst hbI
        exact absurd (Heap.lt_size e) (Nat.not_lt.mpr hIs)
      · exact hm.heap b o (by simp [hb, hbI]) (hk0 b o hb (kp b o e))
  refine wpAny_ite_split (fun _ => ?_) (fun hab => absurd (by decide +kernel) hab)
  refine wpAny_bind (wpAny_rule ?_)
  have hSl2 : (s.heap.push io).get? S = some { cls := .type "list", data := .seq #[] } := kp S _ hSl
  refine wpAny_bind (m := ((do updateSeq S (fun z => z.push .none); updateSeq S (fun z => z.pop)) : Sem Unit)) (wpAny_bind (wpAny_updateSeq (s := { s with heap := s.heap.push io }) hSl2 rfl ?_))
  have k1 := Heap.get?_update_self (Obj.mapSeq (fun z => z.push .none)) hSl2 rfl
  refine wpAny_updateSeq k1 rfl ?_
  have k2 := Heap.get?_update_self (Obj.mapSeq (fun z => z.pop)) k1 rfl
  exact last _ _ (fun b o hb e => (Heap.get?_update_other _ _ (Ne.symm hb)).trans ((Heap.get?_update_other _ _ (Ne.symm hb)).trans e)) k2
theorem dcollect_ok {a : Addr} {vs : List (Key × Value)} {ep : Nat} {Q : List Value → Shared → Prop} (hh : A.handled = none) (hd : (a == sysModules) = false) (hD : Heap.DictAt (mixKind prog w) s.heap a vs ep) (hz : vs.length ≤ sizeLine)
    (hQ : ∀ (s' : Shared) (acc : Array Value), (∀ b o, s.heap.get? b = some o → s'.heap.get? b = some o) → s'.gens = s.gens → s'.os = s.os → ItemsOf (KeyAt vs) acc vs.length → Q acc.toList s') : wpAny (model prog w) A (collect (.ref a)) Q E s := by
  have hlt : a < s.heap.objs.size := by obtain ⟨o, es, g, r⟩ := hD; exact Heap.lt_size g
  unfold collect
  refine wpAny_bind (wpAny_runValue (codeAny_builtin F.entry_proto_collect ?_))
  rw [Around.under_plainId F.plain_proto_collect]
  refine wpAny_bind (m := newList []) (wpAny_newObj_type (wpAny_pure ⟨plainId_quiet F.plain_list_iadd _, codeAny_builtin F.entry_list_iadd ?_⟩))
  rw [Around.under_plainId F.plain_list_iadd]
  have hSl : (s.heap.push { cls := .type "list", data := .seq #[] }).get? s.heap.objs.size = some { cls := .type "list", data := .seq #[] } := Heap.get?_push_size _ rfl
  have go : ∀ R : Result → Shared → Prop, (∀ s' acc' c', (∀ b o, s.heap.get? b = some o → s'.heap.get? b = some o) → s'.gens = s.gens → s'.os = s.os → s'.heap.get? s.heap.objs.size = some { cls := .type "list", dict := none, data := .seq acc' c', slots := #[] } → ItemsOf (KeyAt vs) acc' vs.length → R (.ok (.ret (.ref s.heap.objs.size))) s') →
      wpAny (model prog w) A.in1 (Builtin.List.listExtendWith (.ref s.heap.objs.size) (.ref a) (.ref s.heap.objs.size))
        (fun fin s' => match fin with | .done f => R (.ok f) s' | .again c' => c'.quiet = true ∧ codeAny (model prog w) A c' R s') (fun e s' => R (.error e) s') { s with heap := s.heap.push { cls := .type "list", data := .seq #[] } } := fun R hR =>
    dextend_ok (A := A) (s := { s with heap := s.heap.push { cls := .type "list", data := .seq #[] } }) hh hd (dat_push hD) hz s.heap.objs.size (.ref s.heap.objs.size) (Nat.ne_of_gt hlt) hSl
      fun s' acc' c' kp g1 g2 e1 e2 => hR s' acc' c' (fun b o e => kp b o (Nat.ne_of_lt (Heap.lt_size e)) (Heap.get?_push_of_some _ e)) g1 g2 e1 e2
  refine go (fun r s' => match r with
    | .ok (.ret v) => wpAny (model prog w) A (match v with
      | .ref a => do
        match (← load a).data with
        | .seq xs _ => pure xs.toList
        | _ => unsupported "internal:collect"
      | _ => unsupported "internal:collect") Q E s'
    | .ok _ => False
    | .error e => E e s') fun s' acc' c' kp g1 g2 hS' e2 => ?_
  refine wpAny_bind (m := load s.heap.objs.size) (wpAny_load hS' (wpAny_pure ?_))
  exact hQ s' acc' kp g1 g2 e2
end
end SS
namespace L2
open PySem PyProof.Rows
noncomputable def tKs (ls : List (List Nat)) (v : V) : List (Key × V) := ls.map fun t => (Sum.inr (tx t), v)
section
variable {X : Cx}
theorem strs_pt : ∀ (ls : List Str) (us : List Value), us.length = ls.length → (∀ (i : Nat) (v : Value), us[i]? = some v → ∃ x t, ls[i]? = some x ∧ v = Value.str x t) → StrsAre us ls
  | [], [], _, _ => .nil
  | [], _ :: _, h, _ => nomatch h
  | _ :: _, [], h, _ => nomatch h
  | y :: ls, u :: us, h, hp => by
    obtain ⟨x, t, e1, e2⟩ := hp 0 u rfl
    have e3 : y = x := by simpa using e1
    rw [e2, ← e3]
    exact .cons _ _ (strs_pt ls us (by simpa using h) fun i v e => by simpa using hp (i + 1) v (by simpa using e))
theorem kv_fst : ∀ {kvs : List (Key × V)} {vs : List (Key × Value)}, KV kvs vs → vs.map (·.1) = kvs.map (·.1)
  | [], [], .nil => rfl
  | _ :: _, _ :: _, .cons h r => by rw [List.map_cons, List.map_cons, h.1, kv_fst r]
theorem keys_strs {ls : List (List Nat)} {kvs : List (Key × V)} {vs : List (Key × Value)} {acc : Array Value} (hk : kvs.map (·.1) = ls.map fun t => Sum.inr (tx t)) (r : KV kvs vs) (h : ItemsOf (SS.KeyAt vs) acc vs.length) : StrsAre acc.toList (ls.map tx) := by
  have e0 : vs.map (·.1) = (ls.map tx).map Sum.inr := by rw [kv_fst r, hk, List.map_map]; rfl
  have el : vs.length = ls.length := by have := congrArg List.length e0; simpa using this
  refine strs_pt _ _ (by rw [Array.length_toList, h.1, el, List.length_map]) fun i v e => ?_
  obtain ⟨k, x, g1, g2⟩ := h.2 i v (by rw [← Array.getElem?_toList]; exact e)
  have g3 : (vs.map (·.1))[i]? = some k := by rw [List.getElem?_map, g1]; rfl
  rw [e0, List.getElem?_map] at g3
  cases g4 : (ls.map tx)[i]? with
  | none => rw [g4] at g3; cases g3
  | some y =>
    rw [g4] at g3
    obtain rfl : Sum.inr y = k := Option.some.inj g3
    rcases keyIs_shape g2 with ⟨j, t, q1, _⟩ | ⟨z, t, q1, q2⟩
    · cases q1
    · cases q1
      exact ⟨y, t, rfl, q2⟩
end
end L2

set_option Elab.async false
set_option linter.all false
set_option maxRecDepth 100000
set_option maxHeartbeats 4000000
namespace L2
open PySem PyProof.Rows PySem.Spec
namespace SE
section
variable {prog : Program} {w : World} {A : Around} {E : Value → Shared → Prop} {s : Shared}
end
end SE
section
variable {X : Cx}
end
end L2

set_option Elab.async false
set_option linter.all false
set_option maxRecDepth 100000
set_option maxHeartbeats 4000000
namespace L2
open PySem PyProof.Rows PySem.Spec
section
variable {X : Cx}
end
end L2

set_option Elab.async false
set_option linter.all false
set_option maxRecDepth 100000
set_option maxHeartbeats 4000000
namespace L2
open PySem PyProof.Rows PySem.Spec
section
variable {X : Cx}
end
end L2

set_option Elab.async false
set_option linter.all false
set_option maxRecDepth 100000
set_option maxHeartbeats 4000000
namespace L2
open PySem PyProof.Rows PySem.Spec
section
variable {X : Cx} {pins : List (Addr × Obj)} {σ : List (Option V)} {H H' : Hp} {s : Shared} {h' : Heap}
end
section
variable {X : Cx}
end
end L2
namespace L2
open PySem PyProof.Rows PySem.Spec
end L2

set_option Elab.async false
set_option linter.all false
set_option maxRecDepth 100000
set_option maxHeartbeats 4000000
namespace L2
open PySem PyProof.Rows PySem.Spec
namespace ZS
section
variable {prog : Program} {w : World} {A : Around} {E : Value → Shared → Prop} {s : Shared}
end
end ZS
section
variable {X : Cx}
end
end L2

set_option Elab.async false
set_option linter.all false
set_option maxRecDepth 100000
set_option maxHeartbeats 4000000
namespace L2
open PySem PyProof.Rows PySem.Spec
section
variable {X : Cx}
end
end L2

set_option Elab.async false
set_option linter.all false
set_option maxRecDepth 100000
set_option maxHeartbeats 4000000
namespace L2
open PySem PySem.Spec PyProof.Rows
section
variable {X : Cx} {N' : List Str} {scope : Scope} {x y2 : Str} {px py py2 pt : Pos} {elt iter : Expr} {pos : Pos} {te : TE} {wi : TI}
end
end L2
namespace L2
open PySem PySem.Spec PyProof.Rows
end L2

set_option Elab.async false
set_option linter.all false
set_option maxRecDepth 100000
set_option maxHeartbeats 4000000

namespace L2
open PySem PySem.Spec PyProof.Rows

end L2

set_option Elab.async false
set_option linter.all false
set_option maxRecDepth 100000
set_option maxHeartbeats 4000000

namespace L2
open PySem PySem.Spec PyProof.Rows

section
variable {X : Cx} {pins : List (Addr × Obj)} {σ : St} {H H' : Hp} {s s' : Shared} {a : Addr} {cls : Value} {E : Value → Shared → Prop}
end
section
variable {X : Cx} {pins : List (Addr × Obj)} {σ : St} {H H' : Hp} {s s' : Shared} {a : Addr} {cls : Value}
end
section
variable {P : Program} {w : World} {K : PySem.W.Frag} {mg : Str → Option Value} {base : Heap} {N : List Str} {qual : Str} {scope : Scope} {f : Addr} {cdv : Value} {A : Around} {outer : List Env} {s : Shared} {H : Hp} {E : XK}
end
section
variable {X : Cx}
end
end L2

set_option Elab.async false
set_option linter.all false
set_option maxRecDepth 100000
set_option maxHeartbeats 4000000

namespace L2
open PySem PySem.Spec PyProof.Rows

section
variable {prog : Program} {w : World} {A : Around} {E : Value → Shared → Prop} {h : Heap} {g : Array GenState} {d : Drawn} {t : Nat} {os : OsState}
variable {nm q : Str} {Cl Ns : Addr} {bs tl : List Value} {hdct : Bool} {sn : List Str} {sub : List Value} {ab : Bool} {col : Option Bool} {dd : Option Addr} {k0 k1 k2 k3 k5 : Option Value}
end
section
variable {M : Model} {A : Around} {E : Value → Shared → Prop} {s : Shared} {env : Env}
variable {nm q : Str} {Cl Ns : Addr} {bs tl : List Value} {hdct : Bool} {sn : List Str} {sub : List Value} {ab : Bool} {col : Option Bool} {dd : Option Addr} {k0 k1 k2 k3 k5 : Option Value} {ni : String}
end
end L2

set_option Elab.async false
set_option linter.all false
set_option maxRecDepth 100000
set_option maxHeartbeats 4000000

namespace L2
open PySem PySem.Spec PyProof.Rows

end L2

set_option Elab.async false
set_option linter.all false
set_option maxRecDepth 100000
set_option maxHeartbeats 4000000

namespace L2
open PySem PySem.Spec PyProof.Rows

section
variable {X : Cx}
end
end L2

set_option Elab.async false
set_option linter.all false
set_option maxRecDepth 100000
set_option maxHeartbeats 4000000

namespace L2
open PySem PySem.Spec PyProof.Rows PySem.Builtin PySem.Builtin.ObjectAttr
section
variable {prog : Program} {w : World} {A : Around} {E : Value → Shared → Prop} {K : PySem.W.Frag} {C f a x0 : Addr} {F : Str} {v : Value} {s : Shared}
end
section
variable {X : Cx}
end
end L2

set_option Elab.async false
set_option linter.all false
set_option maxRecDepth 100000
set_option maxHeartbeats 4000000

namespace L2
open PySem PySem.Spec PyProof.Rows
section
variable {X : Cx} {pins : List (Addr × Obj)} {σ : St} {H : Hp} {s : Shared} {a C x0 : Addr} {E : Value → Shared → Prop} {od : Option Addr}
end
section
variable {X : Cx}
end
end L2

set_option Elab.async false
set_option linter.all false
set_option maxRecDepth 100000
set_option maxHeartbeats 4000000

namespace L2
open PySem PyProof.Rows PySem.Spec
section
variable {X : Cx}
end
namespace EX
open PySem.W PySem.Calls PySem.Builtin PySem.Builtin.ObjectAttr PySem.Builtin.Getset_descriptor
variable {prog : Program} {w : World} {A : Around} {E : Value → Shared → Prop} {s : Shared} {K : PySem.W.Frag} {a C : Addr}
end EX
section
variable {X : Cx}
end
end L2

set_option linter.all false
namespace L2
open PySem PySem.Spec PyProof.Rows
section
variable {X : Cx}
end
end L2

set_option Elab.async false
set_option linter.all false
set_option maxRecDepth 100000
set_option maxHeartbeats 4000000
namespace L2
open PySem PyProof.Rows PySem.Spec
section
variable {X : Cx}
end
end L2

set_option Elab.async false
set_option linter.all false
set_option maxRecDepth 100000
set_option maxHeartbeats 4000000
namespace L2
open PySem PyProof.Rows PySem.Spec
section
variable {X : Cx}
end
section
variable {X : Cx} {N' : List Str} {scope : Scope} {x y2 : Str} {px py py2 pt : Pos} {elt iter : Expr} {pos : Pos} {te : TE} {wi : TI}
end
end L2
namespace L2
open PySem PyProof.Rows PySem.Spec
section
variable {X : Cx}
end
end L2

set_option Elab.async false
set_option linter.all false
set_option maxRecDepth 100000
namespace SR
open PySem PyProof.Rows PySem.Spec
section
variable {prog : Program} {w : World} {A : Around} {E : Value → Shared → Prop} {s : Shared}
end
end SR
namespace L2
open PySem PyProof.Rows PySem.Spec
section
variable {X : Cx}
end
end L2

set_option Elab.async false
set_option linter.all false
set_option maxRecDepth 100000
namespace L2
open PySem PyProof.Rows PySem.Spec
section
variable {X : Cx}
end
end L2
namespace L2
open PySem PyProof.Rows PySem.Spec
section
variable {X : Cx}
end
end L2

set_option Elab.async false
set_option linter.all false
set_option maxRecDepth 100000
namespace L2
open PySem PyProof.Rows PySem.Spec
section
variable {X : Cx}
end
end L2

set_option Elab.async false
set_option linter.all false
set_option maxRecDepth 100000
set_option maxHeartbeats 4000000
namespace L2
open PySem PyProof.Rows PySem.Spec
section
variable {X : Cx}
end
end L2

set_option Elab.async false
set_option linter.all false
set_option maxRecDepth 100000
set_option maxHeartbeats 4000000
namespace L2
open PySem PyProof.Rows PySem.Spec
section
variable {X : Cx}
end
section
variable {K : PySem.W.Frag} {H G : Hp} {as : List Addr} {M : List (List Int)}
end
end L2

set_option Elab.async false
set_option linter.all false
set_option maxRecDepth 100000
set_option maxHeartbeats 4000000
namespace L2
open PySem PySem.Spec PyProof.Rows
section
variable {X : Cx} {pins : List (Addr × Obj)} {σ : St} {H : Hp} {s : Shared} {a : Addr} {kvs : List (Key × V)} {k : Key} {A : Around} {E : Value → Shared → Prop}
end
section
variable {X : Cx} {o e f : Expr} {apos cpos : Pos} {td ty tx : TE}
end
end L2

set_option Elab.async false
set_option linter.all false
set_option maxRecDepth 100000
set_option maxHeartbeats 4000000
namespace SS
open PySem PyProof.Rows L2
section
variable {prog : Program} {w : World} {A : Around} {E : Value → Shared → Prop} {s : Shared}
end
end SS
namespace L2
open PySem PyProof.Rows
section
variable {X : Cx}
end
end L2

set_option Elab.async false
set_option linter.all false
set_option maxRecDepth 100000
set_option maxHeartbeats 4000000
namespace L2
open PySem PyProof.Rows
end L2

set_option Elab.async false
set_option linter.all false
set_option maxRecDepth 100000
set_option maxHeartbeats 4000000
namespace L2
open PySem PyProof.Rows
section
variable {X : Cx} {pins : List (Addr × Obj)} {σ : St} {H : Hp} {s : Shared}
end
section
variable {X : Cx}
end
end L2

set_option Elab.async false
set_option linter.all false
set_option maxRecDepth 100000
set_option maxHeartbeats 4000000
namespace L2
open PySem PySem.Spec PyProof.Rows
section
variable {M : Model} {A : Around} {E : Value → Shared → Prop} {s : Shared}
end
section
variable {X : Cx} {N' : List Str} {scope : Scope} {x : Str} {px : Pos} {elt iter : Expr} {cds : List Expr} {pos : Pos} {te : TE} {tc : TT} {wi : TI}
end
end L2

set_option Elab.async false
set_option linter.all false
set_option maxRecDepth 100000
set_option maxHeartbeats 4000000
namespace L2
open PySem PySem.Spec PyProof.Rows
section
variable {X : Cx} {N' : List Str} {scope : Scope} {x : Str} {px : Pos} {elt iter : Expr} {cds : List Expr} {pos : Pos} {te : TE} {tc : TT} {wi : TI}
end
end L2

set_option Elab.async false
set_option linter.all false
set_option maxRecDepth 100000
set_option maxHeartbeats 4000000
namespace L2
open PySem PyProof.Rows PySem.Spec
section
variable {X : Cx}
end
section
variable {X : Cx} {N' : List Str} {scope : Scope} {x : Str} {px : Pos} {elt iter cd : Expr} {pos : Pos} {te : TE} {tc : TT} {wi : TI}
end
end L2

set_option Elab.async false
set_option linter.all false
set_option maxRecDepth 100000
set_option maxHeartbeats 4000000
namespace L2
open PySem PyProof.Rows
noncomputable def SqA (K : PySem.W.Frag) (H : Hp) (a : Addr) (xs : List V) : Prop := SqL K H a xs ∨ SqT K H a xs
noncomputable def iSq (K : PySem.W.Frag) (tl : TE) : TI := fun σ H R => tl σ H fun x H1 => ∃ a xs H0, x = .ref a ∧ SqA K H0 a xs ∧ Same H0 H1 ∧ ∀ J, Reads J H0 xs → R J H1
section
variable {X : Cx} {tg : Expr}
theorem pi_seq {l : Expr} {tl : TE} (hl : PE X l tl) : PI X tg l (iSq X.K tl) := by
  intro pins s σ H R I h
  refine thn (hl pins s σ H _ I h) fun v s1 ⟨x, H1, I1, r1, q1⟩ => ?_
  obtain ⟨a, xs, H0, e, hq0 | hq0, s0, q0⟩ := q1
  · have hq := s0.seq hq0
    have q := q0 _ (reads_list hq0)
    subst e
    cases r1
    obtain ⟨its, rv, p, hz⟩ := I1.list hq
    refine wpAny_pyIter_list p.isList ?_
    refine ⟨s1.heap.objs.size, [s1.heap.objs.size], _, _, H1, rfl, I1.kept (t' := s1.toks) fun b o e => Heap.get?_push_of_some _ e, turn_list a _, ⟨_, Heap.get?_push_size _ rfl, rfl, rfl⟩, fun b hb => ?_, q⟩
    have e : b = s1.heap.objs.size := by simpa using hb
    subst e
    exact I1.fpOk (Nat.le_refl _) (I1.hok.fresh (Nat.le_refl _))
  · have hq := tupOn s0 hq0
    have q := q0 _ (reads_tup hq0)
    subst e
    cases r1
    obtain ⟨its, rv, p, hz⟩ := I1.tuple hq
    refine wpAny_pyIter_tuple (show s1.heap.IsTuple a its.toArray from p) ?_
    refine ⟨s1.heap.objs.size, [s1.heap.objs.size], _, _, H1, rfl, I1.kept (t' := s1.toks) fun b o e => Heap.get?_push_of_some _ e, turn_tuple a _, ⟨_, Heap.get?_push_size _ rfl, rfl, rfl⟩, fun b hb => ?_, q⟩
    have e : b = s1.heap.objs.size := by simpa using hb
    subst e
    exact I1.fpOk (Nat.le_refl _) (I1.hok.fresh (Nat.le_refl _))
theorem pi_seqK (K : PySem.W.Frag) (hK : X.K = K) {l : Expr} {tl : TE} (hl : PE X l tl) : PI X tg l (iSq K tl) := by
  subst hK
  exact pi_seq hl
end
theorem for_reads {J : It} {H0 : Hp} {vs : List V} {g : TG} {tb : TS} {D : Ends} {σ : St} {H : Hp} (rd : Reads J H0 vs) (Pv : Nat → St → Hp → Prop) (h0 : Pv 0 σ H) (hl : ∀ i σ H, i ≤ vs.length → Pv i σ H → Same H0 H)
    (hs : ∀ i x σ H, vs[i]? = some x → Pv i σ H → g x σ H fun σ2 H2 => tb { D with nx := Pv (i + 1), ct := Pv (i + 1), bk := D.nx } σ2 H2) (hd : ∀ σ H, Pv vs.length σ H → D.nx σ H) :
    ∃ W : Nat → Nat → St → Hp → Prop, (∃ m, W 0 m σ H) ∧ ∀ i m σ H, W i m σ H →
      (J.stop i H ∧ D.nx σ H) ∨ (J.go i H ∧ ∃ N : St → Hp → Prop, (∀ σ' H', N σ' H' → ∃ m', m' < m ∧ W (i + 1) m' σ' H') ∧ ∀ x H', J.yld i H x H' → g x σ H' fun σ2 H2 => tb { D with nx := N, ct := N, bk := D.nx } σ2 H2) := by
  refine ⟨fun i m σ H => m = vs.length - i ∧ i ≤ vs.length ∧ Pv i σ H, ⟨vs.length, by simp, Nat.zero_le _, h0⟩, ?_⟩
  rintro i m σ H ⟨rfl, hi, p⟩
  have hA := hl i σ H hi p
  by_cases hlt : i < vs.length
  · refine .inr ⟨rd.go i H hA hlt, Pv (i + 1), fun σ' H' p' => ⟨vs.length - (i + 1), by omega, rfl, hlt, p'⟩, fun x H' hy => ?_⟩
    obtain ⟨rfl, e⟩ := rd.yl i H x H' hA hy
    exact hs i x σ _ e p
  · have e : i = vs.length := by omega
    subst e
    exact .inl ⟨rd.st H hA, hd σ H p⟩
end L2

set_option Elab.async false
set_option linter.all false
set_option maxRecDepth 100000
namespace L2
open PySem PyProof.Rows PySem.Spec
section
variable {X : Cx}
theorem op_ne_L0 (K : PySem.W.Frag) (hK : X.K = K) (hu : X.A.units < cLine) : OpR X (compareOp .NotEq) (fun x y H Q => ∃ (p b : Addr) (ys : List V), x = .ref p ∧ y = .ref b ∧ SqL K H p ys ∧ SqL K H b [] ∧ Q (.bl (!ys.isEmpty)) H) := by
  subst hK
  intro pins s σ H x y v u Q I rx ry h
  obtain ⟨p, b, ys, rfl, rfl, h1, h2, q⟩ := h
  cases rx
  cases ry
  obtain ⟨its, r, pl, _⟩ := I.list h1
  obtain ⟨its2, r2, pl2, _⟩ := I.list h2
  have l1 := r.length
  have l2 := r2.length
  cases ys with
  | nil =>
    have e1 : its = [] := List.length_eq_zero_iff.mp l1.symm
    have e2 : its2 = [] := List.length_eq_zero_iff.mp l2.symm
    subst e1 e2
    refine SeqAt.RcNeAt.lists (e := fun _ => true) pl.isList pl2.isList rfl hu (fun j g1 g2 => absurd g1 (by simp)) _ _ _ _ ?_
    exact ⟨.bl _, H, I, rfl, q⟩
  | cons y ys =>
    refine SeqAt.RcNeAt.lists_lengths pl.isList pl2.isList (by rw [List.size_toArray, List.size_toArray, bne_iff_ne]; simp only [List.length_cons, List.length_nil] at l1 l2; omega) hu _ _ _ _ ?_
    exact ⟨.bl _, H, I, rfl, q⟩
end
end L2

set_option Elab.async false
set_option linter.all false
set_option maxRecDepth 100000
namespace L2
open PySem PyProof.Rows PySem.Spec
section
variable {X : Cx}
end
end L2

set_option Elab.async false
set_option linter.all false
namespace L2
open PySem
theorem ps_false {X : Cx} {st : Stmt} : PS X st (fun _ _ _ => False) := fun _ _ _ _ _ _ h => h.elim
end L2

set_option Elab.async false
set_option linter.all false
set_option maxRecDepth 100000
set_option maxHeartbeats 4000000
namespace L2
open PySem PyProof.Rows PySem.Spec
section
variable {X : Cx}
theorem sorted_ofS {pins : List (Addr × Obj)} {σ : St} {H : Hp} {s : Shared} {v : Value} {ls : List (List Nat)} {Q : VK} (h64 : ls.length < 64)
    (hc : ∀ (A' : Around) (Q' : List Value → Shared → Prop), A'.handled = X.A.handled → (∀ (vs : List Value) (ss : List Str) (s1 : Shared), StrsAre vs ss → ss.Perm (ls.map tx) → Inv X pins σ H s1 → Q' vs s1) → wpAny (model X.prog X.w) A' (collect v) Q' X.xe s)
    (q : ∀ (ms : List (List Nat)) (D : Addr), H D = none → ms.Perm ls → ms.Pairwise (fun a b => ¬ b < a) → Q (.ref D) (upd H D (.lst (ms.map T)))) :
    wpAny (model X.prog X.w) X.A (call (.builtin "sorted") [v]) (EP X pins σ Q) X.xe s := by
  have hz : ls.length ≤ sizeLine := by rw [sizeLine_eq]; omega
  refine Calls.call_function_entry kind_sorted plain_sorted entry_sorted (args_sorted1 _) ?_
  unfold Builtin.«sorted»
  refine wpAny_bind (m := checkCount "sorted" 1 1 _) (wpAny_pure (wpAny_bind (hc _ _ (by simp) fun vs ss s1 hS hp I1 => wpAny_bind (wpAny_newList ?_ (by rw [hS.length, hp.length_eq, List.length_map]; exact hz)))))
  have e2 : (s1.heap.push (seqObj "list" vs.toArray 0)).get? s1.heap.objs.size = some (seqObj "list" vs.toArray 0) := Heap.get?_push_size _ rfl
  have hvl : vs.length = ls.length := by rw [hS.length, hp.length_eq, List.length_map]
  show wpAny _ _ _ _ _ { s1 with heap := s1.heap.push (seqObj "list" vs.toArray 0) }
  have key : ∀ (out : Array Value) (ss' : List Str), StrsAre out.toList ss' → ss'.Perm ss → sortedS ss' = true → EP X pins σ Q (.ref s1.heap.objs.size) { s1 with heap := sortedHeap (s1.heap.push (seqObj "list" vs.toArray 0)) s1.heap.objs.size vs out } := fun out ss' b1 b2 b3 => by
    obtain ⟨e, he⟩ := sortedHeap_at (out := out) e2
    have em : (ss'.map fun x => x.cps.toList).map tx = ss' := by
      rw [List.map_map]
      conv => rhs; rw [← List.map_id ss']
      exact List.map_congr_left fun x _ => tx_eta x
    have hp' : (ss'.map fun x => x.cps.toList).Perm ls := by
      have y := (b2.trans hp).map fun x => x.cps.toList
      rw [List.map_map, show (fun x => x.cps.toList) ∘ tx = id from funext tx_cps, List.map_id] at y
      exact y
    refine ⟨.ref _, _, I1.laid (t' := s1.toks) (fun b o eo => ?_) (Nat.le_refl _) (o := .lst ((ss'.map fun x => x.cps.toList).map T)) ⟨?_, out.toList, e, strs_back b1, by simpa using he⟩, rfl, q _ _ (I1.hok.fresh (Nat.le_refl _)) hp' (sorted_pw _ (by rw [em]; exact b3))⟩
    · have hlt := Heap.lt_size eo
      rw [sortedHeap_old (Nat.ne_of_lt hlt) (by rw [size_push']; exact Nat.lt_succ_of_lt hlt)]
      exact Heap.get?_push_of_some _ eo
    · rw [List.length_map, hp'.length_eq]
      exact hz
  refine wpAny_bind (wpAny_holding (wpAny_call_entry slot_list_sort ⟨_, e2, rfl⟩ entry_list_sort (list_sort_treeK strKind_oneLt e2 hS.keysOf (fun v1 v2 r e => ?_) (by omega) fun st' a1 a2 => ⟨_, rfl, wpAny_pure ⟨_, rfl, ?_⟩⟩) (args_list_sort _)))
  · have hS2 := hS
    rw [e] at hS2
    exact keyKind_strs hS2
  · obtain ⟨ss', b1, b2, b3⟩ := sorted_out_str hS a1 a2
    exact key _ ss' b1 b2 b3
theorem call_sortedIS (hc : X.calm = true) : CallR X (.builtin "sorted") (fun xs H Q => ∃ (p : Addr) (ls : List (List Nat)), xs = [.ref p] ∧ H p = some (SetI X.w p ls) ∧ ls.length < 64 ∧ ∀ (ms : List (List Nat)) (D : Addr), H D = none → ms.Perm ls → ms.Pairwise (fun a b => ¬ b < a) → Q (.ref D) (upd H D (.lst (ms.map T)))) := by
  intro pins s σ H xs us Q I r h
  obtain ⟨p, ls, rfl, hq, hz, q⟩ := h
  obtain ⟨u, rfl, ru⟩ := vals1 r
  cases ru
  have hs : sizeLine = 16777216 := sizeLine_eq
  refine sorted_ofS hz (fun A' Q' hA hQ => SS.collect_ok (by rw [hA]; exact I.ok.hd hc) (setI_ok I hq) (by rw [List.length_map]; omega) fun s' vs ss kp g1 g2 e1 e2 => hQ vs ss s' e1 e2 ?_) q
  have hg : AllBare s'.gens := by rw [g1]; exact I.bare
  exact I.call' (ch := []) g2 (Un.kept kp) (I.hok.kept kp) hg fun _ z => nomatch z
theorem call_sortedDS (hc : X.calm = true) : CallR X (.builtin "sorted") (fun xs H Q => ∃ (p : Addr) (ls : List (List Nat)) (kvs : List (Key × V)), xs = [.ref p] ∧ H p = some (.dK kvs) ∧ kvs.map (·.1) = ls.map (fun t => Sum.inr (tx t)) ∧ ls.length < 64 ∧ ∀ (ms : List (List Nat)) (D : Addr), H D = none → ms.Perm ls → ms.Pairwise (fun a b => ¬ b < a) → Q (.ref D) (upd H D (.lst (ms.map T)))) := by
  intro pins s σ H xs us Q I r h
  obtain ⟨p, ls, kvs, rfl, hq, hk, h64, q⟩ := h
  obtain ⟨u, rfl, ru⟩ := vals1 r
  cases ru
  obtain ⟨z, hd, vs, rel, dd⟩ := dk_of I.hok hq
  obtain ⟨o, es, ep, rest⟩ := dd
  have hl : ls.length = kvs.length := by have := congrArg List.length hk; simpa using this.symm
  refine sorted_ofS h64 (fun A' Q' hA hQ => SS.dcollect_ok (vs := vs) (ep := ep) (by rw [hA]; exact I.ok.hd hc) hd ⟨o, es, rest⟩ (by rw [← rel.length]; exact z) fun s' acc kp g1 g2 e1 => hQ _ (ls.map tx) s' (keys_strs hk rel e1) (List.Perm.refl _) ?_) q
  have hg : AllBare s'.gens := by rw [g1]; exact I.bare
  exact I.call' (ch := []) g2 (Un.kept kp) (I.hok.kept kp) hg fun _ z => nomatch z
end
end L2

set_option autoImplicit false
set_option linter.all false
set_option maxRecDepth 100000
set_option maxHeartbeats 200000
namespace SR
open PySem PyProof.Rows PySem.Spec
section
variable {prog : Program} {w : World} {A : Around} {E : Value → Shared → Prop} {s : Shared} {z : Array Keyed} {κ : KeyKind} {kd : SortKind}
theorem run_asc {st : SortSt} {m : Nat} {Q : Option Nat → SortSt → Prop} (hO : LtR prog w A E s κ kd) (hz : KeysOf κ z) (hm : m ≤ z.size) (h1 : 1 ≤ m) (hB : SB kd z st) (hu : Up κ (arrOf st) 0 m) (h : Q (some m) st) : wpS (model prog w) A E s (countRun' 0 m) Q st := by
  rw [countRun'_eq]
  refine wpS_bind (m := upL 0 1 m) (w_up hO hz (by omega) (Nat.le_refl 1) h1 hB up_one fun n hn1 hn2 _ hor => ?_)
  obtain rfl : n = m := by
    rcases hor with e | e
    · exact e
    · by_cases hnm : n = m
      · exact hnm
      · have h2 : κ.blt (KK κ (arrOf st) (0 + n)) (KK κ (arrOf st) (0 + n - 1)) = false := hu (0 + n - 1) (0 + n) (by omega) (by omega) (by omega)
        have h3 : κ.blt (KK κ (arrOf st) (0 + n)) (KK κ (arrOf st) (0 + n - 1)) = true := e
        rw [h2] at h3
        cases h3
  dsimp only
  rw [if_pos (by simp)]
  exact wpS_pure h
theorem ins_none {st : SortSt} {n : Nat} {Q : Bool → SortSt → Prop} (h1 : 1 ≤ n) (h : Q true st) : wpS (model prog w) A E s (binarySort' 0 n n) Q st := by
  rw [binarySort'_eq]
  refine wpS_bind (wpS_mono (wpS_forRange (I := fun k c st' => c = (none, ()) ∧ st' = st) (Q := fun c st' => c = (none, ()) ∧ st' = st) ?sp (fun _ _ hh => hh) ⟨rfl, rfl⟩) ?po)
  case po =>
    rintro c st' ⟨rfl, rfl⟩
    exact wpS_pure h
  case sp =>
    intro x c st' g1 g2 _
    omega
theorem w_asc {st : SortSt} {Q : Unit → SortSt → Prop} (hO : LtR prog w A E s κ kd) (hz : KeysOf κ z) (hB : SB kd z st) (hp : pendingOf st = #[]) (h2 : 2 ≤ z.size) (hu : Up κ (arrOf st) 0 z.size)
    (h : ∀ st', SB kd z st' → Up κ (arrOf st') 0 z.size → Q () st') : wpS (model prog w) A E s sortRuns' Q st := by
  rw [sortRuns'_eq]
  refine wpS_bind (wpS_get ?_)
  dsimp only
  simp only [hB.sz]
  generalize minRun' z.size z.size 0 = mr
  refine wpS_bind (wpS_mono (wpS_forRange
    (I := fun x c st' => (x = 0 ∧ c = (none, 0) ∧ st' = st) ∨ (c = (none, z.size) ∧ SB kd z st' ∧ Up κ (arrOf st') 0 z.size ∧ (pendingOf st').size ≤ 1))
    (Q := fun c st' => c = (none, z.size) ∧ SB kd z st' ∧ Up κ (arrOf st') 0 z.size ∧ (pendingOf st').size ≤ 1) ?sp ?fi (.inl ⟨rfl, rfl, rfl⟩)) ?po)
  case fi =>
    rintro c st' (⟨h0, _⟩ | hh)
    · omega
    · exact hh
  case sp =>
    rintro x c st1 _ hx (⟨rfl, rfl, rfl⟩ | ⟨rfl, b1, b2, b3⟩)
    · dsimp only
      rw [if_neg (by omega), Nat.sub_zero]
      refine wpS_bind (run_asc hO hz (Nat.le_refl _) (by omega) hB hu ?_)
      dsimp only
      by_cases hlt : z.size < mr
      case' pos =>
        rw [if_pos hlt]
        refine wpS_bind (wpS_lift (wpAny_rule ⟨rfl, ?_⟩))
        rw [show min z.size mr = z.size by omega]
        refine wpS_bind (ins_none (by omega) ?_)
        simp only [Bool.not_true, Bool.false_eq_true, if_false]
      case' neg =>
        rw [if_neg hlt]
      all_goals
        refine wpS_bind (wpS_get ?_)
        rw [hp]
        refine wpS_bind (wpS_modify (wpS_pure (.inr ⟨by rw [Nat.zero_add], ⟨hB.prm, hB.knd, hB.ffl⟩, hu, ?_⟩)))
        show ((pendingOf st1).push (0, z.size, 0)).size ≤ 1
        rw [hp]
        exact Nat.le_refl _
    · dsimp only
      rw [if_pos (Nat.le_refl _)]
      exact wpS_pure ⟨rfl, b1, b2, b3⟩
  case po =>
    rintro c st1 ⟨rfl, b1, b2, b3⟩
    dsimp only
    refine wpS_bind (wpS_mono (wpS_forRange (I := fun x c st' => c = (none, ()) ∧ SB kd z st' ∧ Up κ (arrOf st') 0 z.size ∧ (pendingOf st').size ≤ 1)
      (Q := fun c st' => c = (none, ()) ∧ SB kd z st' ∧ Up κ (arrOf st') 0 z.size ∧ (pendingOf st').size ≤ 1) ?fsp (fun _ _ hh => hh) ⟨rfl, b1, b2, b3⟩) ?fpo)
    case fsp =>
      rintro x c st2 _ hx ⟨rfl, c1, c2, c3⟩
      refine wpS_bind (wpS_get ?_)
      rw [if_pos c3]
      exact wpS_pure ⟨rfl, c1, c2, c3⟩
    case fpo =>
      rintro c st2 ⟨rfl, c1, c2, c3⟩
      dsimp only
      exact wpS_pure (h st2 c1 c2)
end
section
variable {prog : Program} {w : World} {A : Around} {E : Value → Shared → Prop} {s : Shared}
theorem two_ofA {α : Type} : ∀ {l : List α}, 2 ≤ l.length → ∃ a b r, l = a :: b :: r
  | [], h => by simp at h
  | [_], h => by simp at h
  | a :: b :: r, _ => ⟨a, b, r, rfl⟩
theorem sort_asc {κ : KeyKind} {kd : SortKind} {l : Addr} {vs : List Value} {n : Nat} {P : Fin → Shared → Prop} (ob : s.heap.get? l = some (seqObj "list" vs.toArray n)) (hks : KeysOf κ (pairsOf vs)) (hup : Up κ (pairsOf vs) 0 (pairsOf vs).size)
    (hO : ∀ E (s' : Shared), (∀ a o, a ≠ l → s.heap.get? a = some o → s'.heap.get? a = some o) → LtR prog w A E s' κ kd)
    (hkk : ∀ A E (s' : Shared) (Q : SortKind → Shared → Prop), 2 ≤ vs.length → (∀ a o, a ≠ l → s.heap.get? a = some o → s'.heap.get? a = some o) → Q kd s' → wpAny (model prog w) A (keyKind' vs.toArray) Q E s') (hmx : vs.length ≤ sizeLine)
    (h : ∀ st' : SortSt, (arrOf st').Perm (pairsOf vs) → SortedToK κ (arrOf st') (pairsOf vs).size → P (.done (.ret .none)) { s with heap := sortedHeap s.heap l vs ((arrOf st').map (·.2)) }) :
    wpAny (model prog w) A (Builtin.«list.sort» ⟨[.ref l], []⟩) P E s := by
  rw [list_sort_plain]
  have hlt : l < s.heap.objs.size := Heap.lt_size ob
  have hsz : vs.toArray.size = vs.length := by simp
  refine wpAny_bind (listItems_at ob rfl (wpAny_bind (listUpdate_at ob rfl ?_ (hsz := by rw [hsz]; exact hmx))))
  obtain ⟨ep, ob1⟩ : ∃ ep, (s.heap.update l (Obj.mapSeq fun _ => #[])).get? l = some (seqObj "list" #[] ep) := ⟨_, get?_update_seq ob (fun _ => #[])⟩
  refine wpAny_bind (seqEpoch_at ob1 rfl (wpAny_bind (wpAny_newTuple (wpAny_bind (wpAny_newList (wpAny_holding ?_))))))
  have ob2 : (((s.heap.update l (Obj.mapSeq fun _ => #[])).push (seqObj "tuple" vs.toArray 0)).push (seqObj "list" #[] 0)).get? l = some (seqObj "list" #[] ep) :=
    Heap.get?_push_of_some _ (Heap.get?_push_of_some _ ob1)
  show wpAny (model prog w) A _ P E { s with heap := ((s.heap.update l (Obj.mapSeq fun _ => #[])).push (seqObj "tuple" vs.toArray 0)).push (seqObj "list" #[] 0) }
  dsimp only
  by_cases hnb : vs.toArray.size < 2
  · rw [if_pos hnb, if_pos hnb]
    refine wpAny_bind (wpAny_pure ?_); rw [StateT.run_pure]; refine wpAny_bind (wpAny_pure ?_); dsimp only
    refine wpAny_bind (seqEpoch_at ob2 rfl (wpAny_bind (listUpdate_at ob2 rfl ?_ (hsz2 := ?_))))
    · simp only [bne_self_eq_false, Bool.false_eq_true, if_false]
      refine wpAny_pure (h (SortSt.mk' general' (vs.toArray.zip vs.toArray) #[] 7 none) (Array.Perm.refl _) fun i j hij hj => ?_)
      obtain rfl : i = j := by rw [pairsOf_size] at hj; omega
      exact KeyOrd.kle_refl _
    · rw [Array.size_map]; show (pairsOf vs).size ≤ _; rw [pairsOf_size]; rw [sizeLine_eq]; omega
  rw [if_neg hnb, if_neg hnb]
  have hag : ∀ a o, a ≠ l → s.heap.get? a = some o → (((s.heap.update l (Obj.mapSeq fun _ => #[])).push (seqObj "tuple" vs.toArray 0)).push (seqObj "list" #[] 0)).get? a = some o := fun a o na ha =>
    Heap.get?_push_of_some _ (Heap.get?_push_of_some _ (by rw [Heap.get?_update_ne _ _ _ _ na]; exact ha))
  refine wpAny_bind (hkk _ _ _ _ (by omega) hag (wpAny_bind (wpAny_mono (w_asc (κ := κ) (hO _ _ hag) (z := pairsOf vs) (st := SortSt.mk' kd (vs.toArray.zip vs.toArray) #[] 7 none)
    (Q := fun _ st' => SB kd (pairsOf vs) st' ∧ Up κ (arrOf st') 0 (pairsOf vs).size) hks ⟨Array.Perm.refl _, rfl, rfl⟩ rfl (by rw [pairsOf_size]; omega) hup fun st' a1 a2 => ⟨a1, a2⟩) ?_ fun _ _ e => e)))
  rintro ⟨⟨⟩, st'⟩ s' ⟨rfl, hB, hu⟩
  dsimp only
  have hpm := hB.prm
  refine wpAny_bind (seqEpoch_at ob2 rfl (wpAny_bind (listUpdate_at ob2 rfl ?_ (hsz2 := ?_))))
  · rw [hB.ffl]
    simp only [bne_self_eq_false, Bool.false_eq_true, if_false]
    exact wpAny_pure (h st' hpm fun i j hij hj => hu i j (Nat.zero_le _) hij hj)
  · refine Nat.le_trans (Nat.le_of_eq ((Array.size_map ..).trans (hpm.size_eq.trans (pairsOf_size _)))) ?_
    rw [sizeLine_eq] at hmx ⊢
    omega
theorem sorted_anyA {κ : KeyKind} {kd : SortKind} {l : Addr} {vs : List Value} {Q : Value → Shared → Prop} (hl : s.heap.IsList l vs.toArray) (hks : KeysOf κ (pairsOf vs)) (hup : Up κ (pairsOf vs) 0 (pairsOf vs).size)
    (hO : ∀ E (s' : Shared), (∀ a o, s.heap.get? a = some o → s'.heap.get? a = some o) → LtR prog w A.in1.in1 E s' κ kd)
    (hkk : ∀ A E (s' : Shared) (Q : SortKind → Shared → Prop), 2 ≤ vs.length → (∀ a o, s.heap.get? a = some o → s'.heap.get? a = some o) → Q kd s' → wpAny (model prog w) A (keyKind' vs.toArray) Q E s') (hmx : vs.length ≤ sizeLine)
    (h : ∀ st' : SortSt, (arrOf st').Perm (pairsOf vs) → SortedToK κ (arrOf st') (pairsOf vs).size → Q (.ref (s.heap.objs.size + 1)) { s with heap := sortedAll s.heap vs ((arrOf st').map (·.2)) }) :
    wpAny (model prog w) A (call (.builtin "sorted") [.ref l]) Q E s := by
  refine Calls.call_function_entry kind_sorted plain_sorted entry_sorted (args_sorted1 _) ?_
  unfold Builtin.«sorted»
  refine wpAny_bind (m := checkCount "sorted" 1 1 _) (wpAny_pure (wpAny_bind (collect_list hl (wpAny_bind (wpAny_newList ?_)) (hsz := by simpa using hmx))))
  have e1 : ((s.heap.push (seqObj "list" #[] 0)).update s.heap.objs.size (Obj.mapSeq (· ++ vs.toArray))).objs.size = s.heap.objs.size + 1 := by
    rw [Heap.size_update, size_push']
  have e2 : (((s.heap.push (seqObj "list" #[] 0)).update s.heap.objs.size (Obj.mapSeq (· ++ vs.toArray))).push (seqObj "list" vs.toArray 0)).get? (s.heap.objs.size + 1) = some (seqObj "list" vs.toArray 0) := by
    conv => lhs; rw [← e1]
    exact Heap.get?_push_size _ rfl
  have e3 : ∀ a o, s.heap.get? a = some o → a ≠ s.heap.objs.size + 1 ∧ (((s.heap.push (seqObj "list" #[] 0)).update s.heap.objs.size (Obj.mapSeq (· ++ vs.toArray))).push (seqObj "list" vs.toArray 0)).get? a = some o := fun a o ha =>
    have hlt : a < s.heap.objs.size := Heap.lt_size ha
    ⟨Nat.ne_of_lt (Nat.lt_succ_of_lt hlt), Heap.get?_push_of_some _ (by rw [Heap.get?_update_ne _ _ _ _ (Nat.ne_of_lt hlt)]; exact Heap.get?_push_of_some _ ha)⟩
  show wpAny _ _ _ _ _ { s with heap := ((s.heap.push (seqObj "list" #[] 0)).update s.heap.objs.size (Obj.mapSeq (· ++ vs.toArray))).push (seqObj "list" vs.toArray 0) }
  rw [e1]
  refine wpAny_bind (wpAny_holding (wpAny_call_entry slot_list_sort ⟨_, e2, rfl⟩ entry_list_sort (sort_asc e2 hks hup (fun E s' hs => hO E s' fun a o ha => hs a o (e3 a o ha).1 (e3 a o ha).2) (fun A E s' Q h2 hs => hkk A E s' Q h2 fun a o ha => hs a o (e3 a o ha).1 (e3 a o ha).2) hmx fun st' a1 a2 => ⟨_, rfl, wpAny_pure ⟨_, rfl, ?_⟩⟩) (args_list_sort _)))
  exact h st' a1 a2
theorem kind_strsA {vs : List Value} {ss : List Str} (hS : StrsAre vs ss) (h2 : 2 ≤ vs.length) : keyKind' vs.toArray = pure oneType' := by
  obtain ⟨v1, v2, r, e⟩ := two_ofA h2
  rw [e] at hS ⊢
  exact keyKind_strs hS
theorem strs_get : ∀ {vs : List Value} {ss : List Str}, StrsAre vs ss → ∀ {i : Nat}, i < vs.length → ∃ y t, vs[i]? = some (Value.str y t) ∧ ss[i]? = some y
  | _, _, .nil, i, h => by simp at h
  | _, _, .cons y t h, 0, _ => ⟨y, t, rfl, rfl⟩
  | _, _, .cons y t h, i + 1, hi => strs_get h (by simpa using hi)
theorem up_strs {vs : List Value} {ss : List Str} (hS : StrsAre vs ss) (hso : ss.Pairwise fun a b => ¬ b.cps.toList < a.cps.toList) : Up strKind (pairsOf vs) 0 (pairsOf vs).size := fun i j _ hij hj => by
  rw [pairsOf_size] at hj
  have kk : ∀ {i : Nat} {y : Str} {t : Tok}, vs[i]? = some (Value.str y t) → KK strKind (pairsOf vs) i = y.cps.toList := fun {i y t} e => by
    obtain ⟨h1, h2⟩ := List.getElem?_eq_some_iff.mp e
    unfold KK
    rw [show (pairsOf vs)[i]? = some (Value.str y t, Value.str y t) by
      show (vs.toArray.zip vs.toArray)[i]? = _
      rw [Array.getElem?_zip_eq_some]
      exact ⟨by simpa using e, by simpa using e⟩]
    rfl
  obtain ⟨y, t, e1, e2⟩ := strs_get hS (i := i) (by omega)
  obtain ⟨y', t', e3, e4⟩ := strs_get hS (i := j) hj
  rw [kk e1, kk e3]
  by_cases e : i = j
  · subst e
    rw [e2] at e4
    cases e4
    exact KeyOrd.kle_refl _
  · obtain ⟨g1, g2⟩ := List.getElem?_eq_some_iff.mp e2
    obtain ⟨g3, g4⟩ := List.getElem?_eq_some_iff.mp e4
    have h := List.pairwise_iff_getElem.mp hso i j g1 g3 (by omega)
    rw [g2, g4] at h
    exact decide_eq_false h
theorem sorted_bigA {l : Addr} {vs : List Value} {ss : List Str} {Q : Value → Shared → Prop} (hl : s.heap.IsList l vs.toArray) (hS : StrsAre vs ss) (hso : ss.Pairwise fun a b => ¬ b.cps.toList < a.cps.toList) (hmx : vs.length ≤ sizeLine)
    (h : ∀ (out : Array Value) (ss' : List Str), StrsAre out.toList ss' → ss'.Perm ss → sortedS ss' = true → Q (.ref (s.heap.objs.size + 1)) { s with heap := sortedAll s.heap vs out }) :
    wpAny (model prog w) A (call (.builtin "sorted") [.ref l]) Q E s := by
  refine sorted_anyA hl hS.keysOf (up_strs hS hso) (fun _ _ _ => ltR_one strKind_oneLt) (fun _ _ _ _ h2 _ q => ?_) hmx fun st' a1 a2 => ?_
  · rw [kind_strsA hS h2]; exact wpAny_pure q
  · obtain ⟨ss', h1, h2, h3⟩ := sorted_out_str hS a1 a2
    exact h _ ss' h1 h2 h3
end
end SR

set_option Elab.async false
set_option linter.all false
set_option maxRecDepth 100000
namespace L2
open PySem PyProof.Rows PySem.Spec
section
variable {X : Cx}
theorem call_sortedU : CallR X (.builtin "sorted") (fun xs H Q => ∃ (p : Addr) (ls : List (List Nat)), xs = [.ref p] ∧ SqL X.K H p (ls.map T) ∧ ls.Pairwise (fun a b => ¬ b < a) ∧ ∀ (ms : List (List Nat)) (D : Addr), H D = none → ms.Perm ls → ms.Pairwise (fun a b => ¬ b < a) → Q (.ref D) (upd H D (.lst (ms.map T)))) := by
  intro pins s σ H xs us Q I r h
  obtain ⟨p, ls, rfl, hq, hso, q⟩ := h
  obtain ⟨u, rfl, ru⟩ := vals1 r
  cases ru
  obtain ⟨its, rv, pl, hz⟩ := I.list hq
  have hlen := rv.length
  rw [List.length_map] at hlen hz
  have key : ∀ (out : Array Value) (ss' : List Str), StrsAre out.toList ss' → ss'.Perm (ls.map tx) → sortedS ss' = true → EP X pins σ Q (.ref (s.heap.objs.size + 1)) { s with heap := sortedAll s.heap its out } := fun out ss' a1 a2 a3 => by
    obtain ⟨e, he⟩ := sortedAll_at s.heap its out
    have em : (ss'.map fun x => x.cps.toList).map tx = ss' := by
      rw [List.map_map]
      conv => rhs; rw [← List.map_id ss']
      exact List.map_congr_left fun x _ => tx_eta x
    have hp : (ss'.map fun x => x.cps.toList).Perm ls := by
      have y := a2.map fun x => x.cps.toList
      rw [List.map_map, show (fun x => x.cps.toList) ∘ tx = id from funext tx_cps, List.map_id] at y
      exact y
    refine ⟨.ref _, _, I.laid (t' := s.toks) (fun _ _ => sortedAll_old) (Nat.le_succ _) (o := .lst ((ss'.map fun x => x.cps.toList).map T)) ⟨?_, out.toList, e, strs_back a1, by simpa using he⟩, rfl, q _ _ (I.hok.fresh (Nat.le_succ _)) hp (sorted_pw _ (by rw [em]; exact a3))⟩
    rw [List.length_map, hp.length_eq]
    exact hz
  refine SR.sorted_bigA pl.isList (strsAre_T rv) ?_ (by rw [← hlen]; exact hz) key
  rw [List.pairwise_map]
  exact hso.imp fun z => by rw [tx_cps, tx_cps]; exact z
end
end L2

set_option Elab.async false
set_option linter.all false
set_option maxRecDepth 100000
set_option maxHeartbeats 4000000
namespace K60
open PySem L2
seal L2.PSs L2.PS L2.PE L2.PA L2.PT L2.PW L2.PI L2.PG L2.PGs L2.PO L2.PTy L2.PH L2.OpR L2.CallR L2.IxR L2.SlR L2.UnR L2.PSet
noncomputable def top (i : Nat) : Stmt := PySem.Challenge.pw_onceround_k60_whole_least_ring.main.body.getD i (.Pass ⟨0, 0, 0, 0⟩)
noncomputable abbrev s_looked_kinds : Stmt := top 11
noncomputable abbrev s_looked_length : Stmt := top 12
noncomputable abbrev s_letters : Stmt := top 13
noncomputable abbrev s_looked : Stmt := top 14
noncomputable abbrev s_word_total : Stmt := top 15
noncomputable abbrev s_turned : Stmt := top 16
noncomputable abbrev s_turn_by : Stmt := top 18
noncomputable abbrev s_times_of : Stmt := top 19
noncomputable abbrev s_root : Stmt := top 20
noncomputable abbrev s_is_least : Stmt := top 21
noncomputable abbrev s_filled : Stmt := top 23
noncomputable abbrev s_is_beginning : Stmt := top 24
noncomputable abbrev s_least_from : Stmt := top 25
noncomputable abbrev s_next_least : Stmt := top 26
noncomputable abbrev s_last_least : Stmt := top 27
noncomputable abbrev s_rests : Stmt := top 29
noncomputable abbrev s_count_above : Stmt := top 30
noncomputable abbrev s_up_to : Stmt := top 31
noncomputable abbrev s_looked_first : Stmt := top 33
noncomputable abbrev s_count_below : Stmt := top 34
noncomputable abbrev s_ring_size : Stmt := top 35
noncomputable abbrev s_put_together : Stmt := top 36
noncomputable abbrev s_whole_ring : Stmt := top 37
noncomputable abbrev s_looked_web : Stmt := top 41
noncomputable abbrev s_Web_init : Stmt := inClass (top 42) 0
noncomputable abbrev s_begin_of : Stmt := top 43
noncomputable abbrev s_end_of : Stmt := top 44
noncomputable abbrev s_pieces : Stmt := top 45
noncomputable abbrev s_excess : Stmt := top 46
noncomputable abbrev s_hanging_by : Stmt := top 47
noncomputable abbrev s_hanging : Stmt := top 48
noncomputable abbrev s_why_apart : Stmt := top 50
noncomputable abbrev s_why_no_ring : Stmt := top 51
noncomputable abbrev s_why_no_row : Stmt := top 52
noncomputable abbrev s_row_ends : Stmt := top 53
noncomputable abbrev s_without : Stmt := top 55
noncomputable abbrev s_can_go_on : Stmt := top 56
noncomputable abbrev s_least_step : Stmt := top 57
noncomputable abbrev s_least_way : Stmt := top 58
noncomputable abbrev s_least_row : Stmt := top 59
noncomputable abbrev s_least_ring : Stmt := top 60
noncomputable abbrev s__law_mixed : Stmt := top 62
noncomputable abbrev s__law_all : Stmt := top 64
noncomputable abbrev s__law_least : Stmt := top 65
noncomputable abbrev s__law_first : Stmt := top 67
noncomputable abbrev s_law : Stmt := top 70
theorem sc_looked_kinds : FnScope ["kinds"] ["kinds"] (defScope s_looked_kinds) := ⟨rfl, rfl, rfl, by decide +kernel, rfl, by decide +kernel, by decide +kernel⟩
theorem sc_looked_length : FnScope ["length", "kinds"] ["length", "kinds"] (defScope s_looked_length) := ⟨rfl, rfl, rfl, by decide +kernel, rfl, by decide +kernel, by decide +kernel⟩
theorem sc_letters : FnScope ["kinds"] ["kinds"] (defScope s_letters) := ⟨rfl, rfl, rfl, by decide +kernel, rfl, by decide +kernel, by decide +kernel⟩
theorem sc_looked : FnScope ["word", "kinds", "known", "sign"] ["word", "kinds"] (defScope s_looked) := ⟨rfl, rfl, rfl, by decide +kernel, rfl, by decide +kernel, by decide +kernel⟩
theorem sc_word_total : FnScope ["length", "kinds", "total", "step"] ["length", "kinds"] (defScope s_word_total) := ⟨rfl, rfl, rfl, by decide +kernel, rfl, by decide +kernel, by decide +kernel⟩
theorem sc_turned : FnScope ["text", "by", "start"] ["text", "by"] (defScope s_turned) := ⟨rfl, rfl, rfl, by decide +kernel, rfl, by decide +kernel, by decide +kernel⟩
theorem sc_turn_by : FnScope ["word", "best", "by"] ["word"] (defScope s_turn_by) := ⟨rfl, rfl, rfl, by decide +kernel, rfl, by decide +kernel, by decide +kernel⟩
theorem sc_times_of : FnScope ["word", "size", "times"] ["word"] (defScope s_times_of) := ⟨rfl, rfl, rfl, by decide +kernel, rfl, by decide +kernel, by decide +kernel⟩
theorem sc_root : FnScope ["word"] ["word"] (defScope s_root) := ⟨rfl, rfl, rfl, by decide +kernel, rfl, by decide +kernel, by decide +kernel⟩
theorem sc_is_least : FnScope ["word"] ["word"] (defScope s_is_least) := ⟨rfl, rfl, rfl, by decide +kernel, rfl, by decide +kernel, by decide +kernel⟩
theorem sc_filled : FnScope ["text", "length", "kinds"] ["text", "length", "kinds"] (defScope s_filled) := ⟨rfl, rfl, rfl, by decide +kernel, rfl, by decide +kernel, by decide +kernel⟩
theorem sc_is_beginning : FnScope ["text", "length", "kinds"] ["text", "length", "kinds"] (defScope s_is_beginning) := ⟨rfl, rfl, rfl, by decide +kernel, rfl, by decide +kernel, by decide +kernel⟩
theorem sc_least_from : FnScope ["beginning", "length", "kinds", "word", "going_on"] ["beginning", "length", "kinds"] (defScope s_least_from) := ⟨rfl, rfl, rfl, by decide +kernel, rfl, by decide +kernel, by decide +kernel⟩
noncomputable def csc_least_from_0 : Scope := { kind := PySem.ScopeKind.function, names := [ (PySem.Str.ofString ".0", PySem.NameKind.local), (PySem.Str.ofString "letter", PySem.NameKind.local), (PySem.Str.ofString "is_beginning", PySem.NameKind.globalImplicit), (PySem.Str.ofString "kinds", PySem.NameKind.free), (PySem.Str.ofString "length", PySem.NameKind.free), (PySem.Str.ofString "word", PySem.NameKind.free)], isGenerator := false, isCoroutine := false, more := [] : PySem.Scope }
theorem cs_least_from_0 : CompSc ["beginning", "length", "kinds", "word", "going_on"] ["letter", "beginning", "length", "kinds", "word", "going_on"] (defScope s_least_from) csc_least_from_0 "letter" := ⟨rfl, by decide +kernel, by decide +kernel, rfl, by decide +kernel, rfl, rfl, by decide +kernel, rfl, by decide +kernel, by decide +kernel⟩
theorem sc_next_least : FnScope ["word", "kinds", "place", "letter", "text"] ["word", "kinds"] (defScope s_next_least) := ⟨rfl, rfl, rfl, by decide +kernel, rfl, by decide +kernel, by decide +kernel⟩
theorem sc_last_least : FnScope ["word", "kinds", "last", "place", "lesser"] ["word", "kinds"] (defScope s_last_least) := ⟨rfl, rfl, rfl, by decide +kernel, rfl, by decide +kernel, by decide +kernel⟩
theorem sc_rests : FnScope ["greater", "counted", "size"] ["greater"] (defScope s_rests) := ⟨rfl, rfl, rfl, by decide +kernel, rfl, by decide +kernel, by decide +kernel⟩
noncomputable def csc_rests_0 : Scope := { kind := PySem.ScopeKind.function, names := [ (PySem.Str.ofString ".0", PySem.NameKind.local), (PySem.Str.ofString "place", PySem.NameKind.local), (PySem.Str.ofString "counted", PySem.NameKind.free), (PySem.Str.ofString "greater", PySem.NameKind.free), (PySem.Str.ofString "size", PySem.NameKind.free)], isGenerator := false, isCoroutine := false, more := [] : PySem.Scope }
theorem cs_rests_0 : CompSc ["greater", "counted", "size"] ["place", "greater", "counted", "size"] (defScope s_rests) csc_rests_0 "place" := ⟨rfl, by decide +kernel, by decide +kernel, rfl, by decide +kernel, rfl, rfl, by decide +kernel, rfl, by decide +kernel, by decide +kernel⟩
theorem sc_count_above : FnScope ["word", "kinds", "greater", "counted", "last"] ["word", "kinds"] (defScope s_count_above) := ⟨rfl, rfl, rfl, by decide +kernel, rfl, by decide +kernel, by decide +kernel⟩
noncomputable def csc_count_above_0 : Scope := { kind := PySem.ScopeKind.function, names := [ (PySem.Str.ofString ".0", PySem.NameKind.local), (PySem.Str.ofString "letter", PySem.NameKind.local), (PySem.Str.ofString "LETTERS", PySem.NameKind.globalImplicit), (PySem.Str.ofString "kinds", PySem.NameKind.free)], isGenerator := false, isCoroutine := false, more := [] : PySem.Scope }
theorem cs_count_above_0 : CompSc ["word", "kinds", "greater", "counted", "last"] ["letter", "word", "kinds", "greater", "counted", "last"] (defScope s_count_above) csc_count_above_0 "letter" := ⟨rfl, by decide +kernel, by decide +kernel, rfl, by decide +kernel, rfl, rfl, by decide +kernel, rfl, by decide +kernel, by decide +kernel⟩
noncomputable def csc_count_above_1 : Scope := { kind := PySem.ScopeKind.function, names := [ (PySem.Str.ofString ".0", PySem.NameKind.local), (PySem.Str.ofString "place", PySem.NameKind.local), (PySem.Str.ofString "counted", PySem.NameKind.free), (PySem.Str.ofString "greater", PySem.NameKind.free), (PySem.Str.ofString "last", PySem.NameKind.free)], isGenerator := false, isCoroutine := false, more := [] : PySem.Scope }
theorem cs_count_above_1 : CompSc ["word", "kinds", "greater", "counted", "last"] ["place", "word", "kinds", "greater", "counted", "last"] (defScope s_count_above) csc_count_above_1 "place" := ⟨rfl, by decide +kernel, by decide +kernel, rfl, by decide +kernel, rfl, rfl, by decide +kernel, rfl, by decide +kernel, by decide +kernel⟩
theorem sc_up_to : FnScope ["word", "kinds"] ["word", "kinds"] (defScope s_up_to) := ⟨rfl, rfl, rfl, by decide +kernel, rfl, by decide +kernel, by decide +kernel⟩
theorem sc_looked_first : FnScope ["first", "kinds"] ["first", "kinds"] (defScope s_looked_first) := ⟨rfl, rfl, rfl, by decide +kernel, rfl, by decide +kernel, by decide +kernel⟩
theorem sc_count_below : FnScope ["least", "kinds"] ["least", "kinds"] (defScope s_count_below) := ⟨rfl, rfl, rfl, by decide +kernel, rfl, by decide +kernel, by decide +kernel⟩
theorem sc_ring_size : FnScope ["first", "kinds"] ["first", "kinds"] (defScope s_ring_size) := ⟨rfl, rfl, rfl, by decide +kernel, rfl, by decide +kernel, by decide +kernel⟩
theorem sc_put_together : FnScope ["first", "kinds", "least", "many", "text", "at", "later"] ["first", "kinds", "least", "many"] (defScope s_put_together) := ⟨rfl, rfl, rfl, by decide +kernel, rfl, by decide +kernel, by decide +kernel⟩
theorem sc_whole_ring : FnScope ["first", "kinds", "size"] ["first", "kinds"] (defScope s_whole_ring) := ⟨rfl, rfl, rfl, by decide +kernel, rfl, by decide +kernel, by decide +kernel⟩
theorem sc_looked_web : FnScope ["words", "word"] ["words"] (defScope s_looked_web) := ⟨rfl, rfl, rfl, by decide +kernel, rfl, by decide +kernel, by decide +kernel⟩
theorem sc_Web_init : FnScope ["self", "words"] ["self", "words"] (defScope s_Web_init) := ⟨rfl, rfl, rfl, by decide +kernel, rfl, by decide +kernel, by decide +kernel⟩
theorem sc_begin_of : FnScope ["word"] ["word"] (defScope s_begin_of) := ⟨rfl, rfl, rfl, by decide +kernel, rfl, by decide +kernel, by decide +kernel⟩
theorem sc_end_of : FnScope ["word"] ["word"] (defScope s_end_of) := ⟨rfl, rfl, rfl, by decide +kernel, rfl, by decide +kernel, by decide +kernel⟩
theorem sc_pieces : FnScope ["web"] ["web"] (defScope s_pieces) := ⟨rfl, rfl, rfl, by decide +kernel, rfl, by decide +kernel, by decide +kernel⟩
noncomputable def csc_pieces_0 : Scope := { kind := PySem.ScopeKind.function, names := [ (PySem.Str.ofString ".0", PySem.NameKind.local), (PySem.Str.ofString "word", PySem.NameKind.local), (PySem.Str.ofString "begin_of", PySem.NameKind.globalImplicit)], isGenerator := false, isCoroutine := false, more := [] : PySem.Scope }
theorem cs_pieces_0 : CompSc ["web"] ["word", "web"] (defScope s_pieces) csc_pieces_0 "word" := ⟨rfl, by decide +kernel, by decide +kernel, rfl, by decide +kernel, rfl, rfl, by decide +kernel, rfl, by decide +kernel, by decide +kernel⟩
noncomputable def csc_pieces_1 : Scope := { kind := PySem.ScopeKind.function, names := [ (PySem.Str.ofString ".0", PySem.NameKind.local), (PySem.Str.ofString "word", PySem.NameKind.local), (PySem.Str.ofString "end_of", PySem.NameKind.globalImplicit)], isGenerator := false, isCoroutine := false, more := [] : PySem.Scope }
theorem cs_pieces_1 : CompSc ["web"] ["word", "web"] (defScope s_pieces) csc_pieces_1 "word" := ⟨rfl, by decide +kernel, by decide +kernel, rfl, by decide +kernel, rfl, rfl, by decide +kernel, rfl, by decide +kernel, by decide +kernel⟩
theorem sc_excess : FnScope ["web", "some", "going", "coming"] ["web", "some"] (defScope s_excess) := ⟨rfl, rfl, rfl, by decide +kernel, rfl, by decide +kernel, by decide +kernel⟩
noncomputable def csc_excess_0 : Scope := { kind := PySem.ScopeKind.function, names := [ (PySem.Str.ofString ".0", PySem.NameKind.local), (PySem.Str.ofString "word", PySem.NameKind.local), (PySem.Str.ofString "begin_of", PySem.NameKind.globalImplicit), (PySem.Str.ofString "some", PySem.NameKind.free)], isGenerator := false, isCoroutine := false, more := [] : PySem.Scope }
theorem cs_excess_0 : CompSc ["web", "some", "going", "coming"] ["word", "web", "some", "going", "coming"] (defScope s_excess) csc_excess_0 "word" := ⟨rfl, by decide +kernel, by decide +kernel, rfl, by decide +kernel, rfl, rfl, by decide +kernel, rfl, by decide +kernel, by decide +kernel⟩
noncomputable def csc_excess_1 : Scope := { kind := PySem.ScopeKind.function, names := [ (PySem.Str.ofString ".0", PySem.NameKind.local), (PySem.Str.ofString "word", PySem.NameKind.local), (PySem.Str.ofString "end_of", PySem.NameKind.globalImplicit), (PySem.Str.ofString "some", PySem.NameKind.free)], isGenerator := false, isCoroutine := false, more := [] : PySem.Scope }
theorem cs_excess_1 : CompSc ["web", "some", "going", "coming"] ["word", "web", "some", "going", "coming"] (defScope s_excess) csc_excess_1 "word" := ⟨rfl, by decide +kernel, by decide +kernel, rfl, by decide +kernel, rfl, rfl, by decide +kernel, rfl, by decide +kernel, by decide +kernel⟩
theorem sc_hanging_by : FnScope ["words", "piece", "found", "known", "word"] ["words", "piece"] (defScope s_hanging_by) := ⟨rfl, rfl, rfl, by decide +kernel, rfl, by decide +kernel, by decide +kernel⟩
theorem sc_hanging : FnScope ["web", "piece"] ["web", "piece"] (defScope s_hanging) := ⟨rfl, rfl, rfl, by decide +kernel, rfl, by decide +kernel, by decide +kernel⟩
theorem sc_why_apart : FnScope ["web", "every", "together"] ["web"] (defScope s_why_apart) := ⟨rfl, rfl, rfl, by decide +kernel, rfl, by decide +kernel, by decide +kernel⟩
theorem sc_why_no_ring : FnScope ["web", "piece"] ["web"] (defScope s_why_no_ring) := ⟨rfl, rfl, rfl, by decide +kernel, rfl, by decide +kernel, by decide +kernel⟩
theorem sc_why_no_row : FnScope ["web", "above"] ["web"] (defScope s_why_no_row) := ⟨rfl, rfl, rfl, by decide +kernel, rfl, by decide +kernel, by decide +kernel⟩
noncomputable def csc_why_no_row_0 : Scope := { kind := PySem.ScopeKind.function, names := [ (PySem.Str.ofString ".0", PySem.NameKind.local), (PySem.Str.ofString "piece", PySem.NameKind.local), (PySem.Str.ofString "excess", PySem.NameKind.globalImplicit), (PySem.Str.ofString "web", PySem.NameKind.free)], isGenerator := false, isCoroutine := false, more := [] : PySem.Scope }
theorem cs_why_no_row_0 : CompSc ["web", "above"] ["piece", "web", "above"] (defScope s_why_no_row) csc_why_no_row_0 "piece" := ⟨rfl, by decide +kernel, by decide +kernel, rfl, by decide +kernel, rfl, rfl, by decide +kernel, rfl, by decide +kernel, by decide +kernel⟩
theorem sc_row_ends : FnScope ["web", "paper", "firsts", "lasts"] ["web"] (defScope s_row_ends) := ⟨rfl, rfl, rfl, by decide +kernel, rfl, by decide +kernel, by decide +kernel⟩
noncomputable def csc_row_ends_0 : Scope := { kind := PySem.ScopeKind.function, names := [ (PySem.Str.ofString ".0", PySem.NameKind.local), (PySem.Str.ofString "piece", PySem.NameKind.local), (PySem.Str.ofString "excess", PySem.NameKind.globalImplicit), (PySem.Str.ofString "web", PySem.NameKind.free)], isGenerator := false, isCoroutine := false, more := [] : PySem.Scope }
theorem cs_row_ends_0 : CompSc ["web", "paper", "firsts", "lasts"] ["piece", "web", "paper", "firsts", "lasts"] (defScope s_row_ends) csc_row_ends_0 "piece" := ⟨rfl, by decide +kernel, by decide +kernel, rfl, by decide +kernel, rfl, rfl, by decide +kernel, rfl, by decide +kernel, by decide +kernel⟩
noncomputable def csc_row_ends_1 : Scope := { kind := PySem.ScopeKind.function, names := [ (PySem.Str.ofString ".0", PySem.NameKind.local), (PySem.Str.ofString "piece", PySem.NameKind.local), (PySem.Str.ofString "excess", PySem.NameKind.globalImplicit), (PySem.Str.ofString "web", PySem.NameKind.free)], isGenerator := false, isCoroutine := false, more := [] : PySem.Scope }
theorem cs_row_ends_1 : CompSc ["web", "paper", "firsts", "lasts"] ["piece", "web", "paper", "firsts", "lasts"] (defScope s_row_ends) csc_row_ends_1 "piece" := ⟨rfl, by decide +kernel, by decide +kernel, rfl, by decide +kernel, rfl, rfl, by decide +kernel, rfl, by decide +kernel, by decide +kernel⟩
theorem sc_without : FnScope ["words", "word"] ["words", "word"] (defScope s_without) := ⟨rfl, rfl, rfl, by decide +kernel, rfl, by decide +kernel, by decide +kernel⟩
noncomputable def csc_without_0 : Scope := { kind := PySem.ScopeKind.function, names := [ (PySem.Str.ofString ".0", PySem.NameKind.local), (PySem.Str.ofString "other", PySem.NameKind.local), (PySem.Str.ofString "word", PySem.NameKind.free)], isGenerator := false, isCoroutine := false, more := [] : PySem.Scope }
theorem cs_without_0 : CompSc ["words", "word"] ["other", "words", "word"] (defScope s_without) csc_without_0 "other" := ⟨rfl, by decide +kernel, by decide +kernel, rfl, by decide +kernel, rfl, rfl, by decide +kernel, rfl, by decide +kernel, by decide +kernel⟩
theorem sc_can_go_on : FnScope ["left", "piece", "reached"] ["left", "piece"] (defScope s_can_go_on) := ⟨rfl, rfl, rfl, by decide +kernel, rfl, by decide +kernel, by decide +kernel⟩
noncomputable def csc_can_go_on_0 : Scope := { kind := PySem.ScopeKind.function, names := [ (PySem.Str.ofString ".0", PySem.NameKind.local), (PySem.Str.ofString "word", PySem.NameKind.local), (PySem.Str.ofString "begin_of", PySem.NameKind.globalImplicit), (PySem.Str.ofString "reached", PySem.NameKind.free)], isGenerator := false, isCoroutine := false, more := [] : PySem.Scope }
theorem cs_can_go_on_0 : CompSc ["left", "piece", "reached"] ["word", "left", "piece", "reached"] (defScope s_can_go_on) csc_can_go_on_0 "word" := ⟨rfl, by decide +kernel, by decide +kernel, rfl, by decide +kernel, rfl, rfl, by decide +kernel, rfl, by decide +kernel, by decide +kernel⟩
theorem sc_least_step : FnScope ["left", "piece", "ways", "going_on"] ["left", "piece"] (defScope s_least_step) := ⟨rfl, rfl, rfl, by decide +kernel, rfl, by decide +kernel, by decide +kernel⟩
noncomputable def csc_least_step_0 : Scope := { kind := PySem.ScopeKind.function, names := [ (PySem.Str.ofString ".0", PySem.NameKind.local), (PySem.Str.ofString "word", PySem.NameKind.local), (PySem.Str.ofString "begin_of", PySem.NameKind.globalImplicit), (PySem.Str.ofString "piece", PySem.NameKind.free)], isGenerator := false, isCoroutine := false, more := [] : PySem.Scope }
theorem cs_least_step_0 : CompSc ["left", "piece", "ways", "going_on"] ["word", "left", "piece", "ways", "going_on"] (defScope s_least_step) csc_least_step_0 "word" := ⟨rfl, by decide +kernel, by decide +kernel, rfl, by decide +kernel, rfl, rfl, by decide +kernel, rfl, by decide +kernel, by decide +kernel⟩
noncomputable def csc_least_step_1 : Scope := { kind := PySem.ScopeKind.function, names := [ (PySem.Str.ofString ".0", PySem.NameKind.local), (PySem.Str.ofString "word", PySem.NameKind.local), (PySem.Str.ofString "can_go_on", PySem.NameKind.globalImplicit), (PySem.Str.ofString "without", PySem.NameKind.globalImplicit), (PySem.Str.ofString "end_of", PySem.NameKind.globalImplicit), (PySem.Str.ofString "left", PySem.NameKind.free)], isGenerator := false, isCoroutine := false, more := [] : PySem.Scope }
theorem cs_least_step_1 : CompSc ["left", "piece", "ways", "going_on"] ["word", "left", "piece", "ways", "going_on"] (defScope s_least_step) csc_least_step_1 "word" := ⟨rfl, by decide +kernel, by decide +kernel, rfl, by decide +kernel, rfl, rfl, by decide +kernel, rfl, by decide +kernel, by decide +kernel⟩
theorem sc_least_way : FnScope ["web", "piece", "text", "at", "left", "word"] ["web", "piece"] (defScope s_least_way) := ⟨rfl, rfl, rfl, by decide +kernel, rfl, by decide +kernel, by decide +kernel⟩
theorem sc_least_row : FnScope ["web", "ends"] ["web"] (defScope s_least_row) := ⟨rfl, rfl, rfl, by decide +kernel, rfl, by decide +kernel, by decide +kernel⟩
theorem sc_least_ring : FnScope ["web", "paper"] ["web"] (defScope s_least_ring) := ⟨rfl, rfl, rfl, by decide +kernel, rfl, by decide +kernel, by decide +kernel⟩
theorem sc__law_mixed : FnScope ["cell", "k", "m"] ["cell", "k"] (defScope s__law_mixed) := ⟨rfl, rfl, rfl, by decide +kernel, rfl, by decide +kernel, by decide +kernel⟩
theorem sc__law_all : FnScope ["kinds", "length", "words", "k", "longer", "word"] ["kinds", "length"] (defScope s__law_all) := ⟨rfl, rfl, rfl, by decide +kernel, rfl, by decide +kernel, by decide +kernel⟩
noncomputable def csc__law_all_0 : Scope := { kind := PySem.ScopeKind.function, names := [ (PySem.Str.ofString ".0", PySem.NameKind.local), (PySem.Str.ofString "letter", PySem.NameKind.local), (PySem.Str.ofString "word", PySem.NameKind.free)], isGenerator := false, isCoroutine := false, more := [] : PySem.Scope }
theorem cs__law_all_0 : CompSc ["kinds", "length", "words", "k", "longer", "word"] ["letter", "kinds", "length", "words", "k", "longer", "word"] (defScope s__law_all) csc__law_all_0 "letter" := ⟨rfl, by decide +kernel, by decide +kernel, rfl, by decide +kernel, rfl, rfl, by decide +kernel, rfl, by decide +kernel, by decide +kernel⟩
theorem sc__law_least : FnScope ["word", "least", "k", "turn"] ["word"] (defScope s__law_least) := ⟨rfl, rfl, rfl, by decide +kernel, rfl, by decide +kernel, by decide +kernel⟩
theorem sc__law_first : FnScope ["cell", "words", "least_ones"] ["cell", "words"] (defScope s__law_first) := ⟨rfl, rfl, rfl, by decide +kernel, rfl, by decide +kernel, by decide +kernel⟩
noncomputable def csc__law_first_0 : Scope := { kind := PySem.ScopeKind.function, names := [ (PySem.Str.ofString ".0", PySem.NameKind.local), (PySem.Str.ofString "word", PySem.NameKind.local), (PySem.Str.ofString "_law_least", PySem.NameKind.globalImplicit)], isGenerator := false, isCoroutine := false, more := [] : PySem.Scope }
theorem cs__law_first_0 : CompSc ["cell", "words", "least_ones"] ["word", "cell", "words", "least_ones"] (defScope s__law_first) csc__law_first_0 "word" := ⟨rfl, by decide +kernel, by decide +kernel, rfl, by decide +kernel, rfl, rfl, by decide +kernel, rfl, by decide +kernel, by decide +kernel⟩
theorem sc_law : FnScope ["script", "cell", "kinds", "length", "words", "first", "web"] ["script"] (defScope s_law) := ⟨rfl, rfl, rfl, by decide +kernel, rfl, by decide +kernel, by decide +kernel⟩
noncomputable def csc_law_0 : Scope := { kind := PySem.ScopeKind.function, names := [ (PySem.Str.ofString ".0", PySem.NameKind.local), (PySem.Str.ofString "word", PySem.NameKind.local), (PySem.Str.ofString "_law_least", PySem.NameKind.globalImplicit), (PySem.Str.ofString "first", PySem.NameKind.free)], isGenerator := false, isCoroutine := false, more := [] : PySem.Scope }
theorem cs_law_0 : CompSc ["script", "cell", "kinds", "length", "words", "first", "web"] ["word", "script", "cell", "kinds", "length", "words", "first", "web"] (defScope s_law) csc_law_0 "word" := ⟨rfl, by decide +kernel, by decide +kernel, rfl, by decide +kernel, rfl, rfl, by decide +kernel, rfl, by decide +kernel, by decide +kernel⟩
set_option genInjectivity false in
structure Adr where
 BadKinds : Addr
 BadWord : Addr
 TooMany : Addr
 NoSuch : Addr
 Web : Addr
 u_LETTERS : Value
 u_LONGEST : Value
 u_MOST_WORDS : Value
 u_MOST_OF_A_WEB : Value
 u_LONGEST_OF_A_WEB : Value

set_option genInjectivity false in
structure Txt (K : PySem.W.Frag) (mg : Str → Option Value) (ad : Adr) : Prop where
 b_all : mg "all" = none
 b_len : mg "len" = none
 b_list : mg "list" = none
 b_range : mg "range" = none
 b_set : mg "set" = none
 b_sorted : mg "sorted" = none
 b_sum : mg "sum" = none
 b_tuple : mg "tuple" = none
 m_BadKinds : mg "BadKinds" = some (.ref ad.BadKinds)
 m_BadWord : mg "BadWord" = some (.ref ad.BadWord)
 m_TooMany : mg "TooMany" = some (.ref ad.TooMany)
 m_NoSuch : mg "NoSuch" = some (.ref ad.NoSuch)
 m_Web : mg "Web" = some (.ref ad.Web)
 x_BadKinds : Exc K mg "BadKinds" ad.BadKinds
 x_BadWord : Exc K mg "BadWord" ad.BadWord
 x_TooMany : Exc K mg "TooMany" ad.TooMany
 x_NoSuch : Exc K mg "NoSuch" ad.NoSuch
 g_LETTERS : mg "LETTERS" = some ad.u_LETTERS
 r_LETTERS : RelV (T [97, 98, 99, 100, 101, 102]) ad.u_LETTERS
 g_LONGEST : mg "LONGEST" = some ad.u_LONGEST
 r_LONGEST : RelV (.int 24) ad.u_LONGEST
 g_MOST_WORDS : mg "MOST_WORDS" = some ad.u_MOST_WORDS
 r_MOST_WORDS : RelV (.int 4096) ad.u_MOST_WORDS
 g_MOST_OF_A_WEB : mg "MOST_OF_A_WEB" = some ad.u_MOST_OF_A_WEB
 r_MOST_OF_A_WEB : RelV (.int 64) ad.u_MOST_OF_A_WEB
 g_LONGEST_OF_A_WEB : mg "LONGEST_OF_A_WEB" = some ad.u_LONGEST_OF_A_WEB
 r_LONGEST_OF_A_WEB : RelV (.int 8) ad.u_LONGEST_OF_A_WEB
 cl_Web : Cls K ad.Web
 na_Web_words : NoAttr K ad.Web "words"
 na_Web_length : NoAttr K ad.Web "length"
theorem cxK2 {CX : CXT} {P : Program} {w : World} {K : PySem.W.Frag} {mg : Str → Option Value} {base : Heap} {N : List Str} {q : Str} {sc : Scope} {f : Addr} {cdv : Value} {A : Around} {outer : List Env} {s : Shared} {H : Hp} {E : XK} : (cxOf CX P w K mg base N q sc f cdv A outer s H E).nox.K = K := rfl
section
variable {P : Program} {w : World} {K : PySem.W.Frag} {mg : Str → Option Value} {base : Heap} {ad : Adr}

theorem same_upd {H : Hp} {D : Addr} {o : HO} (h : H D = none) : Same H (upd H D o) := fun b u e => by rw [upd_ne (ne_of_none e h)]; exact e
theorem itP {c A B : Prop} [Decidable c] (hc : c) (h : A) : if c then A else B := by rw [if_pos hc]; exact h
theorem itN {c A B : Prop} [Decidable c] (hc : ¬ c) (h : B) : if c then A else B := by rw [if_neg hc]; exact h

theorem abc6 {m : Nat} (h : m < 6) : ([97, 98, 99, 100, 101, 102] : List Nat)[m]? = some (97 + m) := by
 have key : ∀ m : Nat, m < 6 → ([97, 98, 99, 100, 101, 102] : List Nat)[m]? = some (97 + m) := by decide
 exact key m h
theorem abc_mem {k c : Nat} (hk : k ≤ 6) : c ∈ ([97, 98, 99, 100, 101, 102] : List Nat).take k ↔ 97 ≤ c ∧ c < 97 + k := by
 have key : ∀ k : Nat, k < 7 → ([97, 98, 99, 100, 101, 102] : List Nat).take k = (List.range k).map (97 + ·) := by decide
 rw [key k (Nat.lt_succ_of_le hk), List.mem_map]
 exact ⟨fun ⟨i, h, e⟩ => e ▸ ⟨Nat.le_add_right _ _, Nat.add_lt_add_left (List.mem_range.mp h) _⟩, fun ⟨h1, h2⟩ => ⟨c - 97, List.mem_range.mpr (Nat.sub_lt_left_of_lt_add h1 h2), Nat.add_sub_cancel' h1⟩⟩
noncomputable def mixedZ (c k : Int) : Int := ((c * 48271 + (k + 1) * (k + 1) * 69621) % 2147483647) * ((c * 48271 + (k + 1) * (k + 1) * 69621) % 2147483647) % 2147483629 / 8
noncomputable def spMixed : Sp := fun vs H Q _ => ∃ (c k : Int), vs = [.int c, .int k] ∧ (0 ≤ k ∧ k ≤ 1000) ∧ Q (.int (mixedZ c k)) H
theorem ok__law_mixed {f : Addr} {fd : FuncData} (F : Fun K "_law_mixed" "_law_mixed" s__law_mixed f fd) (tt : Txt K mg ad) : FnOk P w K mg base (CX1 P w) 1 f fd ["cell", "k"] spMixed := by
 refine F.okN sc__law_mixed (fun vs H Q E h => ?_) (fun cdv A outer s H vs Q E hr h => ?_)
 ·obtain ⟨c, k, rfl, _⟩ := h
  rfl
 ·obtain ⟨c, k, rfl, hk, q⟩ := h
  refine ⟨_, (pss_cons (ps_set (i := 2) sc__law_mixed.nd rfl (Or.inl rfl) (pe_op op_mod (pe_op op_add (pe_op op_mul (pv 0) pe_int) (pe_op op_mul (pe_op op_mul (pe_op op_add (pv 1) pe_int) (pe_op op_add (pv 1) pe_int)) pe_int)) pe_int))
   (pss_one (ps_ret (pe_op op_fdiv (pe_op op_mod (pe_op op_mul (pv 2) (pv 2)) pe_int) pe_int)))), ?_⟩
  (try rw [cxK2]); (try rw [cxK1])
  refine ⟨_, rfl, _, _, rfl, rfl, .inr ⟨by decide, by decide⟩, _, rfl, _, _, rfl, rfl, _, rfl, _, _, rfl, rfl, _, _, rfl, rfl, .inl ⟨by omega, by omega⟩, _, _, rfl, rfl, .inr ⟨by decide, by decide⟩, _, _, rfl, rfl, _, _, rfl, rfl, (by show (0 : Int) < 2147483647; decide), ?_⟩
  have h1 := Int.emod_nonneg (c * 48271 + (k + 1) * (k + 1) * 69621) (show (2147483647 : Int) ≠ 0 by decide)
  have h2 := Int.emod_lt_of_pos (c * 48271 + (k + 1) * (k + 1) * 69621) (show (0 : Int) < 2147483647 by decide)
  unfold mixedZ at q
  refine ⟨_, rfl, _, rfl, _, _, rfl, rfl, .inl ⟨by omega, by omega⟩, _, _, rfl, rfl, (by show (0 : Int) < 2147483629; decide), _, _, rfl, rfl, ⟨by decide, by decide⟩, ?_⟩
  exact q

noncomputable def spKindsX (ad : Adr) : Sp := fun vs H Q E => ∃ k : Int, vs = [.int k] ∧ ((1 ≤ k ∧ k ≤ 6) → Q .non H) ∧ (¬ (1 ≤ k ∧ k ≤ 6) → E (.ref ad.BadKinds) none H)
theorem ok_looked_kinds {f : Addr} {fd : FuncData} (F : Fun K "looked_kinds" "looked_kinds" s_looked_kinds f fd) (tt : Txt K mg ad) : FnOk P w K mg base (CX1 P w) 1 f fd ["kinds"] (spKindsX ad) := by
 refine F.okX sc_looked_kinds (fun vs H Q E h => ?_) (fun cdv A outer s H vs Q E hr h => ?_)
 ·obtain ⟨k, rfl, _⟩ := h
  rfl
 ·obtain ⟨k, rfl, q, x⟩ := h
  have hs : sizeLine = 16777216 := sizeLine_eq
  refine ⟨_, (pss_one (ps_if (PW.pt (pw_or (pt_cmpR op_lt (pv 0) pe_int (nomark _)) (pw_or1 (pt_cmpR op_gt (pv 0) (pe_callB call_len_T (by rfl) tt.b_len PySem.boot_len (pa_cN (pe_glob (by rfl) tt.g_LETTERS tt.r_LETTERS) pa_nil)) (nomark _))))) (pss_one (ps_raise (E := fun cls H' => E cls none H') tt.x_BadKinds rfl (fun _ _ _ _ _ _ _ I hx q => raiseX I hx q) (pa_cC pe_str pa_nil))) pss_nil)), ?_⟩
  (try rw [cxK2]); (try rw [cxK1])
  refine ⟨_, rfl, _, _, rfl, rfl, _, rfl, ?_⟩
  refine ite2 (fun h0 => iteT ?_) (fun h0 => ?_)
  ·have h1 : k < 1 := of_decide_eq_true h0
   exact ⟨(by show 1 ≤ sizeLine; omega), x fun z => by omega⟩
  ·have h1 : ¬ k < 1 := fun z => h0 (decide_eq_true z)
   refine ⟨_, rfl, _, rfl, (by show 6 ≤ sizeLine; omega), _, _, rfl, rfl, _, rfl, ?_⟩
   refine ite2 (fun h2 => ?_) (fun h2 => ?_)
   ·have h3 : (6 : Int) < k := of_decide_eq_true h2
    exact ⟨(by show 1 ≤ sizeLine; omega), x fun z => by omega⟩
   ·have h3 : ¬ (6 : Int) < k := fun z => h2 (decide_eq_true z)
    exact q ⟨by omega, by omega⟩

noncomputable def spLenX (ad : Adr) : Sp := fun vs H Q E => ∃ n k : Int, vs = [.int n, .int k] ∧ ((1 ≤ k ∧ k ≤ 6) → (1 ≤ n ∧ n ≤ 24) → Q .non H) ∧ (¬ (1 ≤ k ∧ k ≤ 6) → E (.ref ad.BadKinds) none H) ∧ ((1 ≤ k ∧ k ≤ 6) → ¬ (1 ≤ n ∧ n ≤ 24) → E (.ref ad.BadWord) none H)
theorem ok_looked_length {f : Addr} {fd : FuncData} (F : Fun K "looked_length" "looked_length" s_looked_length f fd) (tt : Txt K mg ad) (C_looked_kinds : Cal P w K mg base (CX1 P w) "looked_kinds" 1 ["kinds"] (spKindsX ad)) :
  FnOk P w K mg base (CX1 P w) 2 f fd ["length", "kinds"] (spLenX ad) := by
 refine F.okX sc_looked_length (fun vs H Q E h => ?_) (fun cdv A outer s H vs Q E hr h => ?_)
 ·obtain ⟨n, k, rfl, _⟩ := h
  rfl
 ·obtain ⟨n, k, rfl, q, x1, x2⟩ := h
  have hs : sizeLine = 16777216 := sizeLine_eq
  refine ⟨_, (pss_cons (ps_expr (pe_cal C_looked_kinds hr passX (pa_cN (pv 1) pa_nil)))
   (pss_one (ps_if (PW.pt (pw_or (pt_cmpR op_lt (pv 0) pe_int (nomark _)) (pw_or1 (pt_cmpR op_gt (pv 0) (pe_glob (by rfl) tt.g_LONGEST tt.r_LONGEST) (nomark _))))) (pss_one (ps_raise (E := fun cls H' => E cls none H') tt.x_BadWord rfl (fun _ _ _ _ _ _ _ I hx q => raiseX I hx q) (pa_cC pe_str pa_nil))) pss_nil))), ?_⟩
  (try rw [cxK2]); (try rw [cxK1])
  refine ⟨_, rfl, k, rfl, fun hk => ?_, x1⟩
  refine ⟨_, rfl, _, _, rfl, rfl, _, rfl, ?_⟩
  refine ite2 (fun h0 => iteT ?_) (fun h0 => ?_)
  ·have h1 : n < 1 := of_decide_eq_true h0
   exact ⟨(by show 1 ≤ sizeLine; omega), x2 hk fun z => by omega⟩
  ·have h1 : ¬ n < 1 := fun z => h0 (decide_eq_true z)
   refine ⟨_, rfl, _, _, rfl, rfl, _, rfl, ?_⟩
   refine ite2 (fun h2 => ?_) (fun h2 => ?_)
   ·have h3 : (24 : Int) < n := of_decide_eq_true h2
    exact ⟨(by show 1 ≤ sizeLine; omega), x2 hk fun z => by omega⟩
   ·have h3 : ¬ (24 : Int) < n := fun z => h2 (decide_eq_true z)
    exact q hk ⟨by omega, by omega⟩

noncomputable def spLettersX (ad : Adr) : Sp := fun vs H Q E => ∃ k : Int, vs = [.int k] ∧ (∀ kn : Nat, k = (kn : Nat) → (1 ≤ kn ∧ kn ≤ 6) → Q (T (([97, 98, 99, 100, 101, 102] : List Nat).take kn)) H) ∧ (¬ (1 ≤ k ∧ k ≤ 6) → E (.ref ad.BadKinds) none H)
theorem ok_letters {f : Addr} {fd : FuncData} (F : Fun K "letters" "letters" s_letters f fd) (tt : Txt K mg ad) (C_looked_kinds : Cal P w K mg base (CX1 P w) "looked_kinds" 1 ["kinds"] (spKindsX ad)) : FnOk P w K mg base (CX1 P w) 2 f fd ["kinds"] (spLettersX ad) := by
 refine F.okX sc_letters (fun vs H Q E h => ?_) (fun cdv A outer s H vs Q E hr h => ?_)
 ·obtain ⟨k, rfl, _⟩ := h
  rfl
 ·obtain ⟨k, rfl, q, x⟩ := h
  have hs : sizeLine = 16777216 := sizeLine_eq
  refine ⟨_, (pss_cons (ps_expr (pe_cal C_looked_kinds hr passX (pa_cN (pv 0) pa_nil)))
   (pss_one (ps_ret (pe_slice sl_T (pe_glob (by rfl) tt.g_LETTERS tt.r_LETTERS) po_none (po_some (pv 0)))))), ?_⟩
  (try rw [cxK2]); (try rw [cxK1])
  refine ⟨_, rfl, k, rfl, fun hk => ?_, x⟩
  obtain ⟨kn, rfl⟩ : ∃ kn : Nat, k = (kn : Nat) := ⟨k.toNat, by omega⟩
  refine ⟨_, rfl, _, rfl, _, rfl, (by show 6 ≤ sizeLine; omega), ?_⟩
  rw [cutL_to (by show kn ≤ 6; omega)]
  exact q kn rfl ⟨by omega, by omega⟩

noncomputable def Good (w : List Nat) (kn : Nat) : Prop := (1 ≤ w.length ∧ w.length ≤ 24) ∧ ∀ c ∈ w, 97 ≤ c ∧ c < 97 + kn
noncomputable def spLookedX (ad : Adr) : Sp := fun vs H Q E => ∃ (w : List Nat) (k : Int), vs = [T w, .int k] ∧ w.length ≤ 100000 ∧ (¬ (1 ≤ k ∧ k ≤ 6) → E (.ref ad.BadKinds) none H) ∧
 ∀ kn : Nat, k = (kn : Nat) → (1 ≤ kn ∧ kn ≤ 6) → (Good w kn → Q .non H) ∧ (¬ Good w kn → E (.ref ad.BadWord) none H)
theorem ok_looked {f : Addr} {fd : FuncData} (F : Fun K "looked" "looked" s_looked f fd) (tt : Txt K mg ad) (C_looked_length : Cal P w K mg base (CX1 P w) "looked_length" 2 ["length", "kinds"] (spLenX ad))
  (C_letters : Cal P w K mg base (CX1 P w) "letters" 2 ["kinds"] (spLettersX ad)) : FnOk P w K mg base (CX1 P w) 3 f fd ["word", "kinds"] (spLookedX ad) := by
 refine F.okX sc_looked (fun vs H Q E h => ?_) (fun cdv A outer s H vs Q E hr h => ?_)
 ·obtain ⟨w, k, rfl, _⟩ := h
  rfl
 ·obtain ⟨w, k, rfl, hw, x1, q⟩ := h
  have hs : sizeLine = 16777216 := sizeLine_eq
  refine ⟨_, (pss_cons (ps_expr (pe_cal C_looked_length hr passX (pa_cK (pe_callB call_len_T (by rfl) tt.b_len PySem.boot_len (pa_cN (pv 0) pa_nil)) (pa_cN (pv 1) pa_nil))))
   (pss_cons (ps_set (i := 2) sc_looked.nd rfl (Or.inl rfl) (pe_cal C_letters hr passX (pa_cN (pv 1) pa_nil)))
   (pss_one (ps_for PassesOwn.leaving rfl (pi_str (pv 0)) (pg_name (i := 3) sc_looked.nd rfl (Or.inl rfl)) (pss_one (ps_if (pt_cmpR op_notin_sT (pv 3) (pv 2) (by with_unfolding_all rfl)) (pss_one (ps_raise (E := fun cls H' => E cls none H') tt.x_BadWord rfl (fun _ _ _ _ _ _ _ I hx q => raiseX I hx q) (pa_cC pe_str pa_nil))) pss_nil)))))), ?_⟩
  (try rw [cxK2]); (try rw [cxK1])
  refine ⟨_, rfl, _, rfl, (by omega), _, rfl, _, k, rfl, fun hk hn => ?_, x1, fun hk hn => ?_⟩
  rotate_left
  ·obtain ⟨kn, rfl⟩ : ∃ kn : Nat, k = (kn : Nat) := ⟨k.toNat, by omega⟩
   exact (q kn rfl ⟨by omega, by omega⟩).2 fun z => hn ⟨by have := z.1; omega, by have := z.1; omega⟩
  obtain ⟨kn, rfl⟩ : ∃ kn : Nat, k = (kn : Nat) := ⟨k.toNat, by omega⟩
  obtain ⟨q1, q2⟩ := q kn rfl ⟨by omega, by omega⟩
  refine ⟨_, rfl, _, rfl, fun kn' ek hk' => ?_, fun z => absurd hk z⟩
  obtain rfl : kn = kn' := by omega
  refine ⟨_, rfl, _, rfl, ?_⟩
  refine for_text (l := w) (fun i σ H2 => H = H2 ∧ (∀ c ∈ w.take i, 97 ≤ c ∧ c < 97 + kn) ∧ ∃ v, σ = [some (T w), some (.int (kn : Nat)), some (T (([97, 98, 99, 100, 101, 102] : List Nat).take kn)), v]) ⟨rfl, fun c hc => (by simp at hc), none, rfl⟩ ?_ ?_
  ·rintro i c σ H2 hi ⟨rfl, hall, v, rfl⟩
   refine ⟨_, rfl, _, rfl, _, rfl, _, rfl, _, rfl, ?_⟩
   refine ite2 (fun h0 => ?_) (fun h0 => ?_)
   ·have h1 : ¬ c ∈ ([97, 98, 99, 100, 101, 102] : List Nat).take kn := fun z => by
     rw [decide_eq_true z] at h0
     cases h0
    refine ⟨(by show 1 ≤ sizeLine; omega), q2 fun z => h1 ?_⟩
    exact (abc_mem (by omega)).mpr (z.2 c (List.mem_of_getElem? hi))
   ·have h1 : c ∈ ([97, 98, 99, 100, 101, 102] : List Nat).take kn := by
     apply Classical.byContradiction
     intro z
     rw [decide_eq_false z] at h0
     exact h0 rfl
    refine ⟨rfl, fun d hd => ?_, _, rfl⟩
    have hil := (List.getElem?_eq_some_iff.mp hi).1
    rw [List.take_add_one, hi] at hd
    rcases List.mem_append.mp hd with z | z
    ·exact hall d z
    ·have : d = c := by simpa using z
     subst this
     exact (abc_mem (by omega)).mp h1
  ·rintro σ H2 ⟨rfl, hall, v, rfl⟩
   rw [List.take_length] at hall
   exact q1 ⟨⟨by omega, by omega⟩, hall⟩

noncomputable def spTotal : Sp := fun vs H Q _ => ∃ n k : Nat, vs = [.int (n : Nat), .int (k : Nat)] ∧ (n ≤ 1000 ∧ k ≤ 1000) ∧ Q (.int ((k ^ n : Nat) : Int)) H

theorem ok_word_total {f : Addr} {fd : FuncData} (F : Fun K "word_total" "word_total" s_word_total f fd) (tt : Txt K mg ad) : FnOk P w K mg base (CX1 P w) 1 f fd ["length", "kinds"] spTotal := by
 refine F.okN sc_word_total (fun vs H Q E h => ?_) (fun cdv A outer s H vs Q E hr h => ?_)
 ·obtain ⟨n, k, rfl, _⟩ := h
  rfl
 ·obtain ⟨n, k, rfl, hn, q⟩ := h
  refine ⟨_, (pss_cons (ps_set (i := 2) sc_word_total.nd rfl (Or.inl rfl) pe_int)
   (pss_cons (ps_for PassesOwn.never rfl (pi_range1 (by rfl) tt.b_range (pa_cN (pv 0) pa_nil)) (pg_name (i := 3) sc_word_total.nd rfl (Or.inl rfl)) (pss_one (ps_set (i := 2) sc_word_total.nd rfl (Or.inl rfl) (pe_op op_mul (pv 2) (pv 1)))))
   (pss_one (ps_ret (pv 2))))), ?_⟩
  (try rw [cxK2]); (try rw [cxK1])
  refine ⟨_, rfl, _, rfl, by omega, by omega, ?_⟩
  rw [Int.toNat_natCast]
  refine for_range (fun i σ H2 => H2 = H ∧ ∃ v, σ = [some (.int (n : Nat)), some (.int (k : Nat)), some (.int ((k ^ i : Nat) : Int)), v]) ⟨rfl, none, rfl⟩ ?_ ?_
  ·rintro i σ H2 hi ⟨rfl, v, rfl⟩
   refine ⟨_, rfl, _, rfl, _, _, rfl, rfl, .inr ⟨by omega, by omega⟩, ?_⟩
   refine ⟨rfl, some (.int (0 + (i : Int))), ?_⟩
   rw [Nat.pow_succ, Int.natCast_mul]
   rfl
  ·rintro σ H2 ⟨rfl, v, rfl⟩
   exact ⟨_, rfl, q⟩
noncomputable def spTurned : Sp := fun vs H Q _ => ∃ (w : List Nat) (b : Int), vs = [T w, .int b] ∧ w.length ≤ 10000 ∧ Q (T (Wd.rot (b % (w.length : Int)).toNat w)) H
theorem ok_turned {f : Addr} {fd : FuncData} (F : Fun K "turned" "turned" s_turned f fd) (tt : Txt K mg ad) : FnOk P w K mg base (CX1 P w) 1 f fd ["text", "by"] spTurned := by
 refine F.okN sc_turned (fun vs H Q E h => ?_) (fun cdv A outer s H vs Q E hr h => ?_)
 ·obtain ⟨w, b, rfl, _⟩ := h
  rfl
 ·obtain ⟨w, b, rfl, hw, q⟩ := h
  have hs : sizeLine = 16777216 := sizeLine_eq
  refine ⟨_, (pss_cons (ps_if (pt_cmpR op_eq_T (pv 0) (pe_strT [] (by decide +kernel)) (nomark _)) (pss_one (ps_ret (pv 0))) pss_nil)
   (pss_cons (ps_set (i := 2) sc_turned.nd rfl (Or.inl rfl) (pe_op op_mod (pv 1) (pe_callB call_len_T (by rfl) tt.b_len PySem.boot_len (pa_cN (pv 0) pa_nil))))
   (pss_one (ps_ret (pe_op op_add_T (pe_slice sl_T (pv 0) (po_some (pv 2)) po_none) (pe_slice sl_T (pv 0) po_none (po_some (pv 2)))))))), ?_⟩
  (try rw [cxK2]); (try rw [cxK1])
  refine ⟨_, rfl, _, rfl, _, rfl, _, rfl, ?_⟩
  refine ite2 (fun h0 => ?_) (fun h0 => ?_)
  ·have e : w = [] := of_decide_eq_true h0
   subst e
   refine ⟨_, rfl, ?_⟩
   have e2 : Wd.rot (b % (([] : List Nat).length : Int)).toNat [] = [] := by simp [Wd.rot]
   rw [e2] at q
   exact q
  ·have hne : w ≠ [] := fun z => h0 (decide_eq_true z)
   have hp : 0 < w.length := List.length_pos_iff.mpr hne
   have b0 := Int.emod_nonneg b (show (w.length : Int) ≠ 0 by omega)
   have b1 := Int.emod_lt_of_pos b (show (0 : Int) < (w.length : Int) by omega)
   refine ⟨_, rfl, _, rfl, _, rfl, (by omega), _, _, rfl, rfl, (by show (0 : Int) < ((w.length : Nat) : Int); omega), ?_⟩
   obtain ⟨m, hm⟩ := Int.eq_ofNat_of_zero_le b0
   have hm' : b % (w.length : Int) = (m : Int) := hm
   rw [hm', Int.toNat_natCast] at q
   rw [hm'] at b1
   refine ⟨_, rfl, _, rfl, _, rfl, _, rfl, (by omega), _, rfl, _, rfl, _, rfl, _, rfl, (by omega), _, rfl, _, rfl, ?_, ?_⟩
   ·have c1 := cutL_length_le w (some (b % (w.length : Int))) none
    have c2 := cutL_length_le w none (some (b % (w.length : Int)))
    omega
   ·have e : cutL w (some (b % (w.length : Int))) none ++ cutL w none (some (b % (w.length : Int))) = Wd.rot m w := by
     rw [hm', cutL_from (by omega), cutL_to (by omega)]
     rfl
    rw [e]
    exact q
noncomputable def spTurnBy : Sp := fun vs H Q _ => ∃ (w : List Nat), vs = [T w] ∧ w.length ≤ 10000 ∧ Q (.int ((Wd.turnBy w : Nat) : Int)) H
theorem ok_turn_by {f : Addr} {fd : FuncData} (F : Fun K "turn_by" "turn_by" s_turn_by f fd) (tt : Txt K mg ad) (C_turned : Cal P w K mg base (CX1 P w) "turned" 1 ["text", "by"] spTurned) : FnOk P w K mg base (CX1 P w) 2 f fd ["word"] spTurnBy := by
 refine F.okN sc_turn_by (fun vs H Q E h => ?_) (fun cdv A outer s H vs Q E hr h => ?_)
 ·obtain ⟨w, rfl, _⟩ := h
  rfl
 ·obtain ⟨w, rfl, hw, q⟩ := h
  have hs : sizeLine = 16777216 := sizeLine_eq
  refine ⟨_, (pss_cons (ps_set (i := 1) sc_turn_by.nd rfl (Or.inl rfl) pe_int)
   (pss_cons (ps_for PassesOwn.never rfl (pi_range2 (by rfl) tt.b_range (pa_cC pe_int (pa_cK (pe_callB call_len_T (by rfl) tt.b_len PySem.boot_len (pa_cN (pv 0) pa_nil)) pa_nil))) (pg_name (i := 2) sc_turn_by.nd rfl (Or.inl rfl)) (pss_one (ps_if (pt_cmpR op_lt_T (pe_cal C_turned hr pass1 (pa_cN (pv 0) (pa_cN (pv 2) pa_nil))) (pe_cal C_turned hr pass1 (pa_cN (pv 0) (pa_cN (pv 1) pa_nil))) (nomark _)) (pss_one (ps_set (i := 1) sc_turn_by.nd rfl (Or.inl rfl) (pv 2))) pss_nil)))
   (pss_one (ps_ret (pv 1))))), ?_⟩
  (try rw [cxK2]); (try rw [cxK1])
  refine ⟨_, rfl, _, rfl, (by omega), _, _, rfl, ⟨by decide, by decide, by omega, by omega⟩, ?_⟩
  refine for_range (fun i σ H2 => H2 = H ∧ ∃ v, σ = [some (T w), some (.int ((Wd.bestTo w i : Nat) : Int)), v]) ⟨rfl, none, rfl⟩ ?_ ?_
  ·rintro i σ H2 hi ⟨rfl, v, rfl⟩
   have hb := Wd.best_le w i
   have hlt : i + 1 < w.length := by omega
   refine ⟨_, rfl, _, rfl, w, 1 + (i : Int), rfl, hw, ?_⟩
   refine ⟨_, rfl, _, rfl, w, ((Wd.bestTo w i : Nat) : Int), rfl, hw, ?_⟩
   have e1 : ((1 + (i : Int)) % (w.length : Int)).toNat = i + 1 := by rw [Int.emod_eq_of_lt (by omega) (by omega)]; omega
   have e2 : (((Wd.bestTo w i : Nat) : Int) % (w.length : Int)).toNat = Wd.bestTo w i := by rw [Int.emod_eq_of_lt (by omega) (by omega)]; omega
   rw [e1, e2]
   refine ⟨_, rfl, _, rfl, _, rfl, ?_⟩
   refine ite2 (fun h0 => ?_) (fun h0 => ?_)
   ·have h1 : Wd.rot (i + 1) w < Wd.rot (Wd.bestTo w i) w := of_decide_eq_true h0
    refine ⟨_, rfl, rfl, some (.int (1 + (i : Int))), ?_⟩
    rw [Wd.bestTo, if_pos h1, show ((i + 1 : Nat) : Int) = 1 + (i : Int) by omega]
    rfl
   ·have h1 : ¬ Wd.rot (i + 1) w < Wd.rot (Wd.bestTo w i) w := fun z => h0 (decide_eq_true z)
    refine ⟨rfl, some (.int (1 + (i : Int))), ?_⟩
    rw [Wd.bestTo, if_neg h1]
    rfl
  ·rintro σ H2 ⟨rfl, v, rfl⟩
   refine ⟨_, rfl, ?_⟩
   have e : ((w.length : Int) - 1).toNat = w.length - 1 := by omega
   rw [e]
   exact q
noncomputable def spIsLeast : Sp := fun vs H Q _ => ∃ (w : List Nat), vs = [T w] ∧ w.length ≤ 10000 ∧ Q (.bl (decide (w = Wd.least w))) H
theorem ok_is_least {f : Addr} {fd : FuncData} (F : Fun K "is_least" "is_least" s_is_least f fd) (tt : Txt K mg ad) (C_turn_by : Cal P w K mg base (CX1 P w) "turn_by" 2 ["word"] spTurnBy) : FnOk P w K mg base (CX1 P w) 3 f fd ["word"] spIsLeast := by
 refine F.okN sc_is_least (fun vs H Q E h => ?_) (fun cdv A outer s H vs Q E hr h => ?_)
 ·obtain ⟨w, rfl, _⟩ := h
  rfl
 ·obtain ⟨w, rfl, hw, q⟩ := h
  refine ⟨_, (pss_one (ps_ret (pe_cmpR op_eq_I (pe_cal C_turn_by hr pass1 (pa_cN (pv 0) pa_nil)) pe_int (nomark _)))), ?_⟩
  (try rw [cxK2]); (try rw [cxK1])
  refine ⟨_, rfl, w, rfl, hw, _, rfl, _, rfl, ?_⟩
  have e : decide (((Wd.turnBy w : Nat) : Int) = 0) = decide (w = Wd.least w) := by
   rw [Bool.eq_iff_iff, decide_eq_true_iff, decide_eq_true_iff, ← Wd.isLeast_iff]
   omega
  rw [e]
  exact q
noncomputable def spLeast : Sp := fun vs H Q _ => ∃ (w : List Nat), vs = [T w] ∧ w.length ≤ 10000 ∧ Q (T (Wd.least w)) H
theorem ok__law_least {f : Addr} {fd : FuncData} (F : Fun K "_law_least" "_law_least" s__law_least f fd) (tt : Txt K mg ad) : FnOk P w K mg base (CX1 P w) 1 f fd ["word"] spLeast := by
 refine F.okN sc__law_least (fun vs H Q E h => ?_) (fun cdv A outer s H vs Q E hr h => ?_)
 ·obtain ⟨w, rfl, _⟩ := h
  rfl
 ·obtain ⟨w, rfl, hw, q⟩ := h
  have hs : sizeLine = 16777216 := sizeLine_eq
  refine ⟨_, (pss_cons (ps_set (i := 1) sc__law_least.nd rfl (Or.inl rfl) (pv 0))
   (pss_cons (ps_for PassesOwn.never rfl (pi_range2 (by rfl) tt.b_range (pa_cC pe_int (pa_cK (pe_callB call_len_T (by rfl) tt.b_len PySem.boot_len (pa_cN (pv 0) pa_nil)) pa_nil))) (pg_name (i := 2) sc__law_least.nd rfl (Or.inl rfl)) (pss_cons (ps_set (i := 3) sc__law_least.nd rfl (Or.inl rfl) (pe_op op_add_T (pe_slice sl_T (pv 0) (po_some (pv 2)) po_none) (pe_slice sl_T (pv 0) po_none (po_some (pv 2)))))
   (pss_one (ps_if (pt_cmpR op_lt_T (pv 3) (pv 1) (nomark _)) (pss_one (ps_set (i := 1) sc__law_least.nd rfl (Or.inl rfl) (pv 3))) pss_nil))))
   (pss_one (ps_ret (pv 1))))), ?_⟩
  (try rw [cxK2]); (try rw [cxK1])
  refine ⟨_, rfl, _, rfl, _, rfl, (by omega), _, _, rfl, ⟨by decide, by decide, by omega, by omega⟩, ?_⟩
  refine for_range (fun i σ H2 => H2 = H ∧ ∃ v v', σ = [some (T w), some (T (Wd.leastTo w i)), v, v']) ⟨rfl, none, none, rfl⟩ ?_ ?_
  ·rintro i σ H2 hi ⟨rfl, v, v', rfl⟩
   have hlt : i + 1 < w.length := by omega
   refine ⟨_, rfl, _, rfl, _, rfl, _, rfl, (by omega), _, rfl, _, rfl, _, rfl, _, rfl, (by omega), _, rfl, _, rfl, ?_, ?_⟩
   ·have c1 := cutL_length_le w (some (1 + (i : Int))) none
    have c2 := cutL_length_le w none (some (1 + (i : Int)))
    omega
   ·have e : cutL w (some (1 + (i : Int))) none ++ cutL w none (some (1 + (i : Int))) = Wd.rot (i + 1) w := by
     rw [show 1 + (i : Int) = ((i + 1 : Nat) : Int) by omega, cutL_from (by omega), cutL_to (by omega)]
     rfl
    rw [e]
    refine ⟨_, rfl, _, rfl, _, rfl, _, rfl, _, rfl, ?_⟩
    refine ite2 (fun h0 => ?_) (fun h0 => ?_)
    ·have h1 : Wd.rot (i + 1) w < Wd.leastTo w i := of_decide_eq_true h0
     refine ⟨_, rfl, rfl, some (.int (1 + (i : Int))), some (T (Wd.rot (i + 1) w)), ?_⟩
     rw [Wd.leastTo, if_pos h1]
     rfl
    ·have h1 : ¬ Wd.rot (i + 1) w < Wd.leastTo w i := fun z => h0 (decide_eq_true z)
     refine ⟨rfl, some (.int (1 + (i : Int))), some (T (Wd.rot (i + 1) w)), ?_⟩
     rw [Wd.leastTo, if_neg h1]
     rfl
  ·rintro σ H2 ⟨rfl, v, v', rfl⟩
   refine ⟨_, rfl, ?_⟩
   have e : ((w.length : Int) - 1).toNat = w.length - 1 := by omega
   rw [e]
   exact q

theorem div_cast (a b : Nat) : ((a : Nat) : Int) / ((b : Nat) : Int) = ((a / b : Nat) : Int) := (Int.natCast_ediv a b).symm
noncomputable def spTimes : Sp := fun vs H Q _ => ∃ (w : List Nat), vs = [T w] ∧ (0 < w.length ∧ w.length ≤ 10000) ∧ ∀ p, Wd.RootLen w p → Q (.int ((w.length / p : Nat) : Int)) H
theorem ok_times_of {f : Addr} {fd : FuncData} (F : Fun K "times_of" "times_of" s_times_of f fd) (tt : Txt K mg ad) : FnOk P w K mg base (CX1 P w) 1 f fd ["word"] spTimes := by
 refine F.okN sc_times_of (fun vs H Q E h => ?_) (fun cdv A outer s H vs Q E hr h => ?_)
 ·obtain ⟨w, rfl, _⟩ := h
  rfl
 ·obtain ⟨w, rfl, hw, q⟩ := h
  have hs : sizeLine = 16777216 := sizeLine_eq
  refine ⟨_, (pss_cons (ps_for PassesOwn.never rfl (pi_range2 (by rfl) tt.b_range (pa_cC pe_int (pa_cK (pe_callB call_len_T (by rfl) tt.b_len PySem.boot_len (pa_cN (pv 0) pa_nil)) pa_nil))) (pg_name (i := 1) sc_times_of.nd rfl (Or.inl rfl)) (pss_cons (ps_set (i := 2) sc_times_of.nd rfl (Or.inl rfl) (pe_op op_fdiv (pe_callB call_len_T (by rfl) tt.b_len PySem.boot_len (pa_cN (pv 0) pa_nil)) (pv 1)))
   (pss_one (ps_if (pt_cmpR op_eq_T (pe_op op_mul_T (pe_slice sl_T (pv 0) po_none (po_some (pv 1))) (pv 2)) (pv 0) (nomark _)) (pss_one (ps_ret (pv 2))) pss_nil))))
   (pss_one (ps_ret pe_int))), ?_⟩
  (try rw [cxK2]); (try rw [cxK1])
  refine ⟨_, rfl, _, rfl, (by omega), _, _, rfl, ⟨by decide, by decide, by omega, by omega⟩, ?_⟩
  refine for_range (fun i σ H2 => H2 = H ∧ (∀ q, 0 < q → q ≤ i → Wd.rep (w.length / q) (w.take q) ≠ w) ∧ ∃ v v', σ = [some (T w), v, v']) ⟨rfl, fun q h0 h1 => by omega, none, none, rfl⟩ ?_ ?_
  ·rintro i σ H2 hi ⟨rfl, hno, v, v', rfl⟩
   have hlt : i + 1 < w.length := by omega
   have e1 : 1 + (i : Int) = ((i + 1 : Nat) : Int) := by omega
   have hq : w.length / (i + 1) ≤ w.length := Nat.div_le_self _ _
   have hm : w.length / (i + 1) * (i + 1) ≤ w.length := Nat.div_mul_le_self _ _
   have ct : cutL w none (some (1 + (i : Int))) = w.take (i + 1) := by rw [e1]; exact cutL_to (by omega)
   have hl : (w.take (i + 1)).length = i + 1 := by rw [List.length_take]; omega
   refine ⟨_, rfl, _, rfl, (by omega), _, rfl, _, _, rfl, rfl, ⟨by omega, by omega⟩, ?_⟩
   have e2 : (w.length : Int) / (1 + (i : Int)) = ((w.length / (i + 1) : Nat) : Int) := by rw [e1, div_cast]
   dsimp only
   rw [e2]
   refine ⟨_, rfl, _, rfl, _, rfl, _, rfl, (by omega), _, rfl, _, rfl, w.length / (i + 1), rfl, ⟨by omega, (by rw [ct, hl]; omega)⟩, _, rfl, _, rfl, _, rfl, _, rfl, ?_⟩
   rw [ct]
   refine ite2 (fun h0 => ?_) (fun h0 => ?_)
   ·have h1 : Wd.rep (w.length / (i + 1)) (w.take (i + 1)) = w := of_decide_eq_true h0
    exact ⟨_, rfl, q (i + 1) ⟨by omega, by omega, h1, fun p p0 p1 => hno p p0 (by omega)⟩⟩
   ·have h1 : Wd.rep (w.length / (i + 1)) (w.take (i + 1)) ≠ w := fun z => h0 (decide_eq_true z)
    refine ⟨rfl, fun p p0 p1 => ?_, _, _, rfl⟩
    by_cases hp : p = i + 1
    ·rw [hp]
     exact h1
    ·exact hno p p0 (by omega)
  ·rintro σ H2 ⟨rfl, hno, v, v', rfl⟩
   have e : Wd.rep (w.length / w.length) (w.take w.length) = w := by rw [Nat.div_self hw.1, List.take_length, Wd.rep_one]
   have z := q w.length ⟨hw.1, Nat.le_refl _, e, fun p p0 p1 => hno p p0 (by omega)⟩
   rw [Nat.div_self hw.1] at z
   exact z
noncomputable def spRoot : Sp := fun vs H Q _ => ∃ (w : List Nat), vs = [T w] ∧ (0 < w.length ∧ w.length ≤ 10000) ∧ ∀ p, Wd.RootLen w p → Q (T (w.take p)) H
theorem ok_root {f : Addr} {fd : FuncData} (F : Fun K "root" "root" s_root f fd) (tt : Txt K mg ad) (C_times_of : Cal P w K mg base (CX1 P w) "times_of" 1 ["word"] spTimes) : FnOk P w K mg base (CX1 P w) 2 f fd ["word"] spRoot := by
 refine F.okN sc_root (fun vs H Q E h => ?_) (fun cdv A outer s H vs Q E hr h => ?_)
 ·obtain ⟨w, rfl, _⟩ := h
  rfl
 ·obtain ⟨w, rfl, hw, q⟩ := h
  have hs : sizeLine = 16777216 := sizeLine_eq
  refine ⟨_, (pss_one (ps_ret (pe_slice sl_T (pv 0) po_none (po_some (pe_op op_fdiv (pe_callB call_len_T (by rfl) tt.b_len PySem.boot_len (pa_cN (pv 0) pa_nil)) (pe_cal C_times_of hr pass1 (pa_cN (pv 0) pa_nil))))))), ?_⟩
  (try rw [cxK2]); (try rw [cxK1])
  refine ⟨_, rfl, _, rfl, _, rfl, (by omega), _, rfl, w, rfl, hw, fun p hp => ?_⟩
  have hd : p ∣ w.length := Nat.dvd_of_mod_eq_zero hp.rp.2.1
  have h1 : 0 < w.length / p := Nat.div_pos hp.le hp.pos
  have h2 : w.length / p ≤ w.length := Nat.div_le_self _ _
  have h3 : w.length / (w.length / p) = p := Nat.div_div_self hd (by omega)
  refine ⟨_, _, rfl, rfl, ⟨by omega, by omega⟩, _, rfl, _, rfl, (by omega), ?_⟩
  rw [div_cast, h3, cutL_to hp.le]
  exact q p hp

theorem abc_top {k : Nat} (h1 : 1 ≤ k) (h2 : k ≤ 6) : atI (([97, 98, 99, 100, 101, 102] : List Nat).take k) (-1) = some (96 + k) := by
 have key : ∀ m : Nat, m < 6 → atI (([97, 98, 99, 100, 101, 102] : List Nat).take (m + 1)) (-1) = some (96 + (m + 1)) := by decide
 obtain ⟨m, rfl⟩ : ∃ m, k = m + 1 := ⟨k - 1, by omega⟩
 exact key m (by omega)
noncomputable def spFilled : Sp := fun vs H Q _ => ∃ (p : List Nat) (n k : Nat), vs = [T p, .int (n : Nat), .int (k : Nat)] ∧ ((1 ≤ k ∧ k ≤ 6) ∧ p.length ≤ n ∧ n ≤ 10000) ∧ Q (T (Wd.fill k n p)) H
theorem ok_filled {f : Addr} {fd : FuncData} (F : Fun K "filled" "filled" s_filled f fd) (tt : Txt K mg ad) (C_letters : Cal P w K mg base (CX1 P w) "letters" 2 ["kinds"] (spLettersX ad)) : FnOk P w K mg base (CX1 P w) 3 f fd ["text", "length", "kinds"] spFilled := by
 refine F.okN sc_filled (fun vs H Q E h => ?_) (fun cdv A outer s H vs Q E hr h => ?_)
 ·obtain ⟨p, n, k, rfl, _⟩ := h
  rfl
 ·obtain ⟨p, n, k, rfl, ⟨hk, hp, hn⟩, q⟩ := h
  have hs : sizeLine = 16777216 := sizeLine_eq
  refine ⟨_, (pss_one (ps_ret (pe_op op_add_T (pv 0) (pe_op op_mul_T (pe_ix ix_T (pe_cal C_letters hr pass1 (pa_cN (pv 2) pa_nil)) (pe_un un_neg pe_int) (fun _ _ => rfl)) (pe_op op_sub (pv 1) (pe_callB call_len_T (by rfl) tt.b_len PySem.boot_len (pa_cN (pv 0) pa_nil))))))), ?_⟩
  (try rw [cxK2]); (try rw [cxK1])
  refine ⟨_, rfl, _, rfl, _, rfl, fun kn ek hk2 => ?_, fun z => absurd ⟨by omega, by omega⟩ z⟩
  obtain rfl : k = kn := by omega
  refine ⟨_, rfl, _, rfl, _, rfl, (by rw [List.length_take]; omega), 96 + k, abc_top hk.1 hk.2, _, rfl, _, rfl, _, rfl, (by omega), _, _, rfl, rfl, _, rfl, n - p.length, congrArg V.int (by omega), ⟨by omega, (by show (n - p.length) * 1 ≤ sizeLine; omega)⟩, _, rfl, _, rfl, (by rw [Wd.rep_len]; show p.length + (n - p.length) * 1 ≤ sizeLine; omega), ?_⟩
  rw [Wd.rep_letter]
  exact q

noncomputable def spIsBeg : Sp := fun vs H Q _ => ∃ (p : List Nat) (n k : Nat), vs = [T p, .int (n : Nat), .int (k : Nat)] ∧ ((1 ≤ k ∧ k ≤ 6) ∧ p.length ≤ 10000 ∧ n ≤ 10000) ∧ ∀ b : Bool, (b = true ↔ Wd.IsB k n p) → Q (.bl b) H
theorem ok_is_beginning {f : Addr} {fd : FuncData} (F : Fun K "is_beginning" "is_beginning" s_is_beginning f fd) (tt : Txt K mg ad) (C_is_least : Cal P w K mg base (CX1 P w) "is_least" 3 ["word"] spIsLeast)
  (C_filled : Cal P w K mg base (CX1 P w) "filled" 3 ["text", "length", "kinds"] spFilled) : FnOk P w K mg base (CX1 P w) 4 f fd ["text", "length", "kinds"] spIsBeg := by
 refine F.okN sc_is_beginning (fun vs H Q E h => ?_) (fun cdv A outer s H vs Q E hr h => ?_)
 ·obtain ⟨p, n, k, rfl, _⟩ := h
  rfl
 ·obtain ⟨p, n, k, rfl, ⟨hk, hp, hn⟩, q⟩ := h
  have hs : sizeLine = 16777216 := sizeLine_eq
  refine ⟨_, (pss_one (ps_ret (pe_and (pe_cmpR op_le (pe_callB call_len_T (by rfl) tt.b_len PySem.boot_len (pa_cN (pv 0) pa_nil)) (pv 1) (nomark _)) (pe_one (pe_cal C_is_least hr pass1 (pa_cK (pe_cal C_filled hr pass1 (pa_cN (pv 0) (pa_cN (pv 1) (pa_cN (pv 2) pa_nil)))) pa_nil)))))), ?_⟩
  (try rw [cxK2]); (try rw [cxK1])
  refine ⟨_, rfl, _, rfl, (by omega), _, rfl, _, _, rfl, rfl, _, rfl, ?_⟩
  refine ite2 (fun h0 => ?_) (fun h0 => ?_)
  ·have h1 : p.length ≤ n := by have := of_decide_eq_true h0; omega
   refine ⟨_, rfl, _, rfl, _, rfl, p, n, k, rfl, ⟨hk, h1, by omega⟩, _, rfl, (by rw [Wd.fill_len h1]; omega), q _ ?_⟩
   rw [decide_eq_true_iff]
   exact ⟨fun z => ⟨h1, z⟩, fun z => z.2⟩
  ·have h1 : ¬ p.length ≤ n := fun z => h0 (decide_eq_true (by omega))
   exact q false ⟨fun z => (by cases z), fun z => absurd z.1 h1⟩

theorem first_letter {k : Nat} (hk : 1 ≤ k ∧ k ≤ 6) (p : Nat → Bool) (h : p (96 + k) = true) : ∃ c r, (([97, 98, 99, 100, 101, 102] : List Nat).take k).filter p = c :: r ∧ (97 ≤ c ∧ c < 97 + k) ∧ p c = true ∧ ∀ d, 97 ≤ d → d < c → p d = false := by
 have hm : 96 + k ∈ (([97, 98, 99, 100, 101, 102] : List Nat).take k).filter p := List.mem_filter.mpr ⟨(abc_mem hk.2).mpr ⟨by omega, by omega⟩, h⟩
 have hso : (([97, 98, 99, 100, 101, 102] : List Nat).take k).Pairwise (· < ·) := List.Pairwise.sublist (List.take_sublist _ _) (by decide)
 have hsf := hso.filter p
 cases hq : (([97, 98, 99, 100, 101, 102] : List Nat).take k).filter p with
 | nil => rw [hq] at hm; cases hm
 | cons c r =>
  have hc : c ∈ (([97, 98, 99, 100, 101, 102] : List Nat).take k).filter p := by rw [hq]; exact List.mem_cons_self
  obtain ⟨h1, h2⟩ := List.mem_filter.mp hc
  have h3 := (abc_mem hk.2).mp h1
  refine ⟨c, r, rfl, h3, h2, fun d hd hlt => ?_⟩
  cases hp : p d with
  | false => rfl
  | true =>
   have h4 : d ∈ c :: r := by rw [← hq]; exact List.mem_filter.mpr ⟨(abc_mem hk.2).mpr ⟨hd, by omega⟩, hp⟩
   rw [hq] at hsf
   rcases List.mem_cons.mp h4 with h5 | h5
   ·omega
   ·have := (List.pairwise_cons.mp hsf).1 d h5
    omega
noncomputable def invFrom (k n : Nat) (p : List Nat) (H : Hp) (m : Nat) (σ : St) (H2 : Hp) : Prop := ∃ (r : List Nat) (v : Option V), m = n - r.length ∧ Same H H2 ∧ Wd.LF k n p r ∧ σ = [some (T p), some (.int (n : Nat)), some (.int (k : Nat)), some (T r), v]
noncomputable def spFrom : Sp := fun vs H Q _ => ∃ (p : List Nat) (n k : Nat), vs = [T p, .int (n : Nat), .int (k : Nat)] ∧ ((1 ≤ k ∧ k ≤ 6) ∧ n ≤ 1000 ∧ Wd.IsB k n p ∧ Wd.Okk k p) ∧ ∀ r H', Wd.LB k n p r → Same H H' → Q (T r) H'
theorem ok_least_from {f : Addr} {fd : FuncData} (F : Fun K "least_from" "least_from" s_least_from f fd) (tt : Txt K mg ad) (C_letters : Cal P w K mg base (CX1 P w) "letters" 2 ["kinds"] (spLettersX ad))
  (C_is_beginning : Cal P w K mg base (CX1 P w) "is_beginning" 4 ["text", "length", "kinds"] spIsBeg) : FnOk P w K mg base (CX1 P w) 5 f fd ["beginning", "length", "kinds"] spFrom := by
 refine F.okN sc_least_from (fun vs H Q E h => ?_) (fun cdv A outer s H vs Q E hr h => ?_)
 ·obtain ⟨p, n, k, rfl, _⟩ := h
  rfl
 ·obtain ⟨p, n, k, rfl, ⟨hk, hn, hb, ho⟩, q⟩ := h
  have hs : sizeLine = 16777216 := sizeLine_eq
  refine ⟨_, (pss_cons (ps_set (i := 3) sc_least_from.nd rfl (Or.inr rfl) (pv 0))
   (pss_cons (ps_while PassesOwn.never (pt_cmpR op_lt (pe_callB call_len_T (by rfl) tt.b_len PySem.boot_len (pa_cN (pv 3) pa_nil)) (pv 1) (nomark _)) (pss_cons (ps_setCompf (i := 4) cs_least_from_0 rfl (pi_str (pe_cal C_letters hr pass1 (pa_cN (pv 2) pa_nil))) (fun cl C s' H' fp => (pt_val (pe_cal C_is_beginning hr pass1 (pa_cB (pe_op op_add_T (pv 4) (pv 0)) (pa_cN (pv 2) (pa_cN (pv 3) pa_nil)))))) (fun cl C s' H' fp => (pv 0)) sc_least_from.nd rfl rfl)
   (pss_one (ps_set (i := 3) sc_least_from.nd rfl (Or.inr rfl) (pe_op op_add_T (pv 3) (pe_ix ix_list (pv 4) pe_int (fun _ _ => rfl)))))))
   (pss_one (ps_ret (pv 3))))), ?_⟩
  (try rw [cxK2]); (try rw [cxK1])
  refine ⟨_, rfl, ?_⟩
  refine ⟨invFrom k n p H, ⟨_, p, none, rfl, Same.refl _, Wd.LF.start hb ho, rfl⟩, ?_⟩
  rintro m σ H2 ⟨r, v, rfl, s2, hf, rfl⟩
  have hrl := hf.isb.1
  refine ⟨_, rfl, _, rfl, (by omega), _, rfl, _, _, rfl, rfl, _, rfl, ?_⟩
  refine ite2 (fun h0 => ?_) (fun h0 => ?_)
  ·have h1 : r.length < n := by have := of_decide_eq_true h0; omega
   refine ⟨fun σ' H' => ∃ m', m' < n - r.length ∧ invFrom k n p H m' σ' H', fun σ' H' z => z, ?_⟩
   refine ⟨_, rfl, _, rfl, fun kn ek hk2 => ?_, fun z => absurd ⟨by omega, by omega⟩ z⟩
   obtain rfl : k = kn := by omega
   refine ⟨_, rfl, ?_⟩
   refine compf_text (fun c => decide (Wd.IsB k n (r ++ [c]))) (by rw [List.length_take]; omega) (fun i c H' hi s' N hN => ?_) (fun x H' N hN => ⟨_, rfl, hN⟩) fun D H3 hD s3 hd3 => ?_
   ·refine ⟨_, rfl, _, rfl, _, rfl, _, rfl, (by show r.length + 1 ≤ sizeLine; omega), _, rfl, _, rfl, r ++ [c], n, k, rfl, ⟨hk, (by rw [List.length_append]; show r.length + 1 ≤ 10000; omega), by omega⟩, fun b hb => ⟨b, rfl, ?_⟩⟩
    have e : b = decide (Wd.IsB k n (r ++ [c])) := by rw [Bool.eq_iff_iff, decide_eq_true_iff]; exact hb
    rw [e]
    exact hN H' (Same.refl _)
   ·obtain ⟨c, rest, hq, hc, hpc, hno⟩ := first_letter hk (fun c => decide (Wd.IsB k n (r ++ [c]))) (decide_eq_true (hf.isb.snoc h1))
    rw [hq] at hd3
    refine ⟨_, rfl, _, rfl, D, _, _, T [c], rfl, rfl, SqL.of hd3, atI_nat (j := 0) rfl, _, rfl, _, rfl, (by show r.length + 1 ≤ sizeLine; omega), ?_⟩
    refine ⟨n - (r ++ [c]).length, ?_, r ++ [c], some (.ref D), rfl, s2.trans s3, hf.step (by omega) h1 hc (of_decide_eq_true hpc) (fun d hd hlt => of_decide_eq_false (hno d hd hlt)), rfl⟩
    rw [List.length_append]
    show n - (r.length + 1) < n - r.length
    omega
  ·have h1 : ¬ r.length < n := fun z => h0 (decide_eq_true (by omega))
   exact ⟨_, rfl, q r H2 (hf.done (by omega)) s2⟩


noncomputable def ResN (k : Nat) (w : List Nat) (x : V) : Prop := (x = .non ∧ ∀ v, Wd.LW k w.length v → ¬ w < v) ∨ ∃ r, x = T r ∧ Wd.NX k w r
theorem one_lt {c d : Nat} : ([c] : List Nat) < [d] ↔ c < d := by
 rw [List.cons_lt_cons_iff]
 constructor
 ·rintro (h | ⟨_, h⟩)
  ·exact h
  ·exact absurd h (by simp)
 ·exact .inl
noncomputable def spNextX (ad : Adr) : Sp := fun vs H Q E => ∃ (w : List Nat) (k : Int), vs = [T w, .int k] ∧ w.length ≤ 100000 ∧ (¬ (1 ≤ k ∧ k ≤ 6) → E (.ref ad.BadKinds) none H) ∧
 ∀ kn : Nat, k = (kn : Nat) → (1 ≤ kn ∧ kn ≤ 6) → (Good w kn → ∀ x H', ResN kn w x → Same H H' → Q x H') ∧ (¬ Good w kn → E (.ref ad.BadWord) none H)
theorem ok_next_least {f : Addr} {fd : FuncData} (F : Fun K "next_least" "next_least" s_next_least f fd) (tt : Txt K mg ad) (C_looked : Cal P w K mg base (CX1 P w) "looked" 3 ["word", "kinds"] (spLookedX ad))
  (C_letters : Cal P w K mg base (CX1 P w) "letters" 2 ["kinds"] (spLettersX ad)) (C_is_beginning : Cal P w K mg base (CX1 P w) "is_beginning" 4 ["text", "length", "kinds"] spIsBeg)
  (C_least_from : Cal P w K mg base (CX1 P w) "least_from" 5 ["beginning", "length", "kinds"] spFrom) : FnOk P w K mg base (CX1 P w) 6 f fd ["word", "kinds"] (spNextX ad) := by
 refine F.okX sc_next_least (fun vs H Q E h => ?_) (fun cdv A outer s H vs Q E hr h => ?_)
 ·obtain ⟨w, k, rfl, _⟩ := h
  rfl
 ·obtain ⟨w, k, rfl, hw, x1, q⟩ := h
  have hs : sizeLine = 16777216 := sizeLine_eq
  refine ⟨_, (pss_cons (ps_expr (pe_cal C_looked hr passX (pa_cN (pv 0) (pa_cN (pv 1) pa_nil))))
   (pss_cons (ps_for PassesOwn.leaving rfl (pi_range3 (by rfl) tt.b_range (pa_cB (pe_op op_sub (pe_callB call_len_T (by rfl) tt.b_len PySem.boot_len (pa_cN (pv 0) pa_nil)) pe_int) (pa_cU (pe_un un_neg pe_int) (pa_cU (pe_un un_neg pe_int) pa_nil)))) (pg_name (i := 2) sc_next_least.nd rfl (Or.inl rfl)) (pss_one (ps_for PassesOwn.leaving rfl (pi_str (pe_cal C_letters hr passX (pa_cN (pv 1) pa_nil))) (pg_name (i := 3) sc_next_least.nd rfl (Or.inl rfl)) (pss_cons (ps_set (i := 4) sc_next_least.nd rfl (Or.inl rfl) (pe_op op_add_T (pe_slice sl_T (pv 0) po_none (po_some (pv 2))) (pv 3)))
   (pss_one (ps_if (PW.pt (pw_and (pt_cmpR op_gt_T (pv 3) (pe_ix ix_T (pv 0) (pv 2) (fun _ _ => rfl)) (nomark _)) (pw_and1 (pt_val (pe_cal C_is_beginning hr pass1 (pa_cN (pv 4) (pa_cK (pe_callB call_len_T (by rfl) tt.b_len PySem.boot_len (pa_cN (pv 0) pa_nil)) (pa_cN (pv 1) pa_nil)))))))) (pss_one (ps_ret (pe_cal C_least_from hr pass1 (pa_cN (pv 4) (pa_cK (pe_callB call_len_T (by rfl) tt.b_len PySem.boot_len (pa_cN (pv 0) pa_nil)) (pa_cN (pv 1) pa_nil)))))) pss_nil))))))
   (pss_one (ps_ret pe_non)))), ?_⟩
  (try rw [cxK2]); (try rw [cxK1])
  refine ⟨_, rfl, _, rfl, w, k, rfl, hw, x1, fun kn ek hk => ?_⟩
  subst ek
  obtain ⟨q1, q2⟩ := q kn rfl hk
  refine ⟨fun hg => ?_, q2⟩
  have hwl := hg.1
  have hwo : Wd.Okk kn w := hg.2
  refine ⟨_, rfl, _, rfl, (by omega), _, _, rfl, rfl, _, rfl, _, rfl, _, _, rfl, ⟨by omega, by omega, by omega, by omega⟩, ?_⟩
  rw [show ((w.length : Nat) : Int) - 1 - -1 = ((w.length : Nat) : Int) by omega, Int.toNat_natCast]
  refine for_down (fun i σ H2 => Same H H2 ∧ Wd.Nn kn w (w.length - i) ∧ ∃ v1 v2 v3, σ = [some (T w), some (.int (kn : Nat)), v1, v2, v3]) ⟨Same.refl _, Wd.Nn.start kn w, none, none, none, rfl⟩ ?_ ?_
  ·rintro i σ H2 hi ⟨s2, hnn, v1, v2, v3, rfl⟩
   obtain ⟨m, hm⟩ : ∃ m, w.length - i = m + 1 := ⟨w.length - i - 1, by omega⟩
   rw [hm] at hnn
   have hml : m < w.length := by omega
   have epl : ((w.length : Nat) : Int) - 1 - (i : Int) = ((m : Nat) : Int) := by omega
   have hgm := Wd.okk_getD hwo hml
   have hat : atI w ((m : Nat) : Int) = some (w.getD m 0) := atI_nat (Wd.gD hml)
   have htl : (w.take m).length = m := by rw [List.length_take]; omega
   rw [epl]
   refine ⟨_, rfl, _, rfl, fun kn' ek hk2 => ?_, fun z => absurd ⟨by omega, by omega⟩ z⟩
   obtain rfl : kn = kn' := by omega
   refine ⟨_, rfl, ?_⟩
   refine for_text (l := ([97, 98, 99, 100, 101, 102] : List Nat).take kn) (fun j σ H3 => Same H2 H3 ∧ (∀ d, 97 ≤ d → d < 97 + j → w.getD m 0 < d → ¬ Wd.IsB kn w.length (w.take m ++ [d])) ∧ ∃ v2 v3, σ = [some (T w), some (.int (kn : Nat)), some (.int ((m : Nat) : Int)), v2, v3]) ⟨Same.refl _, fun d h1 h2 => by omega, _, _, rfl⟩ ?_ ?_
   ·rintro j c σ H3 hj ⟨s3, hno, v2, v3, rfl⟩
    have hjl := (List.getElem?_eq_some_iff.mp hj).1
    rw [List.length_take] at hjl
    have hj6 : j < kn := by have : ([97, 98, 99, 100, 101, 102] : List Nat).length = 6 := rfl; omega
    obtain rfl : c = 97 + j := by
     rw [List.getElem?_take_of_lt hj6, abc6 (by omega)] at hj
     exact (Option.some.inj hj).symm
    refine ⟨_, rfl, _, rfl, _, rfl, _, rfl, (by omega), _, rfl, _, rfl, _, rfl, ?_, ?_⟩
    ·rw [cutL_take, htl]
     show m + 1 ≤ sizeLine
     omega
    rw [cutL_take]
    refine ⟨_, rfl, _, rfl, _, rfl, _, rfl, _, rfl, (by omega), _, hat, _, rfl, _, rfl, _, rfl, ?_⟩
    refine ite2 (fun h0 => ?_) (fun h0 => ?_)
    ·have h1 : w.getD m 0 < 97 + j := one_lt.mp (of_decide_eq_true h0)
     refine ⟨_, rfl, _, rfl, _, rfl, (by omega), _, rfl, w.take m ++ [97 + j], w.length, kn, rfl, ⟨hk, (by rw [List.length_append, htl]; show m + 1 ≤ 10000; omega), by omega⟩, fun b hb => ⟨b, rfl, ?_⟩⟩
     cases b with
     | true =>
      refine iteT ?_
      have hb2 := hb.mp rfl
      refine ⟨_, rfl, _, rfl, _, rfl, (by omega), _, rfl, w.take m ++ [97 + j], w.length, kn, rfl, ⟨hk, by omega, hb2, ?_⟩, fun r H' hr s' => ?_⟩
      ·exact Wd.okk_app.mpr ⟨fun x hx => hwo x (List.mem_of_mem_take hx), fun x hx => by rw [List.mem_singleton] at hx; omega⟩
      ·exact q1 hg (T r) H' (.inr ⟨r, rfl, hnn.found (by omega) hml h1 (fun d hd hlt hwd => hno d hd hlt hwd) hr⟩) ((s2.trans s3).trans s')
     | false =>
      refine iteF ⟨s3, fun d hd hlt hwd => ?_, _, _, rfl⟩
      by_cases e : d = 97 + j
      ·subst e
       exact fun z => by have := hb.mpr z; cases this
      ·exact hno d hd (by omega) hwd
    ·have h1 : ¬ w.getD m 0 < 97 + j := fun z => h0 (decide_eq_true (one_lt.mpr z))
     refine iteF ⟨s3, fun d hd hlt hwd => ?_, _, _, rfl⟩
     by_cases e : d = 97 + j
     ·subst e
      exact absurd hwd h1
     ·exact hno d hd (by omega) hwd
   ·rintro σ H3 ⟨s3, hno, v2, v3, rfl⟩
    rw [List.length_take] at hno
    have h6 : ([97, 98, 99, 100, 101, 102] : List Nat).length = 6 := rfl
    refine ⟨s2.trans s3, ?_, _, _, _, rfl⟩
    rw [show w.length - (i + 1) = m by omega]
    exact hnn.step (by omega) hml fun d hd hlt hwd => hno d hd (by omega) hwd
  ·rintro σ H2 ⟨s2, hnn, v1, v2, v3, rfl⟩
   rw [Nat.sub_self] at hnn
   exact q1 hg .non H2 (.inl ⟨rfl, hnn.none⟩) s2


noncomputable def invLast (k : Nat) (w : List Nat) (H : Hp) (m : Nat) (σ : St) (H2 : Hp) : Prop := H2 = H ∧ ∃ (l : List Nat) (v : Option V), m ≤ w.length ∧ l.length = w.length ∧ (Wd.Lst l → Wd.LL k w l) ∧ (¬ Wd.Lst l → Wd.Jn k w m) ∧ σ = [some (T w), some (.int (k : Nat)), some (T l), some (.int (m : Nat)), v]
noncomputable def spLastX (ad : Adr) : Sp := fun vs H Q E => ∃ (w : List Nat) (k : Int), vs = [T w, .int k] ∧ w.length ≤ 100000 ∧ (¬ (1 ≤ k ∧ k ≤ 6) → E (.ref ad.BadKinds) none H) ∧
 ∀ kn : Nat, k = (kn : Nat) → (1 ≤ kn ∧ kn ≤ 6) → (Good w kn → ∀ r, Wd.LL kn w r → Q (T r) H) ∧ (¬ Good w kn → E (.ref ad.BadWord) none H)
theorem ok_last_least {f : Addr} {fd : FuncData} (F : Fun K "last_least" "last_least" s_last_least f fd) (tt : Txt K mg ad) (C_looked : Cal P w K mg base (CX1 P w) "looked" 3 ["word", "kinds"] (spLookedX ad))
  (C_is_least : Cal P w K mg base (CX1 P w) "is_least" 3 ["word"] spIsLeast) (C_filled : Cal P w K mg base (CX1 P w) "filled" 3 ["text", "length", "kinds"] spFilled) : FnOk P w K mg base (CX1 P w) 4 f fd ["word", "kinds"] (spLastX ad) := by
 refine F.okX sc_last_least (fun vs H Q E h => ?_) (fun cdv A outer s H vs Q E hr h => ?_)
 ·obtain ⟨w, k, rfl, _⟩ := h
  rfl
 ·obtain ⟨w, k, rfl, hw, x1, q⟩ := h
  have hs : sizeLine = 16777216 := sizeLine_eq
  refine ⟨_, (pss_cons (ps_expr (pe_cal C_looked hr passX (pa_cN (pv 0) (pa_cN (pv 1) pa_nil))))
   (pss_cons (ps_set (i := 2) sc_last_least.nd rfl (Or.inl rfl) (pv 0))
   (pss_cons (ps_set (i := 3) sc_last_least.nd rfl (Or.inl rfl) (pe_callB call_len_T (by rfl) tt.b_len PySem.boot_len (pa_cN (pv 0) pa_nil)))
   (pss_cons (ps_while PassesOwn.leaving (pt_not (pt_val (pe_cal C_is_least hr pass1 (pa_cN (pv 2) pa_nil)))) (pss_cons (ps_set (i := 3) sc_last_least.nd rfl (Or.inl rfl) (pe_op op_sub (pv 3) pe_int))
   (pss_cons (ps_set (i := 4) sc_last_least.nd rfl (Or.inl rfl) (pe_op op_sub (pe_bm PySem.F.plainAttrs_str PySem.F.slot_str_index PySem.F.type_str_index mt_index6 (pe_glob (by rfl) tt.g_LETTERS tt.r_LETTERS) (pa_cS (pe_ix ix_T (pv 0) (pv 3) (fun _ _ => rfl)) pa_nil)) pe_int))
   (pss_one (ps_if (pt_cmpR op_ge (pv 4) pe_int (nomark _)) (pss_one (ps_set (i := 2) sc_last_least.nd rfl (Or.inl rfl) (pe_cal C_filled hr pass1 (pa_cB (pe_op op_add_T (pe_slice sl_T (pv 0) po_none (po_some (pv 3))) (pe_ix ix_T (pe_glob (by rfl) tt.g_LETTERS tt.r_LETTERS) (pv 4) (fun _ _ => rfl))) (pa_cK (pe_callB call_len_T (by rfl) tt.b_len PySem.boot_len (pa_cN (pv 0) pa_nil)) (pa_cN (pv 1) pa_nil)))))) pss_nil)))))
   (pss_one (ps_ret (pv 2))))))), ?_⟩
  (try rw [cxK2]); (try rw [cxK1])
  refine ⟨_, rfl, _, rfl, w, k, rfl, hw, x1, fun kn ek hk => ?_⟩
  subst ek
  obtain ⟨q1, q2⟩ := q kn rfl hk
  refine ⟨fun hg => ?_, q2⟩
  have hwl := hg.1
  have hwo : Wd.Okk kn w := hg.2
  refine ⟨_, rfl, _, rfl, _, rfl, (by omega), ?_⟩
  refine ⟨invLast kn w H, ⟨w.length, rfl, w, none, Nat.le_refl _, rfl, fun h => Wd.LL.self hwo h, fun h => Wd.Jn.start h, rfl⟩, ?_⟩
  rintro m σ H2 ⟨rfl, l, v, hm, hl, hyes, hno, rfl⟩
  refine ⟨_, rfl, l, rfl, by omega, _, rfl, ?_⟩
  by_cases hlst : Wd.Lst l
  ·rw [decide_eq_true (show l = Wd.least l from hlst)]
   exact iteF ⟨_, rfl, q1 hg l (hyes hlst)⟩
  ·rw [decide_eq_false (show ¬ l = Wd.least l from hlst)]
   refine iteT ?_
   have hj := hno hlst
   obtain ⟨j, rfl⟩ : ∃ j, m = j + 1 := by
    cases m with
    | zero => exact absurd hj (Wd.Jn.zero (by omega) hwo)
    | succ j => exact ⟨j, rfl⟩
   have hjl : j < w.length := by omega
   have hgj := Wd.okk_getD hwo hjl
   have htl : (w.take j).length = j := by rw [List.length_take]; omega
   have hat : atI w (((j + 1 : Nat) : Int) - 1) = some (w.getD j 0) := by
    rw [show ((j + 1 : Nat) : Int) - 1 = ((j : Nat) : Int) by omega]
    exact atI_nat (Wd.gD hjl)
   refine ⟨fun σ' H' => ∃ m', m' < j + 1 ∧ invLast kn w H2 m' σ' H', fun σ' H' z => z, ?_⟩
   refine ⟨_, rfl, _, _, rfl, rfl, ?_⟩
   refine ⟨rfl, _, rfl, _, rfl, _, rfl, _, rfl, (by omega), _, hat, rfl, _, rfl, ⟨by omega, by omega⟩, _, _, rfl, rfl, ?_⟩
   refine ⟨_, rfl, _, _, rfl, rfl, _, rfl, ?_⟩
   refine ite2 (fun h0 => ?_) (fun h0 => ?_)
   ·have h1 : (0 : Int) ≤ ((w.getD j 0 - 97 : Nat) : Int) - 1 := of_decide_eq_true h0
    have hat2 : atI [97, 98, 99, 100, 101, 102] (((w.getD j 0 - 97 : Nat) : Int) - 1) = some (w.getD j 0 - 1) := by
     rw [show ((w.getD j 0 - 97 : Nat) : Int) - 1 = ((w.getD j 0 - 98 : Nat) : Int) by omega, show w.getD j 0 - 1 = 97 + (w.getD j 0 - 98) by omega]
     exact atI_nat (abc6 (by omega))
    have hcut : cutL w none (some (((j + 1 : Nat) : Int) - 1)) = w.take j := by
     rw [show ((j + 1 : Nat) : Int) - 1 = ((j : Nat) : Int) by omega]
     exact cutL_take w j
    refine ⟨_, rfl, _, rfl, _, rfl, _, rfl, (by omega), _, rfl, _, rfl, _, rfl, (by show 6 ≤ sizeLine; omega), _, hat2, _, rfl, _, rfl, ?_, _, rfl, _, rfl, (by omega), _, rfl, w.take j ++ [w.getD j 0 - 1], w.length, kn, ?_, ⟨hk, ?_, by omega⟩, ?_⟩
    ·rw [hcut, htl]
     show j + 1 ≤ sizeLine
     omega
    ·rw [hcut]
     rfl
    ·rw [List.length_append, htl]
     show j + 1 ≤ w.length
     omega
    ·refine ⟨j, by omega, rfl, Wd.fill kn w.length (w.take j ++ [w.getD j 0 - 1]), some (.int (((w.getD j 0 - 97 : Nat) : Int) - 1)), by omega, Wd.fill_len (by rw [List.length_append, htl]; show j + 1 ≤ w.length; omega), fun z => hj.found (by omega) hwo hjl (by omega) z, fun z => hj.down (by omega) hwo hjl z, ?_⟩
     rw [show ((j : Nat) : Int) = ((j + 1 : Nat) : Int) - 1 by omega]
     rfl
   ·have h1 : ¬ (0 : Int) ≤ ((w.getD j 0 - 97 : Nat) : Int) - 1 := fun z => h0 (decide_eq_true z)
    refine ⟨j, by omega, rfl, l, some (.int (((w.getD j 0 - 97 : Nat) : Int) - 1)), by omega, hl, hyes, fun _ => hj.a hjl (by omega), ?_⟩
    rw [show ((j : Nat) : Int) = ((j + 1 : Nat) : Int) - 1 by omega]
    rfl


noncomputable def rV (k : Nat) (w : List Nat) (t : Nat) : V := .int (((Wd.pw k w t).length : Nat) : Int)
noncomputable def gV (k : Nat) (w : List Nat) (p : Nat) : V := .int ((96 + k - w.getD p 0 : Nat) : Int)
theorem sum_cast (l : List Nat) : (l.map fun (n : Nat) => ((n : Nat) : Int)).sum = ((l.sum : Nat) : Int) := by
 induction l with
 | nil => rfl
 | cons a l ih => rw [List.map_cons, List.sum_cons, List.sum_cons, ih, Int.natCast_add]
theorem range_at {f : Nat → V} {n i : Nat} (h : i < n) : ((List.range n).map f)[i]? = some (f i) := by rw [List.getElem?_map, List.getElem?_range h]; rfl
noncomputable def spRests : Sp := fun vs H Q _ => ∃ (g : Addr) (k : Nat) (w : List Nat), vs = [.ref g] ∧ H g = some (.lst ((List.range w.length).map (gV k w))) ∧ (k ≤ 6 ∧ 1 ≤ w.length ∧ w.length ≤ 24) ∧ ∀ D H', H D = none → Same H H' → H' D = some (.lst ((List.range w.length).map (rV k w))) → Q (.ref D) H'
theorem ok_rests {f : Addr} {fd : FuncData} (F : Fun K "rests" "rests" s_rests f fd) (tt : Txt K mg ad) : FnOk P w K mg base (CX1 P w) 1 f fd ["greater"] spRests := by
 refine F.okN sc_rests (fun vs H Q E h => ?_) (fun cdv A outer s H vs Q E hr h => ?_)
 ·obtain ⟨g, k, w, rfl, _⟩ := h
  rfl
 ·obtain ⟨g, k, w, rfl, hS, ⟨hk, h1, h24⟩, q⟩ := h
  have hs : sizeLine = 16777216 := sizeLine_eq
  have hgl : ((List.range w.length).map (gV k w)).length = w.length := by rw [List.length_map, List.length_range]
  refine ⟨_, (pss_cons (ps_set (i := 1) sc_rests.nd rfl (Or.inr rfl) (pe_lst (pa_cC pe_int pa_nil)))
   (pss_cons (ps_for PassesOwn.never rfl (pi_range2 (by rfl) tt.b_range (pa_cC pe_int (pa_cK (pe_callB call_len_seq (by rfl) tt.b_len PySem.boot_len (pa_cN (pv 0) pa_nil)) pa_nil))) (pg_name (i := 2) sc_rests.nd rfl (Or.inr rfl)) (pss_one (ps_expr (pe_bm PySem.F.plainAttrs_list PySem.F.slot_list_append PySem.F.type_list_append mt_append (pv 1) (pa_cK (pe_callB (call_sumX rfl) (by rfl) tt.b_sum PyProof.Rows.boot_sum (pa_cons (pe_comp cs_rests_0 rfl (pi_range1 (by rfl) tt.b_range (pa_cN (pv 2) pa_nil)) (fun cl C s' H' fp => (pe_op op_mul (pe_ix (ix_list_K K rfl) (pv 1) (pv 0) (fun _ _ => rfl)) (pe_ix (ix_list_K K rfl) (pv 2) (pe_op op_sub (pe_op op_sub (pv 3) pe_int) (pv 0)) (fun _ _ => rfl))))) pa_nil)) pa_nil)))))
   (pss_one (ps_ret (pv 1))))), ?_⟩
  (try rw [cxK2]); (try rw [cxK1])
  refine ⟨(by show 1 ≤ sizeLine; omega), fun D hD => ?_⟩
  have t1 := same_upd (o := .lst [.int 1]) hD
  refine ⟨_, rfl, g, _, rfl, .inl (SqL.of (t1 g _ hS)), _, _, rfl, ⟨by decide, by decide, by rw [hgl]; omega, by rw [hgl]; omega⟩, ?_⟩
  rw [hgl]
  refine for_range (fun i σ G => Same H G ∧ G D = some (.lst ((List.range (i + 1)).map (rV k w))) ∧ ∃ v : Option V, σ = [some (.ref g), some (.ref D), v])
   ⟨t1, (by rw [upd_same]; show some (HO.lst [.int 1]) = some (HO.lst [rV k w 0]); rw [rV, Wd.pw_zero]; rfl), none, rfl⟩ ?_ ?_
  ·rintro i σ G hi ⟨s2, d2, v, rfl⟩
   have hi2 : i + 1 < w.length := by omega
   refine ⟨_, rfl, .inl ⟨rfl, _, SqL.of d2⟩, _, rfl, _, rfl, by omega, by omega, ?_⟩
   have en : (1 + (i : Int)).toNat = i + 1 := by omega
   rw [en]
   refine comp_range (lo := 0) (n := i + 1) (fun p => .int (((96 + k - w.getD p 0) * (Wd.pw k w (i - p)).length : Nat) : Int)) (by omega) (fun p G3 hp s3 N hN => ?_) fun D3 G3 hD3 s3 hd3 => ?_
   ·have e1 : atI ((List.range w.length).map (gV k w)) (0 + (p : Int)) = some (gV k w p) := by rw [Int.zero_add]; exact atI_nat (range_at (by omega))
    have e2 : atI ((List.range (i + 1)).map (rV k w)) (1 + (i : Int) - 1 - (0 + (p : Int))) = some (rV k w (i - p)) := by
     rw [show 1 + (i : Int) - 1 - (0 + (p : Int)) = ((i - p : Nat) : Int) by omega]
     exact atI_nat (range_at (by omega))
    have g3 := hN G3 (Same.refl _)
    rw [Int.natCast_mul] at g3
    exact ⟨_, rfl, _, rfl, g, _, _, _, rfl, rfl, SqL.of (s3 g _ (s2 g _ hS)), e1, _, rfl, _, rfl, _, _, rfl, rfl, _, rfl, _, _, rfl, rfl, D, _, _, _, rfl, rfl, SqL.of (s3 D _ d2), e2, _, _, rfl, rfl, .inl ⟨by omega, by omega⟩, g3⟩
   have hd3' : G3 D3 = some (.lst ((((List.range (i + 1)).map fun p => (96 + k - w.getD p 0) * (Wd.pw k w (i - p)).length).map fun (n : Nat) => ((n : Nat) : Int)).map V.int)) := by
    rw [hd3, List.map_map, List.map_map]
    rfl
   refine ⟨D3, _, rfl, SqL.of hd3', ?_⟩
   rw [sum_cast, ← Wd.pw_len]
   refine ⟨D, _, _, rfl, rfl, s3 D _ d2, (by rw [List.length_map, List.length_range]; omega), ?_⟩
   refine ⟨fun b o e => ?_, ?_, _, rfl⟩
   ·rw [upd_ne (ne_of_none e hD)]
    exact s3 b o (s2 b o e)
   ·rw [upd_same, List.range_succ (n := i + 1), List.map_append]
    rfl
  ·rintro σ G ⟨s2, d2, v, rfl⟩
   have e : (((w.length : Nat) : Int) - 1).toNat + 1 = w.length := by omega
   rw [e] at d2
   exact ⟨_, rfl, q D G hD s2 d2⟩


noncomputable def spAbove : Sp := fun vs H Q _ => ∃ (w : List Nat) (k : Nat), vs = [T w, .int (k : Nat)] ∧ ((1 ≤ k ∧ k ≤ 6) ∧ (1 ≤ w.length ∧ w.length ≤ 24) ∧ Wd.Okk k w) ∧ ∀ H', Same H H' → Q (.int (((Wd.gl k w).length : Nat) : Int)) H'
theorem ok_count_above {f : Addr} {fd : FuncData} (F : Fun K "count_above" "count_above" s_count_above f fd) (tt : Txt K mg ad) (C_rests : Cal P w K mg base (CX1 P w) "rests" 1 ["greater"] spRests) : FnOk P w K mg base (CX1 P w) 2 f fd ["word", "kinds"] spAbove := by
 refine F.okN sc_count_above (fun vs H Q E h => ?_) (fun cdv A outer s H vs Q E hr h => ?_)
 ·obtain ⟨w, k, rfl, _⟩ := h
  rfl
 ·obtain ⟨w, k, rfl, ⟨hk, hw, ho⟩, q⟩ := h
  have hs : sizeLine = 16777216 := sizeLine_eq
  refine ⟨_, (pss_cons (ps_set (i := 2) sc_count_above.nd rfl (Or.inr rfl) (pe_comp cs_count_above_0 rfl (pi_str (pv 0)) (fun cl C s' H' fp => (pe_op op_sub (pe_op op_sub (pv 2) pe_int) (pe_bmK K rfl PySem.F.plainAttrs_str PySem.F.slot_str_index PySem.F.type_str_index mt_index6 (pe_glob (by rfl) tt.g_LETTERS tt.r_LETTERS) (pa_cN (pv 0) pa_nil))))))
   (pss_cons (ps_set (i := 3) sc_count_above.nd rfl (Or.inr rfl) (pe_cal C_rests hr pass1 (pa_cN (pv 2) pa_nil)))
   (pss_cons (ps_set (i := 4) sc_count_above.nd rfl (Or.inr rfl) (pe_op op_sub (pe_callB call_len_T (by rfl) tt.b_len PySem.boot_len (pa_cN (pv 0) pa_nil)) pe_int))
   (pss_one (ps_ret (pe_callB (call_sumX rfl) (by rfl) tt.b_sum PyProof.Rows.boot_sum (pa_cons (pe_comp cs_count_above_1 rfl (pi_range1 (by rfl) tt.b_range (pa_cK (pe_callB call_len_T (by rfl) tt.b_len PySem.boot_len (pa_cN (pv 0) pa_nil)) pa_nil)) (fun cl C s' H' fp => (pe_op op_mul (pe_op op_mul (pe_op op_add (pv 0) pe_int) (pe_ix (ix_list_K K rfl) (pv 3) (pv 0) (fun _ _ => rfl))) (pe_ix (ix_list_K K rfl) (pv 4) (pe_op op_sub (pv 5) (pv 0)) (fun _ _ => rfl))))) pa_nil))))))), ?_⟩
  (try rw [cxK2]); (try rw [cxK1])
  refine ⟨_, rfl, w, rfl, ?_⟩
  refine comp_text (l := w) (fun c => V.int ((96 + k - c : Nat) : Int)) (by omega) (fun i c H2 hc s2 N hN => ?_) fun D H2 hD s2 hd2 => ?_
  ·have hcb := ho c (List.mem_of_getElem? hc)
   have g := hN H2 (Same.refl _)
   rw [show ((96 + k - c : Nat) : Int) = ((k : Nat) : Int) - 1 - ((c - 97 : Nat) : Int) by omega] at g
   exact ⟨_, rfl, _, _, rfl, rfl, rfl, _, rfl, rfl, c, rfl, ⟨by omega, by omega⟩, _, _, rfl, rfl, g⟩
  have hd2' : H2 D = some (.lst ((List.range w.length).map (gV k w))) := by
   rw [hd2]
   refine congrArg (fun l => some (HO.lst l)) (List.ext_getElem? fun i => ?_)
   by_cases hi : i < w.length
   ·rw [range_at hi, List.getElem?_map, Wd.gD hi]
    rfl
   ·rw [List.getElem?_eq_none (by rw [List.length_map]; omega), List.getElem?_eq_none (by rw [List.length_map, List.length_range]; omega)]
  refine ⟨_, rfl, D, k, w, rfl, hd2', ⟨hk.2, hw.1, hw.2⟩, fun D3 H3 hD3 s3 hd3 => ?_⟩
  refine ⟨_, rfl, _, rfl, (by omega), _, _, rfl, rfl, ?_⟩
  refine ⟨_, rfl, _, rfl, (by omega), _, rfl, by omega, by omega, ?_⟩
  rw [Int.toNat_natCast]
  refine comp_range (lo := 0) (n := w.length) (fun p => .int (((p + 1) * (96 + k - w.getD p 0) * (Wd.pw k w (w.length - 1 - p)).length : Nat) : Int)) (by omega) (fun p H4 hp s4 N hN => ?_) fun D4 H4 hD4 s4 hd4 => ?_
  ·have e1 : atI ((List.range w.length).map (gV k w)) (0 + (p : Int)) = some (gV k w p) := by rw [Int.zero_add]; exact atI_nat (range_at (by omega))
   have e2 : atI ((List.range w.length).map (rV k w)) (((w.length : Nat) : Int) - 1 - (0 + (p : Int))) = some (rV k w (w.length - 1 - p)) := by
    rw [show ((w.length : Nat) : Int) - 1 - (0 + (p : Int)) = ((w.length - 1 - p : Nat) : Int) by omega]
    exact atI_nat (range_at (by omega))
   have g := hN H4 (Same.refl _)
   rw [Int.natCast_mul, Int.natCast_mul, show ((p + 1 : Nat) : Int) = 0 + (p : Int) + 1 by omega] at g
   have hx : (0 + (p : Int) + 1) * ((96 + k - w.getD p 0 : Nat) : Int) = (((p + 1) * (96 + k - w.getD p 0) : Nat) : Int) := by rw [Int.natCast_mul, show ((p + 1 : Nat) : Int) = 0 + (p : Int) + 1 by omega]
   have hb : (p + 1) * (96 + k - w.getD p 0) ≤ 24 * 102 := Nat.mul_le_mul (by omega) (by omega)
   refine ⟨_, rfl, _, _, rfl, rfl, _, rfl, _, rfl, D, _, _, _, rfl, rfl, SqL.of (s4 D _ (s3 D _ hd2')), e1, _, _, rfl, rfl, .inl ⟨by omega, by omega⟩, _, rfl, _, rfl, _, rfl, _, _, rfl, rfl, D3, _, _, _, rfl, rfl, SqL.of (s4 D3 _ hd3), e2, _, _, rfl, rfl, .inl ⟨?_, ?_⟩, g⟩
   ·rw [hx]; omega
   ·rw [hx]; omega
  have hd4' : H4 D4 = some (.lst ((((List.range w.length).map fun p => (p + 1) * (96 + k - w.getD p 0) * (Wd.pw k w (w.length - 1 - p)).length).map fun (n : Nat) => ((n : Nat) : Int)).map V.int)) := by
   rw [hd4, List.map_map, List.map_map]
   rfl
  refine ⟨D4, _, rfl, SqL.of hd4', ?_⟩
  rw [sum_cast, ← Wd.gl_len]
  exact q H4 (s2.trans (s3.trans s4))


noncomputable def spUpX (ad : Adr) : Sp := fun vs H Q E => ∃ (w : List Nat) (k : Int), vs = [T w, .int k] ∧ w.length ≤ 100000 ∧ (¬ (1 ≤ k ∧ k ≤ 6) → E (.ref ad.BadKinds) none H) ∧
 ∀ kn : Nat, k = (kn : Nat) → (1 ≤ kn ∧ kn ≤ 6) → (Good w kn → ∀ H', Same H H' → Q (.int ((Wd.upN kn w : Nat) : Int)) H') ∧ (¬ Good w kn → E (.ref ad.BadWord) none H)
theorem ok_up_to {f : Addr} {fd : FuncData} (F : Fun K "up_to" "up_to" s_up_to f fd) (tt : Txt K mg ad) (C_looked : Cal P w K mg base (CX1 P w) "looked" 3 ["word", "kinds"] (spLookedX ad)) (C_word_total : Cal P w K mg base (CX1 P w) "word_total" 1 ["length", "kinds"] spTotal)
  (C_count_above : Cal P w K mg base (CX1 P w) "count_above" 2 ["word", "kinds"] spAbove) (C_last_least : Cal P w K mg base (CX1 P w) "last_least" 4 ["word", "kinds"] (spLastX ad)) : FnOk P w K mg base (CX1 P w) 5 f fd ["word", "kinds"] (spUpX ad) := by
 refine F.okX sc_up_to (fun vs H Q E h => ?_) (fun cdv A outer s H vs Q E hr h => ?_)
 ·obtain ⟨w, k, rfl, _⟩ := h
  rfl
 ·obtain ⟨w, k, rfl, hw, x1, q⟩ := h
  have hs : sizeLine = 16777216 := sizeLine_eq
  refine ⟨_, (pss_cons (ps_expr (pe_cal C_looked hr passX (pa_cN (pv 0) (pa_cN (pv 1) pa_nil))))
   (pss_one (ps_ret (pe_op op_sub (pe_cal C_word_total hr pass1 (pa_cK (pe_callB call_len_T (by rfl) tt.b_len PySem.boot_len (pa_cN (pv 0) pa_nil)) (pa_cN (pv 1) pa_nil))) (pe_cal C_count_above hr pass1 (pa_cK (pe_cal C_last_least hr passX (pa_cN (pv 0) (pa_cN (pv 1) pa_nil))) (pa_cN (pv 1) pa_nil))))))), ?_⟩
  (try rw [cxK2]); (try rw [cxK1])
  refine ⟨_, rfl, _, rfl, w, k, rfl, hw, x1, fun kn ek hk => ?_⟩
  subst ek
  obtain ⟨q1, q2⟩ := q kn rfl hk
  refine ⟨fun hg => ?_, q2⟩
  have hwl := hg.1
  have hwo : Wd.Okk kn w := hg.2
  refine ⟨_, rfl, _, rfl, (by omega), _, rfl, w.length, kn, rfl, ⟨by omega, by omega⟩, ?_⟩
  refine ⟨_, rfl, _, rfl, w, _, rfl, hw, fun z => absurd ⟨by omega, by omega⟩ z, fun kn' ek hk' => ?_⟩
  obtain rfl : kn = kn' := by omega
  refine ⟨fun _ l hl => ?_, fun z => absurd hg z⟩
  have hll := hl.lw.len
  refine ⟨_, rfl, l, kn, rfl, ⟨hk, ⟨by omega, by omega⟩, hl.lw.ok⟩, fun H2 s2 => ⟨_, _, rfl, rfl, ?_⟩⟩
  have := Wd.up_len (by omega) (by omega) hl
  have g := q1 hg H2 s2
  rw [show ((Wd.upN kn w : Nat) : Int) = ((kn ^ w.length : Nat) : Int) - (((Wd.gl kn l).length : Nat) : Int) by omega] at g
  exact g


noncomputable def FirstOk (w : List Nat) (kn : Nat) : Prop := Good w kn ∧ Wd.Lst w
theorem FirstOk.lw {w : List Nat} {kn : Nat} (h : FirstOk w kn) : Wd.LW kn w.length w := ⟨rfl, h.1.2, h.2⟩
noncomputable def spLFirst (ad : Adr) : Sp := fun vs H Q E => ∃ (w : List Nat) (k : Int), vs = [T w, .int k] ∧ w.length ≤ 10000 ∧ (¬ (1 ≤ k ∧ k ≤ 6) → E (.ref ad.BadKinds) none H) ∧
 ∀ kn : Nat, k = (kn : Nat) → (1 ≤ kn ∧ kn ≤ 6) → (FirstOk w kn → Q .non H) ∧ (¬ FirstOk w kn → E (.ref ad.BadWord) none H)
theorem ok_looked_first {f : Addr} {fd : FuncData} (F : Fun K "looked_first" "looked_first" s_looked_first f fd) (tt : Txt K mg ad) (C_looked : Cal P w K mg base (CX1 P w) "looked" 3 ["word", "kinds"] (spLookedX ad)) (C_is_least : Cal P w K mg base (CX1 P w) "is_least" 3 ["word"] spIsLeast) : FnOk P w K mg base (CX1 P w) 4 f fd ["first", "kinds"] (spLFirst ad) := by
 refine F.okX sc_looked_first (fun vs H Q E h => ?_) (fun cdv A outer s H vs Q E hr h => ?_)
 ·obtain ⟨w, k, rfl, _⟩ := h
  rfl
 ·obtain ⟨w, k, rfl, hw, x1, q⟩ := h
  have hs : sizeLine = 16777216 := sizeLine_eq
  refine ⟨_, (pss_cons (ps_expr (pe_cal C_looked hr passX (pa_cN (pv 0) (pa_cN (pv 1) pa_nil))))
   (pss_one (ps_if (pt_not (pt_val (pe_cal C_is_least hr pass1 (pa_cN (pv 0) pa_nil)))) (pss_one (ps_raise (E := fun cls H' => E cls none H') tt.x_BadWord rfl (fun _ _ _ _ _ _ _ I hx q => raiseX I hx q) (pa_cC pe_str pa_nil))) pss_nil))), ?_⟩
  (try rw [cxK2]); (try rw [cxK1])
  refine ⟨_, rfl, _, rfl, w, k, rfl, (by omega), x1, fun kn ek hk => ?_⟩
  obtain ⟨q1, q2⟩ := q kn ek hk
  refine ⟨fun hg => ?_, fun hg => q2 fun z => hg z.1⟩
  refine ⟨_, rfl, w, rfl, hw, _, rfl, ?_⟩
  by_cases hl : Wd.Lst w
  ·rw [decide_eq_true (show w = Wd.least w from hl)]
   exact iteF (q1 ⟨hg, hl⟩)
  ·rw [decide_eq_false (show ¬ w = Wd.least w from hl)]
   exact iteT ⟨(by show 1 ≤ sizeLine; omega), q2 fun z => hl z.2⟩


noncomputable def spCB : Sp := fun vs H Q _ => ∃ (w : List Nat) (kn : Nat), vs = [T w, .int (kn : Nat)] ∧ ((1 ≤ kn ∧ kn ≤ 6) ∧ FirstOk w kn) ∧ ∀ H', Same H H' → Q (.int ((Wd.cb kn w : Nat) : Int)) H'
theorem ok_count_below {f : Addr} {fd : FuncData} (F : Fun K "count_below" "count_below" s_count_below f fd) (tt : Txt K mg ad) (C_up_to : Cal P w K mg base (CX1 P w) "up_to" 5 ["word", "kinds"] (spUpX ad)) (C_root : Cal P w K mg base (CX1 P w) "root" 2 ["word"] spRoot) : FnOk P w K mg base (CX1 P w) 6 f fd ["least", "kinds"] spCB := by
 refine F.okX sc_count_below (fun vs H Q E h => ?_) (fun cdv A outer s H vs Q E hr h => ?_)
 ·obtain ⟨w, kn, rfl, _⟩ := h
  rfl
 ·obtain ⟨w, kn, rfl, ⟨hk, hf⟩, q⟩ := h
  have hs : sizeLine = 16777216 := sizeLine_eq
  have hwl := hf.1.1
  refine ⟨_, (pss_one (ps_ret (pe_op op_sub (pe_cal C_up_to hr passX (pa_cN (pv 0) (pa_cN (pv 1) pa_nil))) (pe_callB call_len_T (by rfl) tt.b_len PySem.boot_len (pa_cK (pe_cal C_root hr pass1 (pa_cN (pv 0) pa_nil)) pa_nil))))), ?_⟩
  (try rw [cxK2]); (try rw [cxK1])
  refine ⟨_, rfl, _, rfl, w, _, rfl, (by omega), fun z => absurd (by omega) z, fun kn' ek hk' => ?_⟩
  obtain rfl : kn = kn' := by omega
  refine ⟨fun _ H1 s1 => ?_, fun z => absurd hf.1 z⟩
  refine ⟨_, rfl, w, rfl, ⟨by omega, by omega⟩, fun p hp => ?_⟩
  have hpl := hp.le
  have htl : (w.take p).length = p := by rw [List.length_take]; omega
  refine ⟨_, rfl, (by omega), _, _, rfl, rfl, ?_⟩
  have h1 := Wd.up_cb (show 0 < kn by omega) (by omega) hf.lw
  rw [Wd.rootL_eq hp] at h1
  have g := q H1 s1
  rw [show ((Wd.cb kn w : Nat) : Int) = ((Wd.upN kn w : Nat) : Int) - (((w.take p).length : Nat) : Int) by rw [htl]; omega] at g
  exact g


noncomputable def spRSize (ad : Adr) : Sp := fun vs H Q E => ∃ (w : List Nat) (k : Int), vs = [T w, .int k] ∧ w.length ≤ 10000 ∧ (¬ (1 ≤ k ∧ k ≤ 6) → E (.ref ad.BadKinds) none H) ∧
 ∀ kn : Nat, k = (kn : Nat) → (1 ≤ kn ∧ kn ≤ 6) → (FirstOk w kn → ∀ H', Same H H' → Q (.int (((Wd.ringF kn w).length : Nat) : Int)) H') ∧ (¬ FirstOk w kn → E (.ref ad.BadWord) none H)
theorem ok_ring_size {f : Addr} {fd : FuncData} (F : Fun K "ring_size" "ring_size" s_ring_size f fd) (tt : Txt K mg ad) (C_looked_first : Cal P w K mg base (CX1 P w) "looked_first" 4 ["first", "kinds"] (spLFirst ad)) (C_word_total : Cal P w K mg base (CX1 P w) "word_total" 1 ["length", "kinds"] spTotal) (C_count_below : Cal P w K mg base (CX1 P w) "count_below" 6 ["least", "kinds"] spCB) : FnOk P w K mg base (CX1 P w) 7 f fd ["first", "kinds"] (spRSize ad) := by
 refine F.okX sc_ring_size (fun vs H Q E h => ?_) (fun cdv A outer s H vs Q E hr h => ?_)
 ·obtain ⟨w, k, rfl, _⟩ := h
  rfl
 ·obtain ⟨w, k, rfl, hw, x1, q⟩ := h
  have hs : sizeLine = 16777216 := sizeLine_eq
  refine ⟨_, (pss_cons (ps_expr (pe_cal C_looked_first hr passX (pa_cN (pv 0) (pa_cN (pv 1) pa_nil))))
   (pss_one (ps_ret (pe_op op_sub (pe_cal C_word_total hr pass1 (pa_cK (pe_callB call_len_T (by rfl) tt.b_len PySem.boot_len (pa_cN (pv 0) pa_nil)) (pa_cN (pv 1) pa_nil))) (pe_cal C_count_below hr passX (pa_cN (pv 0) (pa_cN (pv 1) pa_nil))))))), ?_⟩
  (try rw [cxK2]); (try rw [cxK1])
  refine ⟨_, rfl, _, rfl, w, k, rfl, hw, x1, fun kn ek hk => ?_⟩
  subst ek
  obtain ⟨q1, q2⟩ := q kn rfl hk
  refine ⟨fun hf => ?_, q2⟩
  have hwl := hf.1.1
  refine ⟨_, rfl, _, rfl, (by omega), _, rfl, w.length, kn, rfl, ⟨by omega, by omega⟩, ?_⟩
  refine ⟨_, rfl, _, rfl, w, kn, rfl, ⟨hk, hf⟩, fun H1 s1 => ⟨_, _, rfl, rfl, ?_⟩⟩
  have h1 := (Wd.ringF_len (show 0 < kn by omega) (by omega) hf.lw).1
  have g := q1 hf H1 s1
  rw [show (((Wd.ringF kn w).length : Nat) : Int) = ((kn ^ w.length : Nat) : Int) - ((Wd.cb kn w : Nat) : Int) by omega] at g
  exact g


noncomputable def LastR (k : Nat) (f : List Nat) (p many : Nat) (t : List Nat) : Prop := t = [] ∨ ∃ (t0 : Nat) (u : List Nat), t.length = t0 + Wd.rootL u ∧ t0 < many ∧ (p + t0) % (Wd.ringF k f).length = Wd.cb k u - Wd.cb k f ∧ Wd.cb k u - Wd.cb k f + Wd.rootL u ≤ (Wd.ringF k f).length
noncomputable def spPut : Sp := fun vs H Q _ => ∃ (f l : List Nat) (kn many : Nat), vs = [T f, .int (kn : Nat), T l, .int (many : Nat)] ∧ ((1 ≤ kn ∧ kn ≤ 6) ∧ FirstOk f kn ∧ Wd.LW kn f.length l ∧ ¬ l < f ∧ many ≤ 100000) ∧
 ∀ (t : List Nat) H', many ≤ t.length → t.length ≤ many + 24 → t = Wd.ringAt (Wd.ringF kn f) t.length (Wd.cb kn l - Wd.cb kn f) → Wd.cb kn f ≤ Wd.cb kn l → LastR kn f (Wd.cb kn l - Wd.cb kn f) many t → Same H H' → Q (T t) H'
noncomputable def invPut (f l : List Nat) (kn many : Nat) (H : Hp) (m : Nat) (σ : St) (H2 : Hp) : Prop := ∃ (pre ls : List (List Nat)) (t u : List Nat) (v : Option V), Wd.LO kn f.length = pre ++ f :: ls ∧ m = many - t.length ∧ t.length ≤ many + 24 ∧ Wd.Walk (Wd.ringOf (f :: ls)) f kn (f :: ls) (Wd.cb kn l - Wd.cb kn f) t u ∧ LastR kn f (Wd.cb kn l - Wd.cb kn f) many t ∧ Same H H2 ∧ σ = [some (T f), some (.int (kn : Nat)), some (T l), some (.int (many : Nat)), some (T t), some (T u), v]
theorem ok_put_together {f : Addr} {fd : FuncData} (F : Fun K "put_together" "put_together" s_put_together f fd) (tt : Txt K mg ad) (C_root : Cal P w K mg base (CX1 P w) "root" 2 ["word"] spRoot) (C_next_least : Cal P w K mg base (CX1 P w) "next_least" 6 ["word", "kinds"] (spNextX ad)) : FnOk P w K mg base (CX1 P w) 7 f fd ["first", "kinds", "least", "many"] spPut := by
 refine F.okN sc_put_together (fun vs H Q E h => ?_) (fun cdv A outer s H vs Q E hr h => ?_)
 ·obtain ⟨f, l, kn, many, rfl, _⟩ := h
  rfl
 ·obtain ⟨f, l, kn, many, rfl, ⟨hk, hf, hl, hge, hmany⟩, q⟩ := h
  have hs : sizeLine = 16777216 := sizeLine_eq
  have hfl := hf.1.1
  have hk0 : 0 < kn := by omega
  have hn0 : 0 < f.length := by omega
  obtain ⟨pre, ls, he, hR⟩ := Wd.ringF_is hk0 hf.lw
  obtain ⟨a, b, hab⟩ := Wd.split_at hk0 he hl hge
  have hlen := Wd.ring_len hk0 hn0 a pre b l f (by rw [he, hab]) (by rw [← hab]; rfl)
  have hpos := Wd.ring_pos hk0 hn0 he
  have hlin : l ∈ f :: ls := by rw [hab]; simp
  refine ⟨_, (pss_cons (ps_set (i := 4) sc_put_together.nd rfl (Or.inl rfl) (pe_strT [] (by decide +kernel)))
   (pss_cons (ps_set (i := 5) sc_put_together.nd rfl (Or.inl rfl) (pv 2))
   (pss_cons (ps_while PassesOwn.never (pt_cmpR op_lt (pe_callB call_len_T (by rfl) tt.b_len PySem.boot_len (pa_cN (pv 4) pa_nil)) (pv 3) (nomark _)) (pss_cons (ps_set (i := 4) sc_put_together.nd rfl (Or.inl rfl) (pe_op op_add_T (pv 4) (pe_cal C_root hr pass1 (pa_cN (pv 5) pa_nil))))
   (pss_cons (ps_set (i := 6) sc_put_together.nd rfl (Or.inl rfl) (pe_cal C_next_least hr pass1 (pa_cN (pv 5) (pa_cN (pv 1) pa_nil))))
   (pss_one (ps_set (i := 5) sc_put_together.nd rfl (Or.inl rfl) (pe_ifExp (pt_cmp (pc_isN (pv 6))) (pv 0) (pv 6)))))))
   (pss_one (ps_ret (pv 4)))))), ?_⟩
  (try rw [cxK2]); (try rw [cxK1])
  refine ⟨_, rfl, ?_⟩
  refine ⟨invPut f l kn many H, ⟨_, pre, ls, [], l, none, he, rfl, by show 0 ≤ many + 24; omega, ⟨hlin, rfl, ?_, by omega⟩, .inl rfl, Same.refl _, rfl⟩, ?_⟩
  ·show (Wd.cb kn l - Wd.cb kn f + 0) % _ = _
   refine Nat.mod_eq_of_lt ?_
   have hlp := (Wd.rootL_is (w := l) (by rw [hl.len]; exact hn0)).pos
   rw [hab, Wd.ringOf_app, List.length_append, Wd.ringOf_cons, List.length_append, Wd.rootW_len (by rw [hl.len]; exact hn0)]
   omega
  rintro m σ H2 ⟨pre', ls', t, u, v, he', rfl, htl, hw, hlast, s2, rfl⟩
  have hls : f :: ls' = f :: ls := by
   have hnd := Wd.LO_nodup (k := kn) (n := f.length) hk0
   have hsp := he'.symm.trans he
   rw [he'] at hnd
   have h1 := (List.append_eq_append_iff.mp hsp)
   rcases h1 with ⟨a', e1, e2⟩ | ⟨a', e1, e2⟩
   ·cases a' with
    | nil => exact e2
    | cons x a' =>
     have hx : x = f := (List.cons.inj e2).1.symm
     have hm : f ∈ ls' := by rw [(List.cons.inj e2).2]; simp
     exact absurd hm (List.nodup_cons.mp (List.nodup_append.mp hnd).2.1).1
   ·cases a' with
    | nil => exact e2.symm
    | cons x a' =>
     have hx : x = f := (List.cons.inj e2).1.symm
     have hm : f ∈ pre' := by rw [e1, hx]; simp
     exact absurd rfl ((List.nodup_append.mp hnd).2.2 f hm f (by simp))
  rw [hls] at hw
  have hu : Wd.LW kn f.length u := (Wd.mem_LO hk0).mp (by rw [he]; exact List.mem_append_right _ hw.mem)
  have hul := hu.len
  refine ⟨_, rfl, _, rfl, (by omega), _, rfl, _, _, rfl, rfl, _, rfl, ?_⟩
  refine ite2 (fun h0 => ?_) (fun h0 => ?_)
  ·have hlt : t.length < many := by have := of_decide_eq_true h0; omega
   obtain ⟨w1, w2, w3⟩ := hw.step hk0 hn0 he
   refine ⟨fun σ' H' => ∃ m', m' < many - t.length ∧ invPut f l kn many H m' σ' H', fun σ' H' z => z, ?_⟩
   refine ⟨_, rfl, _, rfl, u, rfl, ⟨by omega, by omega⟩, fun p hp => ?_⟩
   have hpe := Wd.rootL_eq hp
   have htk : u.take p = Wd.rootW u := by rw [← hpe]; rfl
   have hpp := hp.pos
   have hple := hp.le
   rw [htk]
   have hrl := Wd.rootW_len (w := u) (by omega)
   refine ⟨_, rfl, _, rfl, (by rw [hrl]; omega), ?_⟩
   refine ⟨_, rfl, _, rfl, u, _, rfl, (by omega), fun z => absurd ⟨by omega, by omega⟩ z, fun kn' ek hk' => ?_⟩
   obtain rfl : kn = kn' := by omega
   have hgu : Good u kn := ⟨⟨by omega, by omega⟩, hu.ok⟩
   refine ⟨fun _ x H3 hx s3 => ?_, fun z => absurd hgu z⟩
   have hnew : LastR kn f (Wd.cb kn l - Wd.cb kn f) many (t ++ Wd.rootW u) := .inr ⟨t.length, u, by rw [List.length_append, hrl], hlt, by rw [hR]; exact hw.at_, by rw [hR]; exact w2⟩
   have hmes : many - (t ++ Wd.rootW u).length < many - t.length := by rw [List.length_append, hrl]; omega
   have hbd : (t ++ Wd.rootW u).length ≤ many + 24 := by rw [List.length_append, hrl]; omega
   refine ⟨_, rfl, _, rfl, ?_⟩
   rcases hx with ⟨rfl, hno⟩ | ⟨r, rfl, hr⟩
   ·refine itP (decide_eq_true rfl) ?_
    refine ⟨_, rfl, _, hmes, pre, ls, t ++ Wd.rootW u, f, _, he, rfl, hbd, hw.next hk0 hn0 he (.inr ⟨rfl, fun x hx => hno x (by rw [hul]; exact hx)⟩), hnew, s2.trans s3, rfl⟩
   ·refine itN (fun z => absurd (of_decide_eq_true z) (fun z => nomatch z)) ?_
    refine ⟨_, rfl, _, hmes, pre, ls, t ++ Wd.rootW u, r, _, he, rfl, hbd, hw.next hk0 hn0 he (.inl hr), hnew, s2.trans s3, rfl⟩
  ·have hge2 : many ≤ t.length := by
    have : ¬ ((t.length : Nat) : Int) < ((many : Nat) : Int) := fun z => h0 (decide_eq_true z)
    omega
   exact ⟨_, rfl, q t H2 hge2 htl (by rw [hR]; exact hw.rd) (by omega) hlast s2⟩


noncomputable def spWhole (ad : Adr) : Sp := fun vs H Q E => ∃ (w : List Nat) (k : Int), vs = [T w, .int k] ∧ w.length ≤ 10000 ∧ (¬ (1 ≤ k ∧ k ≤ 6) → E (.ref ad.BadKinds) none H) ∧
 ∀ kn : Nat, k = (kn : Nat) → (1 ≤ kn ∧ kn ≤ 6) → (¬ FirstOk w kn → E (.ref ad.BadWord) none H) ∧ (FirstOk w kn → (4096 < (Wd.ringF kn w).length → ∀ H', Same H H' → E (.ref ad.TooMany) none H') ∧ ((Wd.ringF kn w).length ≤ 4096 → ∀ H', Same H H' → Q (T (Wd.ringF kn w)) H'))
theorem ok_whole_ring {f : Addr} {fd : FuncData} (F : Fun K "whole_ring" "whole_ring" s_whole_ring f fd) (tt : Txt K mg ad) (C_ring_size : Cal P w K mg base (CX1 P w) "ring_size" 7 ["first", "kinds"] (spRSize ad)) (C_put_together : Cal P w K mg base (CX1 P w) "put_together" 7 ["first", "kinds", "least", "many"] spPut) : FnOk P w K mg base (CX1 P w) 8 f fd ["first", "kinds"] (spWhole ad) := by
 refine F.okX sc_whole_ring (fun vs H Q E h => ?_) (fun cdv A outer s H vs Q E hr h => ?_)
 ·obtain ⟨w, k, rfl, _⟩ := h
  rfl
 ·obtain ⟨w, k, rfl, hw, x1, q⟩ := h
  have hs : sizeLine = 16777216 := sizeLine_eq
  refine ⟨_, (pss_cons (ps_set (i := 2) sc_whole_ring.nd rfl (Or.inl rfl) (pe_cal C_ring_size hr passX (pa_cN (pv 0) (pa_cN (pv 1) pa_nil))))
   (pss_cons (ps_if (pt_cmpR op_gt (pv 2) (pe_glob (by rfl) tt.g_MOST_WORDS tt.r_MOST_WORDS) (nomark _)) (pss_one (ps_raise (E := fun cls H' => E cls none H') tt.x_TooMany rfl (fun _ _ _ _ _ _ _ I hx q => raiseX I hx q) (pa_cC pe_str pa_nil))) pss_nil)
   (pss_one (ps_ret (pe_cal C_put_together hr pass1 (pa_cN (pv 0) (pa_cN (pv 1) (pa_cN (pv 0) (pa_cN (pv 2) pa_nil))))))))), ?_⟩
  (try rw [cxK2]); (try rw [cxK1])
  refine ⟨_, rfl, _, rfl, w, k, rfl, hw, x1, fun kn ek hk => ?_⟩
  subst ek
  obtain ⟨q1, q2⟩ := q kn rfl hk
  refine ⟨fun hf H1 s1 => ?_, q1⟩
  obtain ⟨q3, q4⟩ := q2 hf
  have hwl := hf.1.1
  obtain ⟨_, hR0⟩ := Wd.ringF_len (show 0 < kn by omega) (by omega) hf.lw
  refine ⟨_, rfl, _, _, rfl, rfl, _, rfl, ?_⟩
  refine ite2 (fun h0 => ⟨(by show 1 ≤ sizeLine; omega), q3 (by have := of_decide_eq_true h0; omega) H1 s1⟩) (fun h0 => ?_)
  have h0 : (Wd.ringF kn w).length ≤ 4096 := by
   have : ¬ (4096 : Int) < (((Wd.ringF kn w).length : Nat) : Int) := fun z => h0 (decide_eq_true z)
   omega
  refine ⟨_, rfl, _, rfl, _, rfl, _, rfl, w, w, kn, (Wd.ringF kn w).length, rfl, ⟨hk, hf, hf.lw, Wd.ltir _, by omega⟩, fun t H2 t1 t2 t3 _ t5 s2 => ?_⟩
  have htl : t.length = (Wd.ringF kn w).length := by
   rcases t5 with rfl | ⟨t0, u, e1, e2, e3, e4⟩
   ·rw [List.length_nil] at t1; omega
   ·rw [Nat.sub_self, Nat.zero_add, Nat.mod_eq_of_lt e2] at e3
    omega
  rw [Nat.sub_self, htl, Wd.ringAt_all hR0] at t3
  rw [t3]
  exact q4 h0 H2 (s1.trans s2)


theorem abc_range {k : Nat} (h : k ≤ 6) : ([97, 98, 99, 100, 101, 102] : List Nat).take k = (List.range k).map (97 + ·) := by
 have key : ∀ k : Nat, k < 7 → ([97, 98, 99, 100, 101, 102] : List Nat).take k = (List.range k).map (97 + ·) := by decide
 exact key k (by omega)
theorem fm_len {k : Nat} (l : List (List Nat)) : (l.flatMap fun w => (List.range k).map fun c => w ++ [97 + c]).length = l.length * k := by
 induction l with
 | nil => simp
 | cons a l ih => rw [List.flatMap_cons, List.length_append, ih, List.length_map, List.length_range, List.length_cons, Nat.add_mul]; omega
noncomputable def spAllL : Sp := fun vs H Q _ => ∃ kn nn : Nat, vs = [.int (kn : Nat), .int (nn : Nat)] ∧ ((1 ≤ kn ∧ kn ≤ 6) ∧ nn ≤ 24 ∧ kn ^ nn ≤ 4096) ∧ ∀ D H', H D = none → Same H H' → H' D = some (.lst ((Wd.allW kn nn).map T)) → Q (.ref D) H'
theorem ok__law_all {f : Addr} {fd : FuncData} (F : Fun K "_law_all" "_law_all" s__law_all f fd) (tt : Txt K mg ad) : FnOk P w K mg base (CX1 P w) 1 f fd ["kinds", "length"] spAllL := by
 refine F.okN sc__law_all (fun vs H Q E h => ?_) (fun cdv A outer s H vs Q E hr h => ?_)
 ·obtain ⟨kn, nn, rfl, _⟩ := h
  rfl
 ·obtain ⟨k, n, rfl, ⟨hk, hn, hpw⟩, q⟩ := h
  have hs : sizeLine = 16777216 := sizeLine_eq
  refine ⟨_, (pss_cons (ps_set (i := 2) sc__law_all.nd rfl (Or.inl rfl) (pe_lst (pa_cC (pe_strT [] (by decide +kernel)) pa_nil)))
   (pss_cons (ps_for PassesOwn.never rfl (pi_range1 (by rfl) tt.b_range (pa_cN (pv 1) pa_nil)) (pg_name (i := 3) sc__law_all.nd rfl (Or.inl rfl)) (pss_cons (ps_set (i := 4) sc__law_all.nd rfl (Or.inl rfl) (pe_lst pa_nil))
   (pss_cons (ps_for PassesOwn.never rfl (pi_list (pv 2)) (pg_name (i := 5) sc__law_all.nd rfl (Or.inr rfl)) (pss_one (ps_set (i := 4) sc__law_all.nd rfl (Or.inl rfl) (pe_op op_catL (pv 4) (pe_comp cs__law_all_0 rfl (pi_str (pe_slice sl_T (pe_strT [97, 98, 99, 100, 101, 102] (by decide +kernel)) po_none (po_some (pv 0)))) (fun cl C s' H' fp => (pe_op op_add_T (pv 6) (pv 0))))))))
   (pss_one (ps_set (i := 2) sc__law_all.nd rfl (Or.inl rfl) (pv 4))))))
   (pss_one (ps_ret (pv 2))))), ?_⟩
  (try rw [cxK2]); (try rw [cxK1])
  refine ⟨(by show 1 ≤ sizeLine; omega), fun p hp => ?_⟩
  refine ⟨_, rfl, _, rfl, by omega, by omega, ?_⟩
  rw [Int.toNat_natCast]
  refine for_range (fun i σ H2 => Same H H2 ∧ ∃ (D : Addr) (v1 v2 v3 : Option V), H D = none ∧ H2 D = some (.lst ((Wd.allW k i).map T)) ∧ σ = [some (.int (k : Nat)), some (.int (n : Nat)), some (.ref D), v1, v2, v3])
   ⟨(fun b o e => by rw [upd_ne (ne_of_none e hp)]; exact e), p, none, none, none, hp, upd_same, rfl⟩ ?_ ?_
  ·rintro i σ H2 hi ⟨s2, D, v1, v2, v3, hD, hd, rfl⟩
   have hpi : k ^ i * k ≤ 4096 := by
    rw [← Nat.pow_succ]
    exact Nat.le_trans (Nat.pow_le_pow_right (by omega) (by omega)) hpw
   refine ⟨(by show 0 ≤ sizeLine; omega), fun p2 hp2 => ?_⟩
   have sA : Same H2 (upd H2 p2 (.lst [])) := fun b o e => by rw [upd_ne (ne_of_none e hp2)]; exact e
   refine ⟨_, rfl, D, rfl, ⟨_, SqL.of (sA D _ hd)⟩, ?_⟩
   refine for_list (K := K) (a := D) (xs := (Wd.allW k i).map T) (fun j σ H3 => Same H2 H3 ∧ ∃ (L : Addr) (v3 : Option V), H2 L = none ∧ H3 L = some (.lst ((((Wd.allW k i).take j).flatMap fun w => (List.range k).map fun c => w ++ [97 + c]).map T)) ∧ σ = [some (.int (k : Nat)), some (.int (n : Nat)), some (.ref D), some (.int (0 + (i : Int))), some (.ref L), v3])
    ⟨sA, p2, _, hp2, upd_same, rfl⟩ (fun j σ H3 _ ⟨s3, _⟩ => SqL.of (s3 D _ hd)) ?_ ?_
   ·rintro j y σ H3 hj ⟨s3, L, v3, hL, hLd, rfl⟩
    have hjl : j < (Wd.allW k i).length := by
     have := (List.getElem?_eq_some_iff.mp hj).1
     rw [List.length_map] at this
     exact this
    have hjx : (Wd.allW k i)[j]? = some (Wd.allW k i)[j] := List.getElem?_eq_getElem hjl
    obtain rfl : y = T (Wd.allW k i)[j] := by
     rw [List.getElem?_map, hjx] at hj
     exact (Option.some.inj hj).symm
    have hwl : ((Wd.allW k i)[j]).length = i := ((Wd.mem_allW (by omega)).mp (List.getElem_mem hjl)).1
    generalize (Wd.allW k i)[j] = wd at hjx hwl hj
    rw [Wd.allW_len] at hjl
    refine ⟨_, rfl, _, rfl, _, rfl, _, rfl, (by show 6 ≤ sizeLine; omega), _, rfl, ?_⟩
    rw [cutL_take]
    refine comp_text (fun c => T (wd ++ [c])) (by rw [List.length_take]; omega) (fun m c H4 hc s4 N hN => ?_) fun D4 H4 hD4 s4 hd4 => ?_
    ·exact ⟨_, rfl, _, rfl, _, rfl, _, rfl, (by show wd.length + 1 ≤ sizeLine; omega), hN H4 (Same.refl _)⟩
    ·have ec : ((([97, 98, 99, 100, 101, 102] : List Nat).take k).map fun c => T (wd ++ [c])) = ((List.range k).map fun c => wd ++ [97 + c]).map T := by
      rw [abc_range hk.2, List.map_map, List.map_map]
      rfl
     rw [ec] at hd4
     refine ⟨L, D4, _, _, rfl, rfl, SqL.of (s4 L _ hLd), SqL.of hd4, ?_, fun p5 hp5 => ?_⟩
     ·rw [List.length_map, List.length_map, List.length_map, List.length_range, fm_len, List.length_take, Wd.allW_len]
      have : min j (k ^ i) * k ≤ k ^ i * k := Nat.mul_le_mul_right _ (Nat.min_le_right _ _)
      omega
     ·have s5 : Same H4 (upd H4 p5 (.lst ((((Wd.allW k i).take j).flatMap fun w => (List.range k).map fun c => w ++ [97 + c]).map T ++ ((List.range k).map fun c => wd ++ [97 + c]).map T))) := fun b o e => by rw [upd_ne (ne_of_none e hp5)]; exact e
      refine ⟨(s3.trans s4).trans s5, p5, _, ?_, ?_, rfl⟩
      ·cases hq : H2 p5 with
       | none => rfl
       | some o => have := s4 _ _ (s3 _ _ hq); rw [hp5] at this; cases this
      ·rw [List.take_add_one, hjx, List.flatMap_append, List.map_append]
       refine upd_same.trans ?_
       simp
   ·rintro σ H3 ⟨s3, L, v3, hL, hLd, rfl⟩
    rw [List.length_map, List.take_length, ← Wd.allW_succ k i (by omega)] at hLd
    refine ⟨_, rfl, s2.trans s3, L, _, _, _, ?_, hLd, rfl⟩
    cases hq : H L with
    | none => rfl
    | some o => have := s2 _ _ hq; rw [hL] at this; cases this
  ·rintro σ H2 ⟨s2, D, v1, v2, v3, hD, hd, rfl⟩
   exact ⟨_, rfl, q D H2 hD s2 hd⟩


noncomputable def spFirstL (K : PySem.W.Frag) : Sp := fun vs H Q _ => ∃ (c : Int) (D : Addr) (k n : Nat), vs = [.int c, .ref D] ∧ H D = some (.lst ((Wd.allW k n).map T)) ∧ ((1 ≤ k ∧ k ≤ 6) ∧ (1 ≤ n ∧ n ≤ 24) ∧ k ^ n ≤ 4096) ∧ ∀ (f : List Nat) H', Wd.LW k n f → Same H H' → Q (T f) H'
theorem ok__law_first {f : Addr} {fd : FuncData} (F : Fun K "_law_first" "_law_first" s__law_first f fd) (tt : Txt K mg ad) (C__law_least : Cal P w K mg base (CX1 P w) "_law_least" 1 ["word"] spLeast) (C__law_mixed : Cal P w K mg base (CX1 P w) "_law_mixed" 1 ["cell", "k"] spMixed) : FnOk P w K mg base (CX1 P w) 2 f fd ["cell", "words"] (spFirstL K) := by
 refine F.okN sc__law_first (fun vs H Q E h => ?_) (fun cdv A outer s H vs Q E hr h => ?_)
 ·obtain ⟨c, D, k, n, rfl, _⟩ := h
  rfl
 ·obtain ⟨c, D2, k, n, rfl, hd2, ⟨hk, hn, hpw⟩, q⟩ := h
  have hs : sizeLine = 16777216 := sizeLine_eq
  have hk0 : 0 < k := by omega
  refine ⟨_, (pss_cons (ps_setCompf (i := 2) cs__law_first_0 rfl (pi_list (pv 1)) (fun cl C s' H' fp => (pt_cmpR op_eq_T (pe_cal C__law_least hr pass1 (pa_cN (pv 0) pa_nil)) (pv 0) (nomark _))) (fun cl C s' H' fp => (pv 0)) sc__law_first.nd rfl rfl)
   (pss_cons (ps_if (pt_cmpR op_eq_I (pe_op op_mod (pe_cal C__law_mixed hr pass1 (pa_cN (pv 0) (pa_cC pe_int pa_nil))) pe_int) pe_int (nomark _)) (pss_one (ps_ret (pe_ix ix_list (pv 2) pe_int (fun _ _ => rfl)))) pss_nil)
   (pss_one (ps_ret (pe_ix ix_list (pv 2) (pe_op op_mod (pe_cal C__law_mixed hr pass1 (pa_cN (pv 0) (pa_cC pe_int pa_nil))) (pe_callB call_len_seq (by rfl) tt.b_len PySem.boot_len (pa_cN (pv 2) pa_nil))) (fun _ _ => rfl)))))), ?_⟩
  (try rw [cxK2]); (try rw [cxK1])
  refine ⟨_, rfl, D2, rfl, ⟨_, SqL.of hd2⟩, ?_⟩
  refine compf_texts (fun w => decide (Wd.least w = w)) (SqL.of hd2) (by rw [Wd.allW_len]; omega) (fun i l H' hi s' N hN => ?_) (fun x H' N hN => ⟨_, rfl, hN⟩) fun D4 H5 hD4 s5 hd4 => ?_
  ·have hl := ((Wd.mem_allW hk0).mp (List.mem_of_getElem? hi)).1
   exact ⟨_, rfl, l, rfl, by omega, _, rfl, _, rfl, _, rfl, _, rfl, hN H' (Same.refl _)⟩
  have hd4 : H5 D4 = some (.lst ((Wd.LO k n).map T)) := hd4
  have hLp := Wd.LO_pos (k := k) (n := n) hk0
  refine ⟨_, rfl, _, _, rfl, ⟨by decide, by decide⟩, _, _, rfl, rfl, (by show (0 : Int) < 2; decide), _, rfl, _, rfl, _, rfl, ?_⟩
  refine ite2 (fun h0 => ?_) (fun h0 => ?_)
  ·have e0 : (Wd.LO k n)[0]? = some (Wd.LO k n)[0] := List.getElem?_eq_getElem hLp
   exact ⟨_, rfl, D4, _, _, _, rfl, rfl, SqL.of hd4, atI_nat (j := 0) (by rw [List.getElem?_map, e0]; rfl), q _ H5 ((Wd.mem_LO hk0).mp (List.getElem_mem hLp)) s5⟩
  ·obtain ⟨j, hj, hjl⟩ : ∃ j : Nat, mixedZ c 13 % ((((Wd.LO k n).map T).length : Nat) : Int) = ((j : Nat) : Int) ∧ j < (Wd.LO k n).length := by
    rw [List.length_map]
    have g0 := Int.emod_nonneg (mixedZ c 13) (show (((Wd.LO k n).length : Nat) : Int) ≠ 0 by omega)
    have g1 := Int.emod_lt_of_pos (mixedZ c 13) (show (0 : Int) < (((Wd.LO k n).length : Nat) : Int) by omega)
    exact ⟨(mixedZ c 13 % (((Wd.LO k n).length : Nat) : Int)).toNat, by omega, by omega⟩
   have ej : (Wd.LO k n)[j]? = some (Wd.LO k n)[j] := List.getElem?_eq_getElem hjl
   exact ⟨_, rfl, _, rfl, _, _, rfl, ⟨by decide, by decide⟩, _, rfl, D4, _, rfl, .inl (SqL.of hd4), _, _, rfl, rfl, (by rw [List.length_map]; omega), D4, _, _, _, rfl, rfl, SqL.of hd4, (by rw [hj]; exact atI_nat (by rw [List.getElem?_map, ej]; rfl)), q _ H5 ((Wd.mem_LO hk0).mp (List.getElem_mem hjl)) s5⟩


noncomputable def FewN (k : Nat) (ls : List (List Nat)) : Prop := ∃ ps : List (List Nat), ps.length ≤ k ∧ ∀ w ∈ ls, w.take (w.length - 1) ∈ ps ∧ w.drop 1 ∈ ps
noncomputable def Few (ls : List (List Nat)) : Prop := FewN 61 ls
theorem uniq_len {ls : List (List Nat)} (h : ls.Nodup) : (uniq ls).length = ls.length := ((List.perm_ext_iff_of_nodup (uniq_nodup ls) h).mpr fun x => uniq_mem ls x).length_eq
theorem sq_put {H : Hp} {p x C dx : Addr} {fs : List (Str × V)} {xs : List V} {o : HO} (h : SqL K H p xs) (hx : H x = some (.ins C dx fs)) : SqL K (upd H x o) p xs := by
 rcases h with (h | ⟨q, h⟩) | h
 ·exact .inl (.inl (by rw [upd_ne (fun z => by subst z; rw [hx] at h; cases h)]; exact h))
 ·exact .inl (.inr ⟨q, by rw [upd_ne (fun z => by subst z; rw [hx] at h; cases h)]; exact h⟩)
 ·exact .inr h
noncomputable def WebOk (ls : List (List Nat)) (n : Nat) : Prop := ls ≠ [] ∧ ls.length ≤ 64 ∧ ((1 ≤ n ∧ n ≤ 8) ∧ Few ls) ∧ (∀ x ∈ ls, x.length = n ∧ ∀ c ∈ x, 97 ≤ c ∧ c < 103) ∧ ls.Nodup
noncomputable def spWebL (K : PySem.W.Frag) : Sp := fun vs H Q _ => ∃ (p : Addr) (ls : List (List Nat)) (n : Nat), vs = [.ref p] ∧ SqL K H p (ls.map T) ∧ WebOk ls n ∧ ∀ H', Same H H' → Q .non H'
theorem ok_looked_web {f : Addr} {fd : FuncData} (F : Fun K "looked_web" "looked_web" s_looked_web f fd) (tt : Txt K mg ad) (C_looked : Cal P w K mg base (CX1 P w) "looked" 3 ["word", "kinds"] (spLookedX ad)) :
  FnOk P w K mg base (CX1 P w) 4 f fd ["words"] (spWebL K) := by
 refine F.okX sc_looked_web (fun vs H Q E h => ?_) (fun cdv A outer s H vs Q E hr h => ?_)
 ·obtain ⟨p, ls, n, rfl, _⟩ := h
  rfl
 ·obtain ⟨p, ls, n, rfl, hS, ⟨hne, h64, hn, hx, hnd⟩, q⟩ := h
  have hs : sizeLine = 16777216 := sizeLine_eq
  have hl0 : 0 < ls.length := List.length_pos_iff.mpr hne
  obtain ⟨x0, hx0⟩ : ∃ x0, ls[0]? = some x0 := ⟨_, List.getElem?_eq_getElem hl0⟩
  have hx0l := (hx x0 (List.mem_of_getElem? hx0)).1
  refine ⟨_, (pss_cons (ps_if (pt_cmpR op_gt (pe_callB call_len_seq (by rfl) tt.b_len PySem.boot_len (pa_cons (pv 0) pa_nil)) (pe_glob (by rfl) tt.g_MOST_OF_A_WEB tt.r_MOST_OF_A_WEB) (nomark _)) (pss_one (ps_raise (E := fun cls H' => E cls none H') tt.x_TooMany rfl (fun _ _ _ _ _ _ _ I hx q => raiseX I hx q) (pa_cons pe_str pa_nil))) pss_nil)
   (pss_cons (ps_if (pt_cmpR op_eq_I (pe_callB call_len_seq (by rfl) tt.b_len PySem.boot_len (pa_cons (pv 0) pa_nil)) pe_int (nomark _)) (pss_one (ps_raise (E := fun cls H' => E cls none H') tt.x_BadWord rfl (fun _ _ _ _ _ _ _ I hx q => raiseX I hx q) (pa_cons pe_str pa_nil))) pss_nil)
   (pss_cons (ps_for PassesOwn.leaving rfl (pi_list (pv 0)) (pg_name (i := 1) sc_looked_web.nd rfl (Or.inl rfl)) (pss_cons (ps_expr (pe_cal C_looked hr passX (pa_cons (pv 1) (pa_cons (pe_callB call_len_T (by rfl) tt.b_len PySem.boot_len (pa_cons (pe_glob (by rfl) tt.g_LETTERS tt.r_LETTERS) pa_nil)) pa_nil))))
   (pss_cons (ps_if (pt_cmpR op_gt (pe_callB call_len_T (by rfl) tt.b_len PySem.boot_len (pa_cons (pv 1) pa_nil)) (pe_glob (by rfl) tt.g_LONGEST_OF_A_WEB tt.r_LONGEST_OF_A_WEB) (nomark _)) (pss_one (ps_raise (E := fun cls H' => E cls none H') tt.x_BadWord rfl (fun _ _ _ _ _ _ _ I hx q => raiseX I hx q) (pa_cons pe_str pa_nil))) pss_nil)
   (pss_one (ps_if (pt_cmpR op_ne_I (pe_callB call_len_T (by rfl) tt.b_len PySem.boot_len (pa_cons (pv 1) pa_nil)) (pe_callB call_len_T (by rfl) tt.b_len PySem.boot_len (pa_cons (pe_ix ix_list (pv 0) pe_int (fun _ _ => rfl)) pa_nil)) (nomark _)) (pss_one (ps_raise (E := fun cls H' => E cls none H') tt.x_BadWord rfl (fun _ _ _ _ _ _ _ I hx q => raiseX I hx q) (pa_cons pe_str pa_nil))) pss_nil)))))
   (pss_one (ps_if (pt_cmpR op_ne_I (pe_callB call_lenS (by rfl) tt.b_len PySem.boot_len (pa_cons (pe_callTy (call_setT rfl) (by rfl) tt.b_set (by decide +kernel) (pa_cons (pv 0) pa_nil)) pa_nil)) (pe_callB call_len_seq (by rfl) tt.b_len PySem.boot_len (pa_cons (pv 0) pa_nil)) (nomark _)) (pss_one (ps_raise (E := fun cls H' => E cls none H') tt.x_BadWord rfl (fun _ _ _ _ _ _ _ I hx q => raiseX I hx q) (pa_cons pe_str pa_nil))) pss_nil))))), ?_⟩
  (try rw [cxK2]); (try rw [cxK1])
  refine ⟨_, rfl, p, _, rfl, .inl hS, _, _, rfl, rfl, _, rfl, ?_⟩
  rw [List.length_map]
  refine ite2 (fun h0 => absurd (of_decide_eq_true h0) (by omega)) (fun _ => ?_)
  refine ⟨_, rfl, p, _, rfl, .inl hS, _, rfl, _, rfl, _, rfl, ?_⟩
  rw [List.length_map]
  refine ite2 (fun h0 => absurd (of_decide_eq_true h0) (by omega)) (fun _ => ?_)
  refine ⟨_, rfl, p, rfl, ⟨_, hS⟩, ?_⟩
  refine for_list (K := K) (a := p) (xs := ls.map T) (fun i σ H2 => H2 = H ∧ ∃ v, σ = [some (.ref p), v]) ⟨rfl, none, rfl⟩ (fun i σ H2 _ h => by rw [h.1]; exact hS) ?_ ?_
  ·rintro i y σ H2 hi ⟨rfl, v, rfl⟩
   obtain ⟨x, hxi, rfl⟩ : ∃ x, ls[i]? = some x ∧ y = T x := by
    rw [List.getElem?_map] at hi
    obtain ⟨x, h1, h2⟩ := Option.map_eq_some_iff.mp hi
    exact ⟨x, h1, h2.symm⟩
   obtain ⟨hxl, hxc⟩ := hx x (List.mem_of_getElem? hxi)
   have hg : ∀ kn : Nat, (6 : Int) = (kn : Nat) → Good x kn := fun kn e => ⟨⟨by omega, by omega⟩, fun c hc => by have := hxc c hc; omega⟩
   refine ⟨_, rfl, _, rfl, (by show 6 ≤ sizeLine; omega), x, 6, rfl, (by omega), fun z => absurd ⟨by decide, by decide⟩ z, fun kn ek hk => ⟨fun _ => ?_, fun z => absurd (hg kn ek) z⟩⟩
   refine ⟨_, rfl, _, rfl, (by omega), _, _, rfl, rfl, _, rfl, ?_⟩
   refine ite2 (fun h0 => absurd (of_decide_eq_true h0) (by omega)) (fun _ => ?_)
   refine ⟨_, rfl, _, rfl, (by omega), _, rfl, p, _, _, _, rfl, rfl, hS, atI_nat (j := 0) (by rw [List.getElem?_map, hx0]; rfl), _, rfl, (by omega), _, rfl, _, rfl, _, rfl, ?_⟩
   refine iteNS (by rw [hxl, hx0l]) ?_
   exact ⟨rfl, _, rfl⟩
  ·rintro σ H2 ⟨rfl, v, rfl⟩
   refine ⟨_, rfl, p, ls, rfl, hS, (by omega), fun D hD => ?_⟩
   have sD : Same H2 (upd H2 D (SetT P w D (uniq ls))) := fun b o e => by rw [upd_ne (ne_of_none e hD)]; exact e
   refine ⟨D, _, rfl, upd_same, _, rfl, p, _, rfl, .inl (sD.seq hS), _, rfl, _, rfl, _, rfl, ?_⟩
   refine iteNS (by rw [List.length_map, uniq_len hnd]) ?_
   exact q _ sD
noncomputable def flds (tp : Addr) (n : Int) : List (Str × V) := putF "length" (.int n) (putF "words" (.ref tp) [])
theorem flds_w (tp : Addr) (n : Int) : (flds tp n).lookup ("words" : Str) = some (.ref tp) := by
 unfold flds
 rw [lookup_putF, if_neg (by decide +kernel), lookup_putF, if_pos rfl]
noncomputable def spWebI (K : PySem.W.Frag) (C : Addr) : Sp := fun vs H Q _ => ∃ (x dx p : Addr) (ls : List (List Nat)) (n : Nat), vs = [.ref x, .ref p] ∧ H x = some (.ins C dx []) ∧ SqL K H p (ls.map T) ∧ WebOk ls n ∧ ls.Pairwise (fun a b => ¬ b < a) ∧
 ∀ (tp : Addr) (ms : List (List Nat)) (H' : Hp), ms.Perm ls → ms.Pairwise (fun a b => ¬ b < a) → (∀ b o, H b = some o → b ≠ x → H' b = some o) → H' x = some (.ins C dx (flds tp (n : Nat))) → H' tp = some (.tup (ms.map T)) → Q .non H'
theorem ok_Web_init {f : Addr} {fd : FuncData} (F : Fun K "__init__" "Web.__init__" s_Web_init f fd) (tt : Txt K mg ad) (C_looked_web : Cal P w K mg base (CX1 P w) "looked_web" 4 ["words"] (spWebL K)) :
  FnOk P w K mg base (CX1 P w) 5 f fd ["self", "words"] (spWebI K ad.Web) := by
 refine F.okX sc_Web_init (fun vs H Q E h => ?_) (fun cdv A outer s H vs Q E hr h => ?_)
 ·obtain ⟨x, dx, p, ls, n, rfl, _⟩ := h
  rfl
 ·obtain ⟨x, dx, p, ls, n, rfl, hx, hS, hok, hasc, q⟩ := h
  have hs : sizeLine = 16777216 := sizeLine_eq
  obtain ⟨hne, h64, hn, hxs, hnd⟩ := id hok
  have hl0 : 0 < ls.length := List.length_pos_iff.mpr hne
  obtain ⟨x0, hx0⟩ : ∃ x0, ls[0]? = some x0 := ⟨_, List.getElem?_eq_getElem hl0⟩
  have hx0l := (hxs x0 (List.mem_of_getElem? hx0)).1
  refine ⟨_, (pss_cons (ps_expr (pe_cal C_looked_web hr passX (pa_cons (pv 1) pa_nil)))
   (pss_cons (ps_fld (pv 0) (pe_callTy call_tuple_of (by rfl) tt.b_tuple (by decide +kernel) (pa_cons (pe_callB call_sortedU (by rfl) tt.b_sorted PyProof.Rows.boot_sorted (pa_cons (pv 1) pa_nil)) pa_nil)) rfl)
   (pss_one (ps_fld (pv 0) (pe_callB call_len_T (by rfl) tt.b_len PySem.boot_len (pa_cons (pe_ix ix_list (pv 1) pe_int (fun _ _ => rfl)) pa_nil)) rfl)))), ?_⟩
  (try rw [cxK2]); (try rw [cxK1])
  refine ⟨_, rfl, p, ls, n, rfl, hS, hok, fun H1 s1 => ?_⟩
  refine ⟨_, rfl, p, ls, rfl, s1.seq hS, hasc, fun ms D hD hperm hpw => ?_⟩
  have s2 : Same H1 (upd H1 D (.lst (ms.map T))) := fun b o e => by rw [upd_ne (ne_of_none e hD)]; exact e
  refine ⟨D, _, rfl, .inl ⟨SqL.of upd_same, fun tp htp => ?_⟩⟩
  have s3 : Same (upd H1 D (.lst (ms.map T))) (upd (upd H1 D (.lst (ms.map T))) tp (.tup (ms.map T))) := fun b o e => by rw [upd_ne (ne_of_none e htp)]; exact e
  generalize hH3 : upd (upd H1 D (.lst (ms.map T))) tp (.tup (ms.map T)) = H3 at s3
  have htp3 : H3 tp = some (.tup (ms.map T)) := by rw [← hH3]; exact upd_same
  have s13 : Same H H3 := s1.trans (s2.trans s3)
  have hx3 := s13 x _ hx
  have hxt : tp ≠ x := fun z => by subst z; rw [htp3] at hx3; cases hx3
  refine ⟨_, rfl, x, ad.Web, dx, [], rfl, hx3, tt.cl_Web, tt.na_Web_words, (by show 0 < 1000; decide), ?_⟩
  have hS4 : SqL K (upd H3 x (.ins ad.Web dx (putF "words" (.ref tp) []))) p (ls.map T) := sq_put (s13.seq hS) hx3
  refine ⟨_, rfl, p, _, _, _, rfl, rfl, hS4, atI_nat (j := 0) (by rw [List.getElem?_map, hx0]; rfl), _, rfl, (by omega), _, rfl, x, ad.Web, dx, _, rfl, upd_same, tt.cl_Web, tt.na_Web_length, (by show 1 < 1000; decide), ?_⟩
  refine q tp ms _ hperm hpw (fun b o e hb => ?_) ?_ ?_
  ·rw [upd_ne hb, upd_ne hb]
   exact s13 b o e
  ·rw [upd_same, hx0l]
   rfl
  ·rw [upd_ne hxt, upd_ne hxt]
   exact htp3
noncomputable def WebAt (C : Addr) (H : Hp) (x tp : Addr) (n : Nat) (ms : List (List Nat)) : Prop := (∃ dx, H x = some (.ins C dx (flds tp (n : Nat)))) ∧ H tp = some (.tup (ms.map T))
theorem WebAt.on {C : Addr} {H H' : Hp} {x tp : Addr} {n : Nat} {ms : List (List Nat)} (h : WebAt C H x tp n ms) (s : Same H H') : WebAt C H' x tp n ms := let ⟨⟨dx, e⟩, t⟩ := h; ⟨⟨dx, s _ _ e⟩, s _ _ t⟩

noncomputable def spBegin : Sp := fun vs H Q _ => ∃ t : List Nat, vs = [T t] ∧ (1 ≤ t.length ∧ t.length ≤ 1000) ∧ Q (T (t.take (t.length - 1))) H
theorem cut_begin {t : List Nat} (h : 1 ≤ t.length) : cutL t none (some (-1)) = t.take (t.length - 1) := by
 unfold cutL
 rw [HT.sIx_none, List.drop_zero, Nat.sub_zero]
 show t.take (if (-1 : Int) < 0 then ((-1 : Int) + (t.length : Int)).toNat else min (-1 : Int).toNat t.length) = _
 rw [if_pos (by decide), show ((-1 : Int) + (t.length : Int)).toNat = t.length - 1 by omega]
theorem ok_begin_of {f : Addr} {fd : FuncData} (F : Fun K "begin_of" "begin_of" s_begin_of f fd) (tt : Txt K mg ad) : FnOk P w K mg base (CX1 P w) 1 f fd ["word"] spBegin := by
 refine F.okN sc_begin_of (fun vs H Q E h => ?_) (fun cdv A outer s H vs Q E hr h => ?_)
 ·obtain ⟨t, rfl, _⟩ := h
  rfl
 ·obtain ⟨t, rfl, hl, q⟩ := h
  have hs : sizeLine = 16777216 := sizeLine_eq
  refine ⟨_, (pss_one (ps_ret (pe_slice sl_T (pv 0) po_none (po_some (pe_un un_neg pe_int))))), ?_⟩
  (try rw [cxK2]); (try rw [cxK1])
  refine ⟨_, rfl, _, rfl, _, rfl, _, rfl, (by omega), ?_⟩
  rw [show -(1 : Int) = -1 from rfl, cut_begin hl.1]
  exact q
noncomputable def spEnd : Sp := fun vs H Q _ => ∃ t : List Nat, vs = [T t] ∧ (1 ≤ t.length ∧ t.length ≤ 1000) ∧ Q (T (t.drop 1)) H
theorem ok_end_of {f : Addr} {fd : FuncData} (F : Fun K "end_of" "end_of" s_end_of f fd) (tt : Txt K mg ad) : FnOk P w K mg base (CX1 P w) 1 f fd ["word"] spEnd := by
 refine F.okN sc_end_of (fun vs H Q E h => ?_) (fun cdv A outer s H vs Q E hr h => ?_)
 ·obtain ⟨t, rfl, _⟩ := h
  rfl
 ·obtain ⟨t, rfl, hl, q⟩ := h
  have hs : sizeLine = 16777216 := sizeLine_eq
  refine ⟨_, (pss_one (ps_ret (pe_slice sl_T (pv 0) (po_some pe_int) po_none))), ?_⟩
  (try rw [cxK2]); (try rw [cxK1])
  refine ⟨_, rfl, _, rfl, _, rfl, (by omega), ?_⟩
  have e : cutL t (some 1) none = t.drop 1 := cutL_from (k := 1) hl.1
  rw [e]
  exact q

noncomputable def Sq (K : PySem.W.Frag) (H : Hp) (p : Addr) (xs : List V) : Prop := SqL K H p xs ∨ SqT K H p xs
theorem Sq.on {K : PySem.W.Frag} {H H' : Hp} {p : Addr} {xs : List V} (h : Sq K H p xs) (s : Same H H') : Sq K H' p xs := h.elim (fun z => .inl (s.seq z)) fun z => .inr (tupOn s z)
noncomputable def beg (l : List Nat) : List Nat := l.take (l.length - 1)
theorem inV_T {t : List Nat} : ∀ {ls : List (List Nat)}, inV (T t) (ls.map T) = decide (t ∈ ls)
 | [] => by simp [inV]
 | l :: ls => by
  have ih := @inV_T t ls
  have e : inV (T t) ((l :: ls).map T) = (eqV (T l) (T t) || inV (T t) (ls.map T)) := rfl
  have e2 : eqV (T l) (T t) = decide (t = l) := by
   show (tx l == tx t) = decide (t = l)
   rw [Bool.eq_iff_iff, beq_iff_eq, decide_eq_true_iff]
   exact ⟨fun h => (tx_inj h).symm, fun h => by rw [h]⟩
  rw [e, ih, e2, Bool.eq_iff_iff, Bool.or_eq_true, decide_eq_true_iff, decide_eq_true_iff, decide_eq_true_iff, List.mem_cons]
theorem map_id_T (ls : List (List Nat)) : (ls.map T).map (fun v => v) = ls.map T := List.map_id _
noncomputable def IsP (ms : List (List Nat)) (z : List Nat) : Prop := ∃ w ∈ ms, z = beg w ∨ z = w.drop 1
theorem few_len1 {k : Nat} {ls ps : List (List Nat)} {p : List Nat} (h : FewN k ls) (hn : ps.Nodup) (hm : ∀ z ∈ ps, z = p ∨ IsP ls z) : ps.length ≤ k + 1 := by
 obtain ⟨qs, h1, h2⟩ := h
 have := Hg.nd_len (ms := p :: qs) hn fun z hz => by
  rcases hm z hz with rfl | ⟨w, hw, rfl | rfl⟩
  ·exact List.mem_cons_self ..
  ·exact List.mem_cons_of_mem _ (h2 w hw).1
  ·exact List.mem_cons_of_mem _ (h2 w hw).2
 rw [List.length_cons] at this
 omega
theorem few64 {ls ps : List (List Nat)} {p : List Nat} (h : Few ls) (hn : ps.Nodup) (hm : ∀ z ∈ ps, z = p ∨ IsP ls z) : ps.length < 64 := by
 have := few_len1 h hn hm
 omega
noncomputable def spPieces (C : Addr) : Sp := fun vs H Q _ => ∃ (x tp : Addr) (n : Nat) (ms : List (List Nat)), vs = [.ref x] ∧ WebAt C H x tp n ms ∧ WebOk ms n ∧
 ∀ (D : Addr) (ps : List (List Nat)) (H' : Hp), H D = none → Same H H' → H' D = some (.lst (ps.map T)) → ps.Pairwise (fun a b => ¬ b < a) → ps.Nodup → (∀ z, z ∈ ps ↔ IsP ms z) → Q (.ref D) H'
theorem ok_pieces {f : Addr} {fd : FuncData} (F : Fun K "pieces" "pieces" s_pieces f fd) (tt : Txt K mg ad) (C_begin_of : Cal P w K mg base (CX1 P w) "begin_of" 1 ["word"] spBegin) (C_end_of : Cal P w K mg base (CX1 P w) "end_of" 1 ["word"] spEnd) :
  FnOk P w K mg base (CX1 P w) 2 f fd ["web"] (spPieces ad.Web) := by
 refine F.okN sc_pieces (fun vs H Q E h => ?_) (fun cdv A outer s H vs Q E hr h => ?_)
 ·obtain ⟨x, tp, n, ms, rfl, _⟩ := h
  rfl
 ·obtain ⟨x, tp, n, ms, rfl, hW, hok, q⟩ := h
  have hs : sizeLine = 16777216 := sizeLine_eq
  obtain ⟨⟨dx, hx⟩, htp⟩ := id hW
  obtain ⟨hne, h64, hn, hxs, hnd⟩ := id hok
  have ulen : ∀ ls : List (List Nat), (uniq ls).length ≤ ls.length := fun ls => nubTo_len ls _
  refine ⟨_, (pss_one (ps_ret (pe_callB (call_sortedIS rfl) (by rfl) tt.b_sorted PyProof.Rows.boot_sorted (pa_cons (pe_op op_orI (pe_callTy (call_setI rfl) (by rfl) tt.b_set (by decide +kernel) (pa_cons (pe_comp cs_pieces_0 rfl (pi_tup (pe_fld (pv 0) rfl)) (fun cl C s' H' fp => (pe_cal C_begin_of hr pass1 (pa_cons (pv 0) pa_nil)))) pa_nil)) (pe_callTy (call_setI rfl) (by rfl) tt.b_set (by decide +kernel) (pa_cons (pe_comp cs_pieces_1 rfl (pi_tup (pe_fld (pv 0) rfl)) (fun cl C s' H' fp => (pe_cal C_end_of hr pass1 (pa_cons (pv 0) pa_nil)))) pa_nil))) pa_nil)))), ?_⟩
  (try rw [cxK2]); (try rw [cxK1])
  refine ⟨_, rfl, x, ad.Web, dx, _, _, rfl, hx, tt.cl_Web, tt.na_Web_words, flds_w _ _, tp, rfl, ⟨_, SqT.of htp⟩, ?_⟩
  refine compG (fun v => T (beg (unT v))) (reads_tup (SqT.of htp)) (by rw [List.length_map]; omega) (fun v H2 hv s2 N hN => ?_) fun D1 H2 hD1 s2 hd2 => ?_
  ·obtain ⟨l, hl, rfl⟩ := List.mem_map.mp hv
   have hll := (hxs l hl).1
   have z := hN H2 (Same.refl _)
   rw [unT_T] at z
   exact ⟨_, rfl, l, rfl, ⟨by omega, by omega⟩, z⟩
  rw [map_unT (f := fun l => T (beg l)), show ms.map (fun l => T (beg l)) = (ms.map beg).map T by rw [List.map_map]; rfl] at hd2
  refine ⟨D1, ms.map beg, rfl, SqL.of hd2, (by rw [List.length_map]; omega), fun S1 hS1 => ?_⟩
  have s3 := s2.trans (same_upd (o := SetI w S1 (uniq (ms.map beg))) hS1)
  have hd3 : upd H2 S1 (SetI w S1 (uniq (ms.map beg))) S1 = some (SetI w S1 (uniq (ms.map beg))) := upd_same
  refine ⟨_, rfl, x, ad.Web, dx, _, _, rfl, s3 x _ hx, tt.cl_Web, tt.na_Web_words, flds_w _ _, tp, rfl, ⟨_, SqT.of (s3 tp _ htp)⟩, ?_⟩
  refine compG (fun v => T ((unT v).drop 1)) (reads_tup (SqT.of (s3 tp _ htp))) (by rw [List.length_map]; omega) (fun v H4 hv s4 N hN => ?_) fun D2 H4 hD2 s4 hd4 => ?_
  ·obtain ⟨l, hl, rfl⟩ := List.mem_map.mp hv
   have hll := (hxs l hl).1
   have z := hN H4 (Same.refl _)
   rw [unT_T] at z
   exact ⟨_, rfl, l, rfl, ⟨by omega, by omega⟩, z⟩
  rw [map_unT (f := fun l => T (l.drop 1)), show ms.map (fun l => T (l.drop 1)) = (ms.map fun l => l.drop 1).map T by rw [List.map_map]; rfl] at hd4
  refine ⟨D2, ms.map (fun l => l.drop 1), rfl, SqL.of hd4, (by rw [List.length_map]; omega), fun S2 hS2 => ?_⟩
  have s5 := same_upd (o := SetI w S2 (uniq (ms.map fun l => l.drop 1))) hS2
  have l1 := ulen (ms.map beg)
  have l2 := ulen (ms.map fun l => l.drop 1)
  rw [List.length_map] at l1 l2
  have hS1' := s5 S1 _ (s4 S1 _ hd3)
  have ne12 : S1 ≠ S2 := fun z => by
   have g := s4 S1 _ hd3
   rw [z, hS2] at g
   cases g
  refine ⟨S1, S2, _, _, rfl, rfl, ne12, hS1', upd_same, (fun z => ?_), (by omega), fun D5 qs hD5 hqn hql hqm => ?_⟩
  ·obtain ⟨m0, hm0⟩ : ∃ m0, m0 ∈ ms := List.exists_mem_of_ne_nil _ hne
   have : beg m0 ∈ uniq (ms.map beg) := (uniq_mem _ _).mpr (List.mem_map_of_mem hm0)
   rw [z] at this
   cases this
  have s6 := same_upd (o := SetI w D5 qs) hD5
  refine ⟨D5, qs, rfl, upd_same, (few64 (p := []) hok.2.2.1.2 hqn fun z hz => .inr ?few), fun ps D6 hD6 hp6 hw6 => ?_⟩
  case few =>
   rw [hqm, uniq_mem, uniq_mem, List.mem_map, List.mem_map] at hz
   rcases hz with ⟨l, hl, rfl⟩ | ⟨l, hl, rfl⟩
   ·exact ⟨l, hl, .inl rfl⟩
   ·exact ⟨l, hl, .inr rfl⟩
  have s7 := same_upd (o := .lst (ps.map T)) hD6
  have sall := s3.trans (s4.trans (s5.trans (s6.trans s7)))
  have hD6' : H D6 = none := by
   cases e : H D6 with
   | none => rfl
   | some o =>
    have g := (s3.trans (s4.trans (s5.trans s6))) D6 o e
    exact absurd (g.symm.trans hD6) (fun z => nomatch z)
  refine q D6 ps _ hD6' sall upd_same hw6 (hp6.nodup_iff.mpr hqn) fun z => ?_
  rw [hp6.mem_iff, hqm, uniq_mem, uniq_mem, List.mem_map, List.mem_map]
  constructor
  ·rintro (⟨l, hl, rfl⟩ | ⟨l, hl, rfl⟩)
   ·exact ⟨l, hl, .inl rfl⟩
   ·exact ⟨l, hl, .inr rfl⟩
  ·rintro ⟨l, hl, rfl | rfl⟩
   ·exact .inl ⟨l, hl, rfl⟩
   ·exact .inr ⟨l, hl, rfl⟩


noncomputable def exc (ms so : List (List Nat)) : Int := ((ms.filter fun l => decide (beg l ∈ so)).length : Int) - ((ms.filter fun l => decide (l.drop 1 ∈ so)).length : Int)
noncomputable def spExcess (K : PySem.W.Frag) (C : Addr) : Sp := fun vs H Q _ => ∃ (x tp b : Addr) (n : Nat) (ms so : List (List Nat)), vs = [.ref x, .ref b] ∧ WebAt C H x tp n ms ∧ WebOk ms n ∧ Sq K H b (so.map T) ∧ ∀ (H' : Hp), Same H H' → Q (.int (exc ms so)) H'
theorem ok_excess {f : Addr} {fd : FuncData} (F : Fun K "excess" "excess" s_excess f fd) (tt : Txt K mg ad) (C_begin_of : Cal P w K mg base (CX1 P w) "begin_of" 1 ["word"] spBegin) (C_end_of : Cal P w K mg base (CX1 P w) "end_of" 1 ["word"] spEnd) :
  FnOk P w K mg base (CX1 P w) 2 f fd ["web", "some"] (spExcess K ad.Web) := by
 refine F.okN sc_excess (fun vs H Q E h => ?_) (fun cdv A outer s H vs Q E hr h => ?_)
 ·obtain ⟨x, tp, b, n, ms, so, rfl, _⟩ := h
  rfl
 ·obtain ⟨x, tp, b, n, ms, so, rfl, hW, hok, hB, q⟩ := h
  have hs : sizeLine = 16777216 := sizeLine_eq
  obtain ⟨⟨dx, hx⟩, htp⟩ := id hW
  obtain ⟨hne, h64, hn, hxs, hnd⟩ := id hok
  refine ⟨_, (pss_cons (ps_setCompf (i := 2) cs_excess_0 rfl (pi_tup (pe_fld (pv 0) rfl)) (fun cl C s' H' fp => (pt_cmpR (op_in_seqK K rfl) (pe_cal C_begin_of hr pass1 (pa_cons (pv 0) pa_nil)) (pv 2) (by with_unfolding_all rfl))) (fun cl C s' H' fp => (pv 0)) sc_excess.nd rfl rfl)
   (pss_cons (ps_setCompf (i := 3) cs_excess_1 rfl (pi_tup (pe_fld (pv 0) rfl)) (fun cl C s' H' fp => (pt_cmpR (op_in_seqK K rfl) (pe_cal C_end_of hr pass1 (pa_cons (pv 0) pa_nil)) (pv 2) (by with_unfolding_all rfl))) (fun cl C s' H' fp => (pv 0)) sc_excess.nd rfl rfl)
   (pss_one (ps_ret (pe_op op_sub (pe_callB call_len_seq (by rfl) tt.b_len PySem.boot_len (pa_cons (pv 2) pa_nil)) (pe_callB call_len_seq (by rfl) tt.b_len PySem.boot_len (pa_cons (pv 3) pa_nil))))))), ?_⟩
  (try rw [cxK2]); (try rw [cxK1])
  refine ⟨_, rfl, x, ad.Web, dx, _, _, rfl, hx, tt.cl_Web, tt.na_Web_words, flds_w _ _, tp, rfl, ⟨_, SqT.of htp⟩, ?_⟩
  refine compFG (fun v => decide (beg (unT v) ∈ so)) (fun v => v) (reads_tup (SqT.of htp)) (by rw [List.length_map]; omega) (fun v H2 hv s2 N hN => ?_) (fun v H2 hv hp s2 N hN => ?_) fun D1 H2 hD1 s2 hd2 => ?_
  ·obtain ⟨l, hl, rfl⟩ := List.mem_map.mp hv
   have hll := (hxs l hl).1
   have z := hN H2 (Same.refl _)
   rw [unT_T] at z
   refine ⟨_, rfl, l, rfl, ⟨by omega, by omega⟩, _, rfl, b, _, rfl, hB.on s2, rfl, all_flat so, _, rfl, ?_⟩
   show N (inV (T (beg l)) (so.map T)) H2
   rw [inV_T]
   exact z
  ·exact ⟨_, rfl, hN H2 (Same.refl _)⟩
  rw [show (ms.map T).filter (fun v => decide (beg (unT v) ∈ so)) = (ms.filter fun l => decide (beg l ∈ so)).map T from filter_unT (p := fun l => decide (beg l ∈ so)) ms, map_id_T] at hd2
  refine ⟨_, rfl, x, ad.Web, dx, _, _, rfl, s2 x _ hx, tt.cl_Web, tt.na_Web_words, flds_w _ _, tp, rfl, ⟨_, SqT.of (s2 tp _ htp)⟩, ?_⟩
  refine compFG (fun v => decide ((unT v).drop 1 ∈ so)) (fun v => v) (reads_tup (SqT.of (s2 tp _ htp))) (by rw [List.length_map]; omega) (fun v H3 hv s3 N hN => ?_) (fun v H3 hv hp s3 N hN => ?_) fun D2 H3 hD2 s3 hd3 => ?_
  ·obtain ⟨l, hl, rfl⟩ := List.mem_map.mp hv
   have hll := (hxs l hl).1
   have z := hN H3 (Same.refl _)
   rw [unT_T] at z
   refine ⟨_, rfl, l, rfl, ⟨by omega, by omega⟩, _, rfl, b, _, rfl, (hB.on s2).on s3, rfl, all_flat so, _, rfl, ?_⟩
   show N (inV (T (l.drop 1)) (so.map T)) H3
   rw [inV_T]
   exact z
  ·exact ⟨_, rfl, hN H3 (Same.refl _)⟩
  rw [show (ms.map T).filter (fun v => decide ((unT v).drop 1 ∈ so)) = (ms.filter fun l => decide (l.drop 1 ∈ so)).map T from filter_unT (p := fun l => decide (l.drop 1 ∈ so)) ms, map_id_T] at hd3
  refine ⟨_, rfl, D1, _, rfl, .inl (SqL.of (s3 D1 _ hd2)), _, rfl, D2, _, rfl, .inl (SqL.of hd3), _, _, rfl, rfl, ?_⟩
  rw [List.length_map, List.length_map]
  exact q H3 (s2.trans s3)


noncomputable abbrev En (l : List Nat) : List Nat := l.drop 1
noncomputable abbrev Rc (ms : List (List Nat)) (p z : List Nat) : Prop := Hg.Rch beg En ms p z
theorem val_tKs {t : List Nat} {v : V} : ∀ {ls : List (List Nat)}, valV (tKs ls v) (Sum.inr (tx t)) = if t ∈ ls then some v else none
 | [] => by simp [tKs, valV]
 | l :: ls => by
  have ih := @val_tKs t v ls
  unfold tKs valV at ih ⊢
  rw [List.map_cons, List.find?_cons]
  by_cases e : l = t
  ·subst e
   simp
  ·have e2 : ¬ (Sum.inr (tx l) : Key) = Sum.inr (tx t) := fun z => e (tx_inj (Sum.inr.inj z))
   have e3 : ¬ t = l := fun z => e z.symm
   simp only [e2, decide_false, List.mem_cons, e3, false_or]
   exact ih
theorem put_tKs {t : List Nat} {v : V} {ls : List (List Nat)} : putK (tKs ls v) (Sum.inr (tx t)) v = tKs (Hg.addT ls t) v := by
 have e : ((tKs ls v).any fun kv => decide (kv.1 = Sum.inr (tx t))) = decide (t ∈ ls) := by
  rw [Bool.eq_iff_iff, List.any_eq_true, decide_eq_true_iff]
  constructor
  ·rintro ⟨kv, h1, h2⟩
   obtain ⟨l, hl, rfl⟩ := List.mem_map.mp h1
   have := tx_inj (Sum.inr.inj (of_decide_eq_true h2))
   exact this ▸ hl
  ·exact fun h => ⟨_, List.mem_map_of_mem h, decide_eq_true rfl⟩
 unfold putK Hg.addT
 rw [e]
 by_cases h : t ∈ ls
 ·rw [if_pos (decide_eq_true h), if_pos h]
  conv => rhs; rw [← List.map_id (tKs ls v)]
  refine List.map_congr_left fun kv hkv => ?_
  obtain ⟨l, _, rfl⟩ := List.mem_map.mp hkv
  split
  ·rfl
  ·rfl
 ·rw [if_neg (by rw [decide_eq_false h]; exact Bool.false_ne_true), if_neg h]
  unfold tKs
  rw [List.map_append]
  rfl
theorem tKs_keys (ls : List (List Nat)) (v : V) : (tKs ls v).map (·.1) = ls.map fun t => Sum.inr (tx t) := by
 unfold tKs
 rw [List.map_map]
 rfl
theorem tKs_len (ls : List (List Nat)) (v : V) : (tKs ls v).length = ls.length := by unfold tKs; rw [List.length_map]
theorem rc_or {ms : List (List Nat)} {p z : List Nat} (h : Rc ms p z) : z = p ∨ IsP ms z := by
 rcases Hg.rch_in h with rfl | g
 ·exact .inl rfl
 ·rcases List.mem_append.mp g with g | g
  ·obtain ⟨l, hl, e⟩ := List.mem_map.mp g
   exact .inr ⟨l, hl, .inl e.symm⟩
  ·obtain ⟨l, hl, e⟩ := List.mem_map.mp g
   exact .inr ⟨l, hl, .inr e.symm⟩
noncomputable def spHBy (K : PySem.W.Frag) : Sp := fun vs H Q _ => ∃ (a : Addr) (ms : List (List Nat)) (p : List Nat), vs = [.ref a, T p] ∧ SqA K H a (ms.map T) ∧ (ms.length ≤ 64 ∧ ∀ x ∈ ms, 1 ≤ x.length ∧ x.length ≤ 1000) ∧
 ∀ (D : Addr) (H' : Hp) (ls : List (List Nat)), H D = none → Same H H' → H' D = some (.dK (tKs ls (.bl true))) → ls.Nodup → (∀ z, z ∈ ls ↔ Rc ms p z) → Q (.ref D) H'
theorem ok_hanging_by {f : Addr} {fd : FuncData} (F : Fun K "hanging_by" "hanging_by" s_hanging_by f fd) (tt : Txt K mg ad) (C_begin_of : Cal P w K mg base (CX1 P w) "begin_of" 1 ["word"] spBegin) (C_end_of : Cal P w K mg base (CX1 P w) "end_of" 1 ["word"] spEnd) :
  FnOk P w K mg base (CX1 P w) 2 f fd ["words", "piece"] (spHBy K) := by
 refine F.okN sc_hanging_by (fun vs H Q E h => ?_) (fun cdv A outer s H vs Q E hr h => ?_)
 ·obtain ⟨a, ms, p, rfl, _⟩ := h
  rfl
 ·obtain ⟨a, ms, p, rfl, hS, ⟨h64, hxl⟩, q⟩ := h
  have hs : sizeLine = 16777216 := sizeLine_eq
  refine ⟨_, (pss_cons (ps_set (i := 2) sc_hanging_by.nd rfl (Or.inl rfl) (pe_disp (pps_cons (pv 1) pe_bl pps_nil) rfl rfl (fun z => nomatch z) (by decide)))
   (pss_cons (ps_set (i := 3) sc_hanging_by.nd rfl (Or.inl rfl) pe_int)
   (pss_cons (ps_while PassesOwn.never (pt_cmpR op_lt (pv 3) (pe_callB call_lenD (by rfl) tt.b_len PySem.boot_len (pa_cons (pv 2) pa_nil)) (nomark _)) (pss_cons (ps_set (i := 3) sc_hanging_by.nd rfl (Or.inl rfl) (pe_callB call_lenD (by rfl) tt.b_len PySem.boot_len (pa_cons (pv 2) pa_nil)))
   (pss_one (ps_for PassesOwn.never rfl (pi_seqK K rfl (pv 0)) (pg_name (i := 4) sc_hanging_by.nd rfl (Or.inl rfl)) (pss_one (ps_if (PW.pt (pw_or (pt_cmp (pc_din (hu_of hr) (pe_cal C_begin_of hr pass1 (pa_cons (pv 4) pa_nil)) (pv 2))) (pw_or1 (pt_cmp (pc_din (hu_of hr) (pe_cal C_end_of hr pass1 (pa_cons (pv 4) pa_nil)) (pv 2)))))) (pss_cons (ps_dput (hu_of hr) (pv 2) (pe_cal C_begin_of hr pass1 (pa_cons (pv 4) pa_nil)) pe_bl rfl)
   (pss_one (ps_dput (hu_of hr) (pv 2) (pe_cal C_end_of hr pass1 (pa_cons (pv 4) pa_nil)) pe_bl rfl))) pss_nil))))))
   (pss_one (ps_ret (pv 2)))))), ?_⟩
  (try rw [cxK2]); (try rw [cxK1])
  intro D hD
  refine ⟨_, rfl, upd_same, [(Sum.inr (tx p), .bl true)], rfl, (by show 1 ≤ 15; decide), ?_⟩
  have sD : Same H (upd H D (.dK (tKs [p] (.bl true)))) := same_upd hD
  have e1 : upd (upd H D (.dK [])) D (.dK (mergeK [] [(Sum.inr (tx p), .bl true)])) = upd H D (.dK (tKs [p] (.bl true))) := by
   rw [upd_upd]
   rfl
  rw [e1]
  refine ⟨fun m σ H2 => ∃ (fs : List (List Nat)) (kn : Nat) (v4 : Option V), m = 2 * ms.length + 2 - kn ∧ Same H H2 ∧ H2 D = some (.dK (tKs fs (.bl true))) ∧ fs.Nodup ∧ p ∈ fs ∧ (∀ z ∈ fs, Rc ms p z) ∧ kn ≤ fs.length ∧ (kn = fs.length → ∀ x ∈ ms, Hg.Cl beg En fs x) ∧ σ = [some (.ref a), some (T p), some (.ref D), some (.int (kn : Nat)), v4],
   ⟨_, [p], 0, none, rfl, sD, upd_same, by simp, by simp, (fun z hz => by rw [List.mem_singleton.mp hz]; exact .self), Nat.zero_le _, (fun z => nomatch z), rfl⟩, ?_⟩
  rintro m σ H2 ⟨fs, kn, v4, hm, s2, hd2, hnd, hp, hrc, hkn, hcl, rfl⟩
  have hfl := Hg.len_le hnd hrc
  refine ⟨_, rfl, _, rfl, D, _, rfl, hd2, _, _, rfl, rfl, _, rfl, ?_⟩
  rw [tKs_len]
  refine ite2 (fun h0 => ?_) (fun h0 => ?_)
  ·have h0' : kn < fs.length := by have := of_decide_eq_true h0; omega
   refine ⟨fun σ' H' => ∃ m' < m, ∃ (fs : List (List Nat)) (kn : Nat) (v4 : Option V), m' = 2 * ms.length + 2 - kn ∧ Same H H' ∧ H' D = some (.dK (tKs fs (.bl true))) ∧ fs.Nodup ∧ p ∈ fs ∧ (∀ z ∈ fs, Rc ms p z) ∧ kn ≤ fs.length ∧ (kn = fs.length → ∀ x ∈ ms, Hg.Cl beg En fs x) ∧ σ' = [some (.ref a), some (T p), some (.ref D), some (.int (kn : Nat)), v4], fun σ' H' z => z, ?_⟩
   refine ⟨_, rfl, D, _, rfl, hd2, ?_⟩
   rw [tKs_len]
   refine ⟨_, rfl, a, ms.map T, _, rfl, hS, s2, fun J rd => ?_⟩
   refine for_reads rd (fun i σ H3 => Same H H3 ∧ ∃ (ls : List (List Nat)) (v4 : Option V), H3 D = some (.dK (tKs ls (.bl true))) ∧ Hg.Pass beg En ms p fs i ls ∧ σ = [some (.ref a), some (T p), some (.ref D), some (.int (fs.length : Nat)), v4]) ⟨s2, fs, v4, hd2, .zero hnd hrc, rfl⟩ (fun i σ H3 _ h => h.1) ?_ ?_
   ·rintro i y σ H3 hi ⟨s3, ls, v4, hd3, hps, rfl⟩
    obtain ⟨x, hx, rfl⟩ : ∃ x, ms[i]? = some x ∧ T x = y := by rw [List.getElem?_map] at hi; exact Option.map_eq_some_iff.mp hi
    have hxx := hxl x (List.mem_of_getElem? hx)
    have hdx : ∀ t : List Nat, DGet H3 D (T t) (if t ∈ ls then some (.bl true) else none) := fun t => by have g := DGet.k (k := Sum.inr (tx t)) hd3; rwa [val_tKs] at g
    have l3 := Hg.len_le hps.nd hps.rch
    have sameD : ∀ {G : Hp} {o1 o2 : HO}, Same H G → Same H (upd (upd G D o1) D o2) := fun sg b o e => by
     rw [upd_ne (ne_of_none e hD), upd_ne (ne_of_none e hD)]
     exact sg b o e
    refine ⟨_, rfl, x, rfl, hxx, _, rfl, D, _, rfl, hdx _, _, rfl, ?_⟩
    by_cases hb : beg x ∈ ls
    ·refine itP (by show (if beg x ∈ ls then some (V.bl true) else none).isSome = true; rw [if_pos hb]; rfl) ?_
     refine ⟨_, rfl, _, rfl, x, rfl, hxx, D, _, rfl, DPut.k (k := Sum.inr (tx (beg x))) hd3 (by rw [tKs_len]; omega), ?_⟩
     rw [put_tKs]
     refine ⟨_, rfl, _, rfl, x, rfl, hxx, D, _, rfl, DPut.k (k := Sum.inr (tx (En x))) upd_same (by rw [tKs_len]; have := Hg.addT_len ls (beg x); omega), ?_⟩
     rw [put_tKs]
     exact ⟨sameD s3, _, some (T x), upd_same, hps.yes hx (.inl hb), rfl⟩
    ·refine itN (by show ¬ (if beg x ∈ ls then some (V.bl true) else none).isSome = true; rw [if_neg hb]; exact Bool.false_ne_true) ?_
     refine ⟨_, rfl, x, rfl, hxx, _, rfl, D, _, rfl, hdx _, _, rfl, ?_⟩
     by_cases he : En x ∈ ls
     ·refine itP (by show (if En x ∈ ls then some (V.bl true) else none).isSome = true; rw [if_pos he]; rfl) ?_
      refine ⟨_, rfl, _, rfl, x, rfl, hxx, D, _, rfl, DPut.k (k := Sum.inr (tx (beg x))) hd3 (by rw [tKs_len]; omega), ?_⟩
      rw [put_tKs]
      refine ⟨_, rfl, _, rfl, x, rfl, hxx, D, _, rfl, DPut.k (k := Sum.inr (tx (En x))) upd_same (by rw [tKs_len]; have := Hg.addT_len ls (beg x); omega), ?_⟩
      rw [put_tKs]
      exact ⟨sameD s3, _, some (T x), upd_same, hps.yes hx (.inr he), rfl⟩
     ·refine itN (by show ¬ (if En x ∈ ls then some (V.bl true) else none).isSome = true; rw [if_neg he]; exact Bool.false_ne_true) ?_
      exact ⟨s3, ls, some (T x), hd3, hps.no hx hb he, rfl⟩
   ·rintro σ H3 ⟨s3, ls, v4, hd3, hps, rfl⟩
    have l1 := hps.pre.length_le
    refine ⟨_, ?_, ls, fs.length, v4, rfl, s3, hd3, hps.nd, hps.pre.subset hp, hps.rch, l1, (fun e x hx => ?_), rfl⟩
    ·omega
    ·have hc := hps.cl e.symm x (by rw [List.length_map, List.take_length]; exact hx)
     rwa [hps.pre.eq_of_length e] at hc
  ·have h0' : kn = fs.length := by have z : ¬ ((kn : Int) < (fs.length : Int)) := fun z => h0 (decide_eq_true z); omega
   exact ⟨_, rfl, q D H2 fs hD s2 hd2 hnd fun z => ⟨hrc z, fun hz => hz.inside hp (hcl h0')⟩⟩


noncomputable def spHang (C : Addr) (ad : Adr) : Sp := fun vs H Q E => ∃ (x tp : Addr) (n : Nat) (ms : List (List Nat)) (p : List Nat), vs = [.ref x, T p] ∧ WebAt C H x tp n ms ∧ WebOk ms n ∧ (¬ IsP ms p → ∀ H', Same H H' → E (.ref ad.NoSuch) none H') ∧
 (IsP ms p → ∀ (D : Addr) (ps : List (List Nat)) (H' : Hp), H D = none → Same H H' → H' D = some (.lst (ps.map T)) → ps.Pairwise (fun a b => ¬ b < a) → ps.Nodup → (∀ z, z ∈ ps ↔ Rc ms p z) → Q (.ref D) H')
theorem back_none {H G : Hp} {D : Addr} (s : Same H G) (h : G D = none) : H D = none := by
 cases e : H D with
 | none => rfl
 | some o => exact absurd ((s D o e).symm.trans h) (fun z => nomatch z)
theorem ok_hanging {f : Addr} {fd : FuncData} (F : Fun K "hanging" "hanging" s_hanging f fd) (tt : Txt K mg ad) (C_pieces : Cal P w K mg base (CX1 P w) "pieces" 2 ["web"] (spPieces ad.Web)) (C_hanging_by : Cal P w K mg base (CX1 P w) "hanging_by" 2 ["words", "piece"] (spHBy K)) :
  FnOk P w K mg base (CX1 P w) 3 f fd ["web", "piece"] (spHang ad.Web ad) := by
 refine F.okX sc_hanging (fun vs H Q E h => ?_) (fun cdv A outer s H vs Q E hr h => ?_)
 ·obtain ⟨x, tp, n, ms, p, rfl, _⟩ := h
  rfl
 ·obtain ⟨x, tp, n, ms, p, rfl, hW, hok, xn, q⟩ := h
  have hs : sizeLine = 16777216 := sizeLine_eq
  obtain ⟨⟨dx, hx⟩, htp⟩ := id hW
  obtain ⟨hne, h64, hn, hxs, hnd⟩ := id hok
  refine ⟨_, (pss_cons (ps_if (pt_cmpR op_notIn_seq (pv 1) (pe_cal C_pieces hr pass1 (pa_cons (pv 0) pa_nil)) (by with_unfolding_all rfl)) (pss_one (ps_raise (E := fun cls H' => E cls none H') tt.x_NoSuch rfl (fun _ _ _ _ _ _ _ I hx q => raiseX I hx q) (pa_cons pe_str pa_nil))) pss_nil)
   (pss_one (ps_ret (pe_callB (call_sortedDS rfl) (by rfl) tt.b_sorted PyProof.Rows.boot_sorted (pa_cons (pe_cal C_hanging_by hr pass1 (pa_cons (pe_fld (pv 0) rfl) (pa_cons (pv 1) pa_nil))) pa_nil))))), ?_⟩
  (try rw [cxK2]); (try rw [cxK1])
  refine ⟨_, rfl, _, rfl, x, tp, n, ms, rfl, hW, hok, fun D1 ps H1 hD1 s1 hd1 hpw hpn hpm => ?_⟩
  refine ⟨D1, _, rfl, .inl (SqL.of hd1), rfl, all_flat ps, _, rfl, ?_⟩
  by_cases hp : p ∈ ps
  ·refine itN (by rw [inV_T, decide_eq_true hp]; exact Bool.false_ne_true) ?_
   refine ⟨_, rfl, x, ad.Web, dx, _, _, rfl, s1 x _ hx, tt.cl_Web, tt.na_Web_words, flds_w _ _, _, rfl, tp, ms, p, rfl, .inr (SqT.of (s1 tp _ htp)), ⟨by omega, fun y hy => by have := (hxs y hy).1; omega⟩, fun D2 H2 ls hD2 s2 hd2 hln hlm => ?_⟩
   refine ⟨D2, ls, _, rfl, hd2, tKs_keys _ _, few64 hok.2.2.1.2 hln (fun z hz => rc_or ((hlm z).mp hz)), fun qs D3 hD3 hp3 hw3 => ?_⟩
   exact q ((hpm p).mp hp) D3 qs _ (back_none (s1.trans s2) hD3) (s1.trans (s2.trans (same_upd hD3))) upd_same hw3 (hp3.nodup_iff.mpr hln) fun z => by rw [hp3.mem_iff, hlm]
  ·refine itP (by rw [inV_T, decide_eq_false hp]; rfl) ?_
   exact ⟨(by show 1 ≤ sizeLine; omega), xn (fun z => hp ((hpm p).mpr z)) H1 s1⟩

noncomputable def unev : List Nat := [117, 110, 101, 118, 101, 110]
noncomputable def apar : List Nat := [97, 112, 97, 114, 116]
theorem exc_perm {ls ms so : List (List Nat)} (p : ms.Perm ls) : exc ms so = exc ls so := by
 unfold exc
 rw [(p.filter fun l => decide (beg l ∈ so)).length_eq, (p.filter fun l => decide (l.drop 1 ∈ so)).length_eq]

noncomputable abbrev Pap := Option (List Nat × List (List Nat))
noncomputable def PapAt (H : Hp) (v : V) : Pap → Prop
 | none => v = .non
 | some (kd, so) => ∃ p b : Addr, v = .ref p ∧ H p = some (.tup [T kd, .ref b]) ∧ H b = some (.tup (so.map T))
noncomputable def Pcs (ms ev : List (List Nat)) : Prop := ev.Pairwise (fun a b => ¬ b < a) ∧ ev.Nodup ∧ ∀ z, z ∈ ev ↔ IsP ms z
theorem Pcs.uniq {ms ls ev eu : List (List Nat)} (h : Pcs ms ev) (g : Pcs ls eu) (p : ms.Perm ls) : ev = eu := Wd.sorted_same ((List.perm_ext_iff_of_nodup h.2.1 g.2.1).mpr fun z => by rw [h.2.2, g.2.2]; exact ⟨fun ⟨w, h1, h2⟩ => ⟨w, p.mem_iff.mp h1, h2⟩, fun ⟨w, h1, h2⟩ => ⟨w, p.mem_iff.mpr h1, h2⟩⟩) h.1 g.1
noncomputable def WhyA (ms ev : List (List Nat)) (r : Pap) : Prop := ∃ (z0 : List Nat) (so : List (List Nat)), ev[0]? = some z0 ∧ so.Pairwise (fun a b => ¬ b < a) ∧ so.Nodup ∧ (∀ z, z ∈ so ↔ Rc ms z0 z) ∧ r = if so.length = ev.length then none else some (apar, so)
noncomputable def spWhyA (C : Addr) : Sp := fun vs H Q _ => ∃ (x tp : Addr) (n : Nat) (ms : List (List Nat)), vs = [.ref x] ∧ WebAt C H x tp n ms ∧ WebOk ms n ∧
 ∀ (ev : List (List Nat)) (r : Pap) (v : V) (H' : Hp), Pcs ms ev → WhyA ms ev r → PapAt H' v r → Same H H' → Q v H'
theorem pcs_ne {ms ev : List (List Nat)} (h : Pcs ms ev) (hne : ms ≠ []) : ∃ z0, ev[0]? = some z0 ∧ IsP ms z0 := by
 obtain ⟨l, hl⟩ := List.exists_mem_of_ne_nil _ hne
 have hm := (h.2.2 (beg l)).mpr ⟨l, hl, .inl rfl⟩
 have h0 := List.length_pos_of_mem hm
 exact ⟨_, List.getElem?_eq_getElem h0, (h.2.2 _).mp (List.getElem_mem h0)⟩
theorem ok_why_apart {f : Addr} {fd : FuncData} (F : Fun K "why_apart" "why_apart" s_why_apart f fd) (tt : Txt K mg ad) (C_pieces : Cal P w K mg base (CX1 P w) "pieces" 2 ["web"] (spPieces ad.Web)) (C_hanging : Cal P w K mg base (CX1 P w) "hanging" 3 ["web", "piece"] (spHang ad.Web ad)) :
  FnOk P w K mg base (CX1 P w) 4 f fd ["web"] (spWhyA ad.Web) := by
 refine F.okN sc_why_apart (fun vs H Q E h => ?_) (fun cdv A outer s H vs Q E hr h => ?_)
 ·obtain ⟨x, tp, n, ms, rfl, _⟩ := h
  rfl
 ·obtain ⟨x, tp, n, ms, rfl, hW, hok, q⟩ := h
  have hs : sizeLine = 16777216 := sizeLine_eq
  refine ⟨_, (pss_cons (ps_set (i := 1) sc_why_apart.nd rfl (Or.inl rfl) (pe_cal C_pieces hr pass1 (pa_cons (pv 0) pa_nil)))
   (pss_cons (ps_set (i := 2) sc_why_apart.nd rfl (Or.inl rfl) (pe_cal C_hanging hr pass1 (pa_cons (pv 0) (pa_cons (pe_ix ix_list (pv 1) pe_int (fun _ _ => rfl)) pa_nil))))
   (pss_cons (ps_if (pt_cmpR op_eq_I (pe_callB call_len_seq (by rfl) tt.b_len PySem.boot_len (pa_cons (pv 2) pa_nil)) (pe_callB call_len_seq (by rfl) tt.b_len PySem.boot_len (pa_cons (pv 1) pa_nil)) (nomark _)) (pss_one (ps_ret pe_non)) pss_nil)
   (pss_one (ps_ret (pe_tup (pa_cons (pe_strT [97, 112, 97, 114, 116] (by decide +kernel)) (pa_cons (pe_callTy call_tuple_of (by rfl) tt.b_tuple (by decide +kernel) (pa_cons (pv 2) pa_nil)) pa_nil)))))))), ?_⟩
  (try rw [cxK2]); (try rw [cxK1])
  refine ⟨_, rfl, x, tp, n, ms, rfl, hW, hok, fun D1 ev H1 hD1 s1 hd1 hpw hpn hpm => ?_⟩
  have hpc : Pcs ms ev := ⟨hpw, hpn, hpm⟩
  obtain ⟨z0, hz0, hz0p⟩ := pcs_ne hpc hok.1
  refine ⟨_, rfl, _, rfl, D1, _, _, _, rfl, rfl, SqL.of hd1, atI_nat (j := 0) (by rw [List.getElem?_map, hz0]; rfl), x, tp, n, ms, z0, rfl, hW.on s1, hok, fun z => absurd hz0p z, fun _ D2 so H2 hD2 s2 hd2 hw2 hn2 hm2 => ?_⟩
  have hwy : WhyA ms ev (if so.length = ev.length then none else some (apar, so)) := ⟨z0, so, hz0, hw2, hn2, hm2, rfl⟩
  have s12 := s1.trans s2
  refine ⟨_, rfl, D2, _, rfl, .inl (SqL.of hd2), _, rfl, D1, _, rfl, .inl (SqL.of (s2 D1 _ hd1)), _, rfl, _, rfl, _, rfl, ?_⟩
  rw [List.length_map, List.length_map]
  by_cases he : so.length = ev.length
  ·refine itP (decide_eq_true (by rw [he])) ?_
   rw [if_pos he] at hwy
   exact q ev none .non H2 hpc hwy rfl s12
  ·refine itN (fun z => he (by have := of_decide_eq_true z; omega)) ?_
   rw [if_neg he] at hwy
   refine ⟨_, rfl, D2, _, rfl, .inl ⟨SqL.of hd2, fun b hb => ?_⟩⟩
   have t3 := same_upd (o := .tup (so.map T)) hb
   refine ⟨(by show 2 ≤ sizeLine; omega), fun pp hpp => ?_⟩
   have t4 := same_upd (o := .tup [T apar, .ref b]) hpp
   exact q ev _ _ _ hpc hwy ⟨pp, b, rfl, upd_same, t4 b _ upd_same⟩ (s12.trans (t3.trans t4))



noncomputable def WhyR (ms ev : List (List Nat)) (r : Pap) : Prop := (∃ z, ev.find? (fun z => !decide (exc ms [z] = 0)) = some z ∧ r = some (unev, [z])) ∨ (ev.find? (fun z => !decide (exc ms [z] = 0)) = none ∧ WhyA ms ev r)
noncomputable def spWhyR (C : Addr) : Sp := fun vs H Q _ => ∃ (x tp : Addr) (n : Nat) (ms : List (List Nat)), vs = [.ref x] ∧ WebAt C H x tp n ms ∧ WebOk ms n ∧
 ∀ (ev : List (List Nat)) (r : Pap) (v : V) (H' : Hp), Pcs ms ev → WhyR ms ev r → PapAt H' v r → Same H H' → Q v H'
theorem find_snoc_none {p : List Nat → Bool} {ev : List (List Nat)} {i : Nat} {z : List Nat} (h : (ev.take i).find? p = none) (hz : ev[i]? = some z) : (p z = false → (ev.take (i + 1)).find? p = none) ∧ (p z = true → ev.find? p = some z) := by
 constructor
 ·intro hp
  rw [List.take_add_one, hz, List.find?_append, h]
  simp [hp]
 ·intro hp
  have e : ev = ev.take i ++ z :: ev.drop (i + 1) := by
   have g := (List.getElem?_eq_some_iff.mp hz)
   rw [← g.2, ← List.drop_eq_getElem_cons g.1, List.take_append_drop]
  rw [e, List.find?_append, h]
  simp [hp]
theorem ok_why_no_ring {f : Addr} {fd : FuncData} (F : Fun K "why_no_ring" "why_no_ring" s_why_no_ring f fd) (tt : Txt K mg ad) (C_pieces : Cal P w K mg base (CX1 P w) "pieces" 2 ["web"] (spPieces ad.Web)) (C_excess : Cal P w K mg base (CX1 P w) "excess" 2 ["web", "some"] (spExcess K ad.Web)) (C_why_apart : Cal P w K mg base (CX1 P w) "why_apart" 4 ["web"] (spWhyA ad.Web)) :
  FnOk P w K mg base (CX1 P w) 5 f fd ["web"] (spWhyR ad.Web) := by
 refine F.okN sc_why_no_ring (fun vs H Q E h => ?_) (fun cdv A outer s H vs Q E hr h => ?_)
 ·obtain ⟨x, tp, n, ms, rfl, _⟩ := h
  rfl
 ·obtain ⟨x, tp, n, ms, rfl, hW, hok, q⟩ := h
  have hs : sizeLine = 16777216 := sizeLine_eq
  refine ⟨_, (pss_cons (ps_for PassesOwn.never rfl (pi_list (pe_cal C_pieces hr pass1 (pa_cons (pv 0) pa_nil))) (pg_name (i := 1) sc_why_no_ring.nd rfl (Or.inl rfl)) (pss_one (ps_if (pt_cmpR op_ne_I (pe_cal C_excess hr pass1 (pa_cons (pv 0) (pa_cons (pe_lst (pa_cons (pv 1) pa_nil)) pa_nil))) pe_int (nomark _)) (pss_one (ps_ret (pe_tup (pa_cons (pe_strT [117, 110, 101, 118, 101, 110] (by decide +kernel)) (pa_cons (pe_tup (pa_cons (pv 1) pa_nil)) pa_nil))))) pss_nil)))
   (pss_one (ps_ret (pe_cal C_why_apart hr pass1 (pa_cons (pv 0) pa_nil))))), ?_⟩
  (try rw [cxK2]); (try rw [cxK1])
  refine ⟨_, rfl, x, tp, n, ms, rfl, hW, hok, fun D1 ev H1 hD1 s1 hd1 hpw hpn hpm => ?_⟩
  have hpc : Pcs ms ev := ⟨hpw, hpn, hpm⟩
  refine ⟨D1, rfl, ⟨_, SqL.of hd1⟩, ?_⟩
  refine for_list (K := K) (a := D1) (xs := ev.map T) (fun i σ H2 => Same H1 H2 ∧ (ev.take i).find? (fun z => !decide (exc ms [z] = 0)) = none ∧ ∃ v1 : Option V, σ = [some (.ref x), v1]) ⟨Same.refl _, rfl, none, rfl⟩ (fun i σ H2 _ h => SqL.of (h.1 D1 _ hd1)) ?_ ?_
  ·rintro i y σ H2 hi ⟨s2, hfn, v1, rfl⟩
   obtain ⟨pc, hpc', rfl⟩ : ∃ pc, ev[i]? = some pc ∧ T pc = y := by rw [List.getElem?_map] at hi; exact Option.map_eq_some_iff.mp hi
   obtain ⟨fn, fy⟩ := find_snoc_none hfn hpc'
   refine ⟨_, rfl, _, rfl, (by show 1 ≤ sizeLine; omega), fun p3 hp3 => ?_⟩
   have t3 := same_upd (o := .lst ([pc].map T)) hp3
   refine ⟨x, tp, p3, n, ms, [pc], rfl, hW.on (s1.trans (s2.trans t3)), hok, .inl (SqL.of upd_same), fun H4 s4 => ?_⟩
   refine ⟨_, rfl, _, rfl, _, rfl, ?_⟩
   by_cases h0 : exc ms [pc] = 0
   ·refine itN (by rw [decide_eq_true h0]; exact Bool.false_ne_true) ?_
    exact ⟨s2.trans (t3.trans s4), fn (by rw [decide_eq_true h0]; rfl), some (T pc), rfl⟩
   ·refine itP (by rw [decide_eq_false h0]; rfl) ?_
    refine ⟨_, rfl, (by show 1 ≤ sizeLine; omega), fun b hb => ?_⟩
    have t5 := same_upd (o := .tup ([pc].map T)) hb
    refine ⟨(by show 2 ≤ sizeLine; omega), fun pp hpp => ?_⟩
    have t6 := same_upd (o := .tup [T unev, .ref b]) hpp
    exact q ev _ _ _ hpc (.inl ⟨pc, fy (by rw [decide_eq_false h0]; rfl), rfl⟩) ⟨pp, b, rfl, upd_same, t6 b _ upd_same⟩ (s1.trans (s2.trans (t3.trans (s4.trans (t5.trans t6)))))
  ·rintro σ H2 ⟨s2, hfn, v1, rfl⟩
   rw [List.length_map, List.take_length] at hfn
   refine ⟨_, rfl, x, tp, n, ms, rfl, hW.on (s1.trans s2), hok, fun eu r v H3 hpu hr' hv s3 => ?_⟩
   obtain rfl := hpu.uniq hpc (List.Perm.refl ms)
   exact q eu r v H3 hpc (.inr ⟨hfn, hr'⟩) hv (s1.trans (s2.trans s3))
theorem pieces_few {ls ev : List (List Nat)} (hn : ev.Nodup) (hm : ∀ z ∈ ev, IsP ls z) : ev.length ≤ 2 * ls.length := by
 have := Hg.nd_len (ms := ls.map beg ++ ls.map fun l => l.drop 1) hn fun z hz => by
  obtain ⟨l, hl, h⟩ := hm z hz
  rcases h with rfl | rfl
  ·exact List.mem_append.mpr (.inl (List.mem_map.mpr ⟨l, hl, rfl⟩))
  ·exact List.mem_append.mpr (.inr (List.mem_map.mpr ⟨l, hl, rfl⟩))
 rw [List.length_append, List.length_map, List.length_map] at this
 omega
noncomputable def abv (ms ev : List (List Nat)) : List (List Nat) := ev.filter fun z => decide (0 < exc ms [z])
noncomputable def WhyW (ms ev : List (List Nat)) (r : Pap) : Prop := (2 ≤ exc ms (abv ms ev) ∧ r = some (unev, abv ms ev)) ∨ (exc ms (abv ms ev) < 2 ∧ WhyA ms ev r)
noncomputable def spWhyW (C : Addr) : Sp := fun vs H Q _ => ∃ (x tp : Addr) (n : Nat) (ms : List (List Nat)), vs = [.ref x] ∧ WebAt C H x tp n ms ∧ WebOk ms n ∧
 ∀ (ev : List (List Nat)) (r : Pap) (v : V) (H' : Hp), Pcs ms ev → WhyW ms ev r → PapAt H' v r → Same H H' → Q v H'
theorem ok_why_no_row {f : Addr} {fd : FuncData} (F : Fun K "why_no_row" "why_no_row" s_why_no_row f fd) (tt : Txt K mg ad) (C_pieces : Cal P w K mg base (CX1 P w) "pieces" 2 ["web"] (spPieces ad.Web)) (C_excess : Cal P w K mg base (CX1 P w) "excess" 2 ["web", "some"] (spExcess K ad.Web)) (C_why_apart : Cal P w K mg base (CX1 P w) "why_apart" 4 ["web"] (spWhyA ad.Web)) :
  FnOk P w K mg base (CX1 P w) 5 f fd ["web"] (spWhyW ad.Web) := by
 refine F.okN sc_why_no_row (fun vs H Q E h => ?_) (fun cdv A outer s H vs Q E hr h => ?_)
 ·obtain ⟨x, tp, n, ms, rfl, _⟩ := h
  rfl
 ·obtain ⟨x, tp, n, ms, rfl, hW, hok, q⟩ := h
  have hs : sizeLine = 16777216 := sizeLine_eq
  refine ⟨_, (pss_cons (ps_setCompf (i := 1) cs_why_no_row_0 rfl (pi_list (pe_cal C_pieces hr pass1 (pa_cons (pv 0) pa_nil))) (fun cl C s' H' fp => (pt_cmpR op_gt (pe_cal C_excess hr pass1 (pa_cons (pv 1) (pa_cons (pe_lst (pa_cons (pv 0) pa_nil)) pa_nil))) pe_int (nomark _))) (fun cl C s' H' fp => (pv 0)) sc_why_no_row.nd rfl rfl)
   (pss_cons (ps_if (pt_cmpR op_ge (pe_cal C_excess hr pass1 (pa_cons (pv 0) (pa_cons (pv 1) pa_nil))) pe_int (nomark _)) (pss_one (ps_ret (pe_tup (pa_cons (pe_strT [117, 110, 101, 118, 101, 110] (by decide +kernel)) (pa_cons (pe_callTy call_tuple_of (by rfl) tt.b_tuple (by decide +kernel) (pa_cons (pv 1) pa_nil)) pa_nil))))) pss_nil)
   (pss_one (ps_ret (pe_cal C_why_apart hr pass1 (pa_cons (pv 0) pa_nil)))))), ?_⟩
  (try rw [cxK2]); (try rw [cxK1])
  refine ⟨_, rfl, x, tp, n, ms, rfl, hW, hok, fun D1 ev H1 hD1 s1 hd1 hpw hpn hpm => ?_⟩
  have hpc : Pcs ms ev := ⟨hpw, hpn, hpm⟩
  have hel := pieces_few hpn fun z hz => (hpm z).mp hz
  have h64 := hok.2.1
  refine ⟨D1, rfl, ⟨_, SqL.of hd1⟩, ?_⟩
  refine compFG (fun v => decide (0 < exc ms [unT v])) (fun v => v) (reads_list (SqL.of hd1)) (by rw [List.length_map]; omega) (fun v H2 hv s2 N hN => ?_) (fun v H2 hv hp s2 N hN => ?_) fun D2 H2 hD2 s2 hd2 => ?_
  ·obtain ⟨l, hl, rfl⟩ := List.mem_map.mp hv
   refine ⟨_, rfl, _, rfl, (by show 1 ≤ sizeLine; omega), fun p3 hp3 => ?_⟩
   have t3 := same_upd (o := .lst ([l].map T)) hp3
   refine ⟨x, tp, p3, n, ms, [l], rfl, hW.on (s1.trans (s2.trans t3)), hok, .inl (SqL.of upd_same), fun H4 s4 => ?_⟩
   have z := hN H4 (t3.trans s4)
   rw [unT_T] at z
   exact ⟨_, _, rfl, rfl, _, rfl, z⟩
  ·exact ⟨_, rfl, hN H2 (Same.refl _)⟩
  rw [show (ev.map T).filter (fun v => decide (0 < exc ms [unT v])) = (abv ms ev).map T from filter_unT (p := fun l => decide (0 < exc ms [l])) ev, map_id_T] at hd2
  have s12 := s1.trans s2
  refine ⟨_, rfl, _, rfl, x, tp, D2, n, ms, abv ms ev, rfl, hW.on s12, hok, .inl (SqL.of hd2), fun H3 s3 => ?_⟩
  have s13 := s12.trans s3
  refine ⟨_, _, rfl, rfl, _, rfl, ?_⟩
  by_cases h2 : 2 ≤ exc ms (abv ms ev)
  ·refine itP (decide_eq_true h2) ?_
   refine ⟨_, rfl, D2, _, rfl, .inl ⟨SqL.of (s3 D2 _ hd2), fun b hb => ?_⟩⟩
   have t5 := same_upd (o := .tup ((abv ms ev).map T)) hb
   refine ⟨(by show 2 ≤ sizeLine; omega), fun pp hpp => ?_⟩
   have t6 := same_upd (o := .tup [T unev, .ref b]) hpp
   exact q ev _ _ _ hpc (.inl ⟨h2, rfl⟩) ⟨pp, b, rfl, upd_same, t6 b _ upd_same⟩ (s13.trans (t5.trans t6))
  ·refine itN (fun z => h2 (of_decide_eq_true z)) ?_
   refine ⟨_, rfl, x, tp, n, ms, rfl, hW.on s13, hok, fun eu r v H4 hpu hr' hv s4 => ?_⟩
   obtain rfl := hpu.uniq hpc (List.Perm.refl ms)
   exact q eu r v H4 hpc (.inr ⟨by omega, hr'⟩) hv (s13.trans s4)


noncomputable abbrev Tr (p : List Nat) (ls : List (List Nat)) (q : List Nat) : Prop := Hg.Tr beg En p ls q

theorem tr_exc {p q : List Nat} {ls ms so : List (List Nat)} (h : Tr p ls q) (hp : ms.Perm ls) : exc ms so = (if p ∈ so then 1 else 0) - (if q ∈ so then 1 else 0) := by
 rw [exc_perm hp]
 have := Hg.Tr.exc (fun z => decide (z ∈ so)) h
 unfold exc
 simpa using this
theorem tr_all {p q : List Nat} {ls ms : List (List Nat)} (h : Tr p ls q) (hp : ms.Perm ls) {z0 z : List Nat} (h0 : IsP ms z0) (h1 : IsP ms z) : Rc ms z0 z := by
 have key : ∀ z, IsP ms z → Rc ms p z := fun z hz => by
  obtain ⟨l, hl, g⟩ := hz
  have := Hg.Tr.rch (ms := ms) (p := p) h (fun w hw => hp.mem_iff.mpr hw) .self l (hp.mem_iff.mp hl)
  rcases g with rfl | rfl
  ·exact this.1
  ·exact this.2
 exact (key z0 h0).symm.trans (key z h1)
theorem rc_isP {ms : List (List Nat)} {p z : List Nat} (hp : IsP ms p) (h : Rc ms p z) : IsP ms z := by
 rcases Hg.rch_in h with rfl | g
 ·exact hp
 ·rcases List.mem_append.mp g with g | g
  ·obtain ⟨l, hl, e⟩ := List.mem_map.mp g
   exact ⟨l, hl, .inl e.symm⟩
  ·obtain ⟨l, hl, e⟩ := List.mem_map.mp g
   exact ⟨l, hl, .inr e.symm⟩
theorem whyA_none {p q : List Nat} {ls ms ev : List (List Nat)} {r : Pap} (h : Tr p ls q) (hp : ms.Perm ls) (hc : Pcs ms ev) (hw : WhyA ms ev r) : r = none := by
 obtain ⟨z0, so, a1, a2, a3, a4, rfl⟩ := hw
 have hz0 := (hc.2.2 z0).mp (List.mem_of_getElem? a1)
 rw [if_pos]
 refine ((List.perm_ext_iff_of_nodup a3 hc.2.1).mpr fun z => ?_).length_eq
 rw [a4, hc.2.2]
 exact ⟨fun g => rc_isP hz0 g, fun g => tr_all h hp hz0 g⟩
theorem whyR_none {p : List Nat} {ls ms ev : List (List Nat)} {r : Pap} (h : Tr p ls p) (hp : ms.Perm ls) (hc : Pcs ms ev) (hw : WhyR ms ev r) : r = none := by
 rcases hw with ⟨z, hz, _⟩ | ⟨_, hw⟩
 ·have := List.find?_some hz
  rw [tr_exc h hp, Int.sub_self] at this
  exact absurd this (by decide)
 ·exact whyA_none h hp hc hw
theorem whyW_none {p q : List Nat} {ls ms ev : List (List Nat)} {r : Pap} (h : Tr p ls q) (hp : ms.Perm ls) (hc : Pcs ms ev) (hw : WhyW ms ev r) : r = none := by
 rcases hw with ⟨g, _⟩ | ⟨_, hw⟩
 ·rw [tr_exc h hp] at g
  split at g <;> split at g <;> omega
 ·exact whyA_none h hp hc hw



theorem ne_filter {ls : List (List Nat)} (hn : ls.Nodup) (w : List Nat) : ls.filter (fun o => !decide (o = w)) = ls.erase w := by
 rw [hn.erase_eq_filter]
 refine List.filter_congr fun x _ => ?_
 by_cases h : x = w
 ·rw [decide_eq_true h, h]; simp
 ·rw [decide_eq_false h]; simp [h]
noncomputable def spWithout (K : PySem.W.Frag) : Sp := fun vs H Q _ => ∃ (a : Addr) (ls : List (List Nat)) (w : List Nat), vs = [.ref a, T w] ∧ SqL K H a (ls.map T) ∧ ls.length ≤ 1000 ∧ ls.Nodup ∧ ∀ (D : Addr) (H' : Hp), H D = none → Same H H' → H' D = some (.lst ((ls.erase w).map T)) → Q (.ref D) H'
theorem ok_without {f : Addr} {fd : FuncData} (F : Fun K "without" "without" s_without f fd) (tt : Txt K mg ad) : FnOk P w K mg base (CX1 P w) 1 f fd ["words", "word"] (spWithout K) := by
 refine F.okN sc_without (fun vs H Q E h => ?_) (fun cdv A outer s H vs Q E hr h => ?_)
 ·obtain ⟨a, ls, wd, rfl, _⟩ := h
  rfl
 ·obtain ⟨a, ls, wd, rfl, hS, hl, hnd, q⟩ := h
  have hs : sizeLine = 16777216 := sizeLine_eq
  refine ⟨_, (pss_one (ps_ret (pe_compf cs_without_0 rfl (pi_list (pv 0)) (fun cl C s' H' fp => (pt_cmpR op_ne_T (pv 0) (pv 2) (nomark _))) (fun cl C s' H' fp => (pv 0))))), ?_⟩
  (try rw [cxK2]); (try rw [cxK1])
  refine ⟨_, rfl, a, rfl, ⟨_, hS⟩, ?_⟩
  refine compFG (fun v => !decide (unT v = wd)) (fun v => v) (reads_list hS) (by rw [List.length_map]; omega) (fun v G5 hv s5 N hN => ?_) (fun v G5 hv hp s5 N hN => ?_) fun D5 G5 hD5 s5 hd5 => ?_
  ·obtain ⟨l, hl, rfl⟩ := List.mem_map.mp hv
   have z := hN G5 (Same.refl _)
   rw [unT_T] at z
   exact ⟨_, rfl, _, rfl, _, rfl, _, rfl, _, rfl, z⟩
  ·exact ⟨_, rfl, hN G5 (Same.refl _)⟩
  ·refine q D5 G5 hD5 s5 ?_
   rw [hd5, show (ls.map T).filter (fun v => !decide (unT v = wd)) = (ls.filter fun o => !decide (o = wd)).map T from filter_unT (p := fun o => !decide (o = wd)) ls, ne_filter hnd, List.map_id']


theorem rc_conn {ms : List (List Nat)} {p : List Nat} : (∀ e ∈ ms, Rc ms p (beg e)) ↔ Wd.Conn ms p := by
 constructor
 ·intro h χ hp hc e he
  have key : ∀ {z}, Rc ms p z → χ z := fun {z} hz => by
   induction hz with
   | self => exact hp
   | fw hw _ ih => exact (hc _ hw).mp ih
   | bw hw _ ih => exact (hc _ hw).mpr ih
  exact key (h e he)
 ·intro h e he
  exact h (fun z => Rc ms p z) .self (fun e he => ⟨fun z => .fw he z, fun z => .bw he z⟩) e he
noncomputable def spCanGo (K : PySem.W.Frag) : Sp := fun vs H Q _ => ∃ (a : Addr) (ms : List (List Nat)) (p : List Nat), vs = [.ref a, T p] ∧ SqL K H a (ms.map T) ∧ (ms.length ≤ 64 ∧ ∀ x ∈ ms, 1 ≤ x.length ∧ x.length ≤ 1000) ∧ ∀ (b : Bool) (H' : Hp), Same H H' → (b = true ↔ Wd.Conn ms p) → Q (.bl b) H'
theorem ok_can_go_on {f : Addr} {fd : FuncData} (F : Fun K "can_go_on" "can_go_on" s_can_go_on f fd) (tt : Txt K mg ad) (C_hanging_by : Cal P w K mg base (CX1 P w) "hanging_by" 2 ["words", "piece"] (spHBy K)) (C_begin_of : Cal P w K mg base (CX1 P w) "begin_of" 1 ["word"] spBegin) : FnOk P w K mg base (CX1 P w) 3 f fd ["left", "piece"] (spCanGo K) := by
 refine F.okN sc_can_go_on (fun vs H Q E h => ?_) (fun cdv A outer s H vs Q E hr h => ?_)
 ·obtain ⟨a, ms, p, rfl, _⟩ := h
  rfl
 ·obtain ⟨a, ms, p, rfl, hS, ⟨h64, hxl⟩, q⟩ := h
  have hs : sizeLine = 16777216 := sizeLine_eq
  refine ⟨_, (pss_cons (ps_set (i := 2) sc_can_go_on.nd rfl (Or.inr rfl) (pe_cal C_hanging_by hr pass1 (pa_cons (pv 0) (pa_cons (pv 1) pa_nil))))
   (pss_one (ps_ret (pe_callB (call_allB rfl) (by rfl) tt.b_all PyProof.Rows.boot_all (pa_cons (pe_comp cs_can_go_on_0 rfl (pi_list (pv 0)) (fun cl C s' H' fp => (pe_cmp (pc_din (hu_of hr) (pe_cal C_begin_of hr pass1 (pa_cons (pv 0) pa_nil)) (pv 3))))) pa_nil))))), ?_⟩
  (try rw [cxK2]); (try rw [cxK1])
  refine ⟨_, rfl, _, rfl, a, ms, p, rfl, .inl hS, ⟨h64, hxl⟩, fun D H1 ls hD s1 hd1 hln hlm => ?_⟩
  refine ⟨_, rfl, a, rfl, ⟨_, s1.seq hS⟩, ?_⟩
  refine compG (fun v => V.bl (decide (beg (unT v) ∈ ls))) (reads_list (s1.seq hS)) (by rw [List.length_map]; omega) (fun v G5 hv s5 N hN => ?_) fun D5 G5 hD5 s5 hd5 => ?_
  ·obtain ⟨wd, hwd, rfl⟩ := List.mem_map.mp hv
   have g := hN G5 (Same.refl _)
   rw [unT_T] at g
   have hdx : DGet G5 D (T (beg wd)) (if beg wd ∈ ls then some (.bl true) else none) := by have g := DGet.k (k := Sum.inr (tx (beg wd))) (s5 D _ hd1); rwa [val_tKs] at g
   refine ⟨_, rfl, wd, rfl, hxl wd hwd, _, rfl, D, _, rfl, hdx, ?_⟩
   rw [show (if beg wd ∈ ls then some (V.bl true) else none).isSome = decide (beg wd ∈ ls) by by_cases h : beg wd ∈ ls <;> simp [h]]
   exact g
  ·have hd5 : G5 D5 = some (.lst ((ms.map fun w => decide (beg w ∈ ls)).map V.bl)) := by
    rw [hd5, List.map_map, List.map_map]
    refine congrArg (fun l => some (HO.lst l)) (List.map_congr_left fun m _ => ?_)
    show V.bl (decide (beg (unT (T m)) ∈ ls)) = _
    rw [unT_T]
    rfl
   refine ⟨D5, _, rfl, SqL.of hd5, ?_⟩
   refine q _ _ (s1.trans s5) ?_
   rw [List.all_map, List.all_eq_true, ← rc_conn]
   exact ⟨fun h e he => (hlm _).mp (of_decide_eq_true (h e he)), fun h e he => decide_eq_true ((hlm _).mpr (h e he))⟩


theorem at_last {w : List Nat} (h : 1 ≤ w.length) : atI w (-1) = some (Wd.lastL w) := by
 show (ixN w.length (-1)).bind _ = _
 unfold ixN
 rw [if_neg (by decide), if_pos (by omega), show ((-1 : Int) + ((w.length : Nat) : Int)).toNat = w.length - 1 by omega]
 show w[w.length - 1]? = _
 unfold Wd.lastL
 rw [List.getD_eq_getElem?_getD, List.getElem?_eq_getElem (by omega)]
 rfl

noncomputable def cgo (ms : List (List Nat)) (e : List Nat) : Bool := @decide (Wd.Conn (ms.erase e) (Wd.fin e)) (Classical.propDecidable _)
theorem cgo_iff {ms : List (List Nat)} {e : List Nat} : cgo ms e = true ↔ Wd.Conn (ms.erase e) (Wd.fin e) := @decide_eq_true_iff _ (Classical.propDecidable _)
noncomputable def Sorted (ms : List (List Nat)) : Prop := ms.Pairwise (fun a b => ¬ b < a)
noncomputable def spStep (K : PySem.W.Frag) : Sp := fun vs H Q _ => ∃ (a : Addr) (ms : List (List Nat)) (p : List Nat), vs = [.ref a, T p] ∧ SqL K H a (ms.map T) ∧ (ms.length ≤ 64 ∧ ∀ x ∈ ms, 1 ≤ x.length ∧ x.length ≤ 1000) ∧ ms.Nodup ∧ Sorted ms ∧ (∃ e ∈ ms, Wd.beg e = p ∧ Wd.Conn (ms.erase e) (Wd.fin e)) ∧ ∀ (e : List Nat) (H' : Hp), Same H H' → Wd.Stp ms p e → Q (T e) H'
theorem ok_least_step {f : Addr} {fd : FuncData} (F : Fun K "least_step" "least_step" s_least_step f fd) (tt : Txt K mg ad) (C_can_go_on : Cal P w K mg base (CX1 P w) "can_go_on" 3 ["left", "piece"] (spCanGo K)) (C_without : Cal P w K mg base (CX1 P w) "without" 1 ["words", "word"] (spWithout K)) (C_begin_of : Cal P w K mg base (CX1 P w) "begin_of" 1 ["word"] spBegin) (C_end_of : Cal P w K mg base (CX1 P w) "end_of" 1 ["word"] spEnd) : FnOk P w K mg base (CX1 P w) 4 f fd ["left", "piece"] (spStep K) := by
 refine F.okN sc_least_step (fun vs H Q E h => ?_) (fun cdv A outer s H vs Q E hr h => ?_)
 ·obtain ⟨a, ms, p, rfl, _⟩ := h
  rfl
 ·obtain ⟨a, ms, p, rfl, hS, ⟨h64, hxl⟩, hnd, hso, ⟨e0, he0, hb0, hc0⟩, q⟩ := h
  have hs : sizeLine = 16777216 := sizeLine_eq
  refine ⟨_, (pss_cons (ps_setCompf (i := 2) cs_least_step_0 rfl (pi_list (pv 0)) (fun cl C s' H' fp => (pt_cmpR op_eq_T (pe_cal C_begin_of hr pass1 (pa_cons (pv 0) pa_nil)) (pv 2) (nomark _))) (fun cl C s' H' fp => (pv 0)) sc_least_step.nd rfl rfl)
   (pss_cons (ps_setCompf (i := 3) cs_least_step_1 rfl (pi_list (pv 2)) (fun cl C s' H' fp => (pt_val (pe_cal C_can_go_on hr pass1 (pa_cons (pe_cal C_without hr pass1 (pa_cons (pv 1) (pa_cons (pv 0) pa_nil))) (pa_cons (pe_cal C_end_of hr pass1 (pa_cons (pv 0) pa_nil)) pa_nil))))) (fun cl C s' H' fp => (pv 0)) sc_least_step.nd rfl rfl)
   (pss_one (ps_ret (pe_ix ix_list (pv 3) pe_int (fun _ _ => rfl)))))), ?_⟩
  (try rw [cxK2]); (try rw [cxK1])
  refine ⟨_, rfl, a, rfl, ⟨_, hS⟩, ?_⟩
  refine compFG (fun v => decide (Wd.beg (unT v) = p)) (fun v => v) (reads_list hS) (by rw [List.length_map]; omega) (fun v G5 hv s5 N hN => ?_) (fun v G5 hv hp s5 N hN => ?_) fun D1 G1 hD1 s1 hd1 => ?_
  ·obtain ⟨l, hl, rfl⟩ := List.mem_map.mp hv
   have z := hN G5 (Same.refl _)
   rw [unT_T] at z
   exact ⟨_, rfl, l, rfl, hxl l hl, _, rfl, _, rfl, _, rfl, _, rfl, z⟩
  ·exact ⟨_, rfl, hN G5 (Same.refl _)⟩
  rw [show (ms.map T).filter (fun v => decide (Wd.beg (unT v) = p)) = (ms.filter fun l => decide (Wd.beg l = p)).map T from filter_unT (p := fun l => decide (Wd.beg l = p)) ms, map_id_T] at hd1
  refine ⟨_, rfl, D1, rfl, ⟨_, SqL.of hd1⟩, ?_⟩
  refine compFG (fun v => cgo ms (unT v)) (fun v => v) (reads_list (SqL.of hd1)) (by rw [List.length_map]; exact Nat.le_trans (List.length_filter_le ..) (by omega)) (fun v G5 hv s5 N hN => ?_) (fun v G5 hv hp s5 N hN => ?_) fun D2 G2 hD2 s2 hd2 => ?_
  ·obtain ⟨l, hl, rfl⟩ := List.mem_map.mp hv
   have hlm := (List.mem_filter.mp hl).1
   refine ⟨_, rfl, _, rfl, a, ms, l, rfl, (s1.trans s5).seq hS, (by omega), hnd, fun D6 G6 hD6 s6 hd6 => ?_⟩
   refine ⟨_, rfl, l, rfl, hxl l hlm, D6, ms.erase l, _, rfl, SqL.of hd6, ⟨Nat.le_trans (List.length_erase_le ..) h64, fun x hx => hxl x (List.mem_of_mem_erase hx)⟩, fun b G7 s7 hb => ?_⟩
   have z := hN G7 (s6.trans s7)
   rw [unT_T] at z
   obtain rfl : b = cgo ms l := Bool.eq_iff_iff.mpr (hb.trans cgo_iff.symm)
   exact ⟨_, rfl, z⟩
  ·exact ⟨_, rfl, hN G5 (Same.refl _)⟩
  rw [show ((ms.filter fun l => decide (Wd.beg l = p)).map T).filter (fun v => cgo ms (unT v)) = ((ms.filter fun l => decide (Wd.beg l = p)).filter (cgo ms)).map T from filter_unT (p := cgo ms) _, map_id_T] at hd2
  have hm0 : e0 ∈ (ms.filter fun l => decide (Wd.beg l = p)).filter (cgo ms) := List.mem_filter.mpr ⟨List.mem_filter.mpr ⟨he0, decide_eq_true hb0⟩, cgo_iff.mpr hc0⟩
  have hfs := (hso.filter fun l => decide (Wd.beg l = p)).filter (cgo ms)
  have hfm : ∀ y, y ∈ (ms.filter fun l => decide (Wd.beg l = p)).filter (cgo ms) ↔ (y ∈ ms ∧ Wd.beg y = p) ∧ Wd.Conn (ms.erase y) (Wd.fin y) := fun y => by rw [List.mem_filter, List.mem_filter, decide_eq_true_iff, cgo_iff]
  generalize (ms.filter fun l => decide (Wd.beg l = p)).filter (cgo ms) = fs at hd2 hm0 hfs hfm
  cases fs with
  | nil => cases hm0
  | cons e r =>
   refine ⟨_, rfl, D2, _, _, _, rfl, rfl, SqL.of hd2, atI_nat (j := 0) rfl, ?_⟩
   obtain ⟨⟨h1, h2⟩, h3⟩ := (hfm e).mp (List.mem_cons_self ..)
   refine q e _ (s1.trans s2) ⟨h1, h2, h3, fun y hy hb hc => ?_⟩
   rcases List.mem_cons.mp ((hfm y).mpr ⟨⟨hy, hb⟩, hc⟩) with rfl | g
   ·exact Wd.ltir _
   ·exact (List.pairwise_cons.mp hfs).1 y g


noncomputable def spWay (C : Addr) : Sp := fun vs H Q _ => ∃ (x tp : Addr) (n : Nat) (ms : List (List Nat)) (p t : List Nat), vs = [.ref x, T p] ∧ WebAt C H x tp n ms ∧ WebOk ms n ∧ Sorted ms ∧ p.length = n - 1 ∧ Wd.Bal ms p t ∧ Wd.Conn ms p ∧ ∀ (us : List (List Nat)) (H' : Hp), Same H H' → Wd.Lw ms p us → Q (T (p ++ us.map Wd.lastL)) H'
theorem ok_least_way {f : Addr} {fd : FuncData} (F : Fun K "least_way" "least_way" s_least_way f fd) (tt : Txt K mg ad) (C_least_step : Cal P w K mg base (CX1 P w) "least_step" 4 ["left", "piece"] (spStep K)) (C_without : Cal P w K mg base (CX1 P w) "without" 1 ["words", "word"] (spWithout K)) (C_end_of : Cal P w K mg base (CX1 P w) "end_of" 1 ["word"] spEnd) : FnOk P w K mg base (CX1 P w) 5 f fd ["web", "piece"] (spWay ad.Web) := by
 refine F.okN sc_least_way (fun vs H Q E h => ?_) (fun cdv A outer s H vs Q E hr h => ?_)
 ·obtain ⟨x, tp, n, ms, p, t, rfl, _⟩ := h
  rfl
 ·obtain ⟨x, tp, n, ms, p, t, rfl, hW, hok, hso, hpl, hbal, hcon, q⟩ := h
  have hs : sizeLine = 16777216 := sizeLine_eq
  have hu := Nat.lt_of_succ_lt (hu_of hr)
  obtain ⟨⟨dx, hx⟩, htp⟩ := id hW
  obtain ⟨hne, h64, hn, hxs, hnd⟩ := id hok
  refine ⟨_, (pss_cons (ps_set (i := 2) sc_least_way.nd rfl (Or.inl rfl) (pv 1))
   (pss_cons (ps_set (i := 3) sc_least_way.nd rfl (Or.inl rfl) (pv 1))
   (pss_cons (ps_set (i := 4) sc_least_way.nd rfl (Or.inl rfl) (pe_callTy call_list_of (by rfl) tt.b_list (by decide +kernel) (pa_cons (pe_fld (pv 0) rfl) pa_nil)))
   (pss_cons (ps_while PassesOwn.never (pt_cmpR (op_ne_L0 K rfl hu) (pv 4) (pe_lst pa_nil) (nomark _)) (pss_cons (ps_set (i := 5) sc_least_way.nd rfl (Or.inl rfl) (pe_cal C_least_step hr pass1 (pa_cons (pv 4) (pa_cons (pv 3) pa_nil))))
   (pss_cons (ps_set (i := 2) sc_least_way.nd rfl (Or.inl rfl) (pe_op op_add_T (pv 2) (pe_ix ix_T (pv 5) (pe_un un_neg pe_int) (fun _ _ => rfl))))
   (pss_cons (ps_set (i := 3) sc_least_way.nd rfl (Or.inl rfl) (pe_cal C_end_of hr pass1 (pa_cons (pv 5) pa_nil)))
   (pss_one (ps_set (i := 4) sc_least_way.nd rfl (Or.inl rfl) (pe_cal C_without hr pass1 (pa_cons (pv 4) (pa_cons (pv 5) pa_nil)))))))))
   (pss_one (ps_ret (pv 2))))))), ?_⟩
  (try rw [cxK2]); (try rw [cxK1])
  refine ⟨_, rfl, ?_⟩
  refine ⟨_, rfl, ?_⟩
  refine ⟨_, rfl, x, ad.Web, dx, _, _, rfl, hx, tt.cl_Web, tt.na_Web_words, flds_w _ _, tp, _, rfl, .inr (SqT.of htp), fun L0 hL0 => ?_⟩
  have t0 := same_upd (o := .lst (ms.map T)) hL0
  refine ⟨fun m σ G => ∃ (Lf : Addr) (lf gs : List (List Nat)) (at' : List Nat) (v5 : Option V), m = lf.length ∧ Same H G ∧ G Lf = some (.lst (lf.map T)) ∧ (∀ y ∈ lf, y ∈ ms) ∧ lf.Nodup ∧ Sorted lf ∧ Wd.Bal lf at' t ∧ Wd.Conn lf at' ∧ (∀ us, Wd.Lw lf at' us → Wd.Lw ms p (gs ++ us)) ∧ gs.length + lf.length = ms.length ∧ σ = [some (.ref x), some (T p), some (T (p ++ gs.map Wd.lastL)), some (T at'), some (.ref Lf), v5],
   ⟨_, L0, ms, [], p, none, rfl, t0, upd_same, fun y hy => hy, hnd, hso, hbal, hcon, fun us h => h, by simp, by rw [List.map_nil, List.append_nil]; rfl⟩, ?_⟩
  rintro m σ G ⟨Lf, lf, gs, at', v5, hm, sG, hL, hsub, hlnd, hlso, hb, hc, hlw, hlen, rfl⟩
  refine ⟨_, rfl, (by show 0 ≤ sizeLine; omega), fun E0 hE0 => ?_⟩
  have tE := same_upd (o := .lst []) hE0
  refine ⟨Lf, E0, _, rfl, rfl, SqL.of (tE Lf _ hL), SqL.of upd_same, _, rfl, ?_⟩
  by_cases hle : lf = []
  ·subst hle
   refine iteF ?_
   refine ⟨_, rfl, ?_⟩
   have h1 := hlw [] .nil
   rw [List.append_nil] at h1
   exact q gs _ (sG.trans tE) h1
  ·refine itP (by cases lf with | nil => exact absurd rfl hle | cons y r => rfl) ?_
   refine ⟨_, fun σ' H' z => z, ?_⟩
   refine ⟨_, rfl, _, rfl, Lf, lf, at', rfl, SqL.of (tE Lf _ hL), ⟨by omega, fun y hy => by have := (hxs y (hsub y hy)).1; omega⟩, hlnd, hlso, Wd.fleury hb hc hle, fun e G1 s1 hst => ?_⟩
   have hel := (hxs e (hsub e hst.1)).1
   have h0 : 0 < lf.length := List.length_pos_iff.mpr hle
   have sG1 := tE.trans s1
   refine ⟨_, rfl, _, rfl, _, rfl, _, rfl, _, rfl, (by omega), _, at_last (by omega), _, rfl, _, rfl, (by rw [List.length_append, List.length_map, hpl]; show n - 1 + gs.length + 1 ≤ sizeLine; omega), ?_⟩
   refine ⟨_, rfl, e, rfl, ⟨by omega, by omega⟩, ?_⟩
   refine ⟨_, rfl, _, rfl, Lf, lf, e, rfl, SqL.of (sG1 Lf _ hL), (by omega), hlnd, fun D2 G2 hD2 s2 hd2 => ?_⟩
   have hle1 := List.length_erase_of_mem hst.1
   refine ⟨(lf.erase e).length, by omega, D2, lf.erase e, gs ++ [e], Wd.fin e, some (T e), rfl, sG.trans (sG1.trans s2), hd2, fun y hy => hsub y (List.mem_of_mem_erase hy), hlnd.erase e, hlso.sublist (List.erase_sublist ..), hb.step hst.1 hst.2.1, hst.2.2.1, fun us h => ?_, by rw [List.length_append, List.length_singleton]; omega, ?_⟩
   ·rw [List.append_assoc]
    exact hlw _ (.cons hst h)
   ·rw [List.map_append, ← List.append_assoc]
    rfl


noncomputable def WayOf (us ms : List (List Nat)) (p q : List Nat) : Prop := Hg.Tr Wd.beg Wd.fin p us q ∧ us.Perm ms
noncomputable def spEnds (C : Addr) : Sp := fun vs H Q _ => ∃ (x tp : Addr) (n : Nat) (ms us : List (List Nat)) (p q : List Nat), vs = [.ref x] ∧ WebAt C H x tp n ms ∧ WebOk ms n ∧ WayOf us ms p q ∧ ∀ (v : V) (H' : Hp), Same H H' → (p = q → v = .non) → (p ≠ q → ∃ d, v = .ref d ∧ H' d = some (.tup [T p, T q])) → Q v H'
theorem way_exc {us ms : List (List Nat)} {p q z : List Nat} (h : WayOf us ms p q) : exc ms [z] = (if p = z then 1 else 0) - (if q = z then 1 else 0) := by
 have := tr_exc (so := [z]) (show Tr p us q from h.1) h.2.symm
 rw [this]
 simp only [List.mem_singleton]
theorem way_isP {us ms : List (List Nat)} {p q : List Nat} (h : WayOf us ms p q) (hne : ms ≠ []) : IsP ms p ∧ IsP ms q := by
 have hu : us ≠ [] := fun z => hne (List.perm_nil.mp (z ▸ h.2).symm)
 constructor
 ·cases us with
  | nil => exact absurd rfl hu
  | cons w us => exact ⟨w, h.2.mem_iff.mp (List.mem_cons_self ..), .inl h.1.1.symm⟩
 ·have e := Wd.Tr.lst h.1 hu
  have hm : Wd.lst us ∈ us := by
   unfold Wd.lst
   have h0 := List.length_pos_iff.mpr hu
   rw [List.getD_eq_getElem?_getD, List.getElem?_eq_getElem (by omega)]
   exact List.getElem_mem (by omega)
  exact ⟨_, h.2.mem_iff.mp hm, .inr e⟩
theorem ok_row_ends {f : Addr} {fd : FuncData} (F : Fun K "row_ends" "row_ends" s_row_ends f fd) (tt : Txt K mg ad) (C_why_no_row : Cal P w K mg base (CX1 P w) "why_no_row" 5 ["web"] (spWhyW ad.Web)) (C_why_no_ring : Cal P w K mg base (CX1 P w) "why_no_ring" 5 ["web"] (spWhyR ad.Web)) (C_pieces : Cal P w K mg base (CX1 P w) "pieces" 2 ["web"] (spPieces ad.Web)) (C_excess : Cal P w K mg base (CX1 P w) "excess" 2 ["web", "some"] (spExcess K ad.Web)) :
  FnOk P w K mg base (CX1 P w) 6 f fd ["web"] (spEnds ad.Web) := by
 refine F.okN sc_row_ends (fun vs H Q E h => ?_) (fun cdv A outer s H vs Q E hr h => ?_)
 ·obtain ⟨x, tp, n, ms, us, p, q', rfl, _⟩ := h
  rfl
 ·obtain ⟨x, tp, n, ms, us, p, q', rfl, hW, hok, hway, q⟩ := h
  have hs : sizeLine = 16777216 := sizeLine_eq
  have htr : Tr p us q' := hway.1
  have hpm := hway.2.symm
  have h64 := hok.2.1
  refine ⟨_, (pss_cons (ps_set (i := 1) sc_row_ends.nd rfl (Or.inl rfl) (pe_cal C_why_no_row hr pass1 (pa_cons (pv 0) pa_nil)))
   (pss_cons (ps_if (pt_cmp (pc_notN (pv 1))) (pss_one ps_false) pss_nil)
   (pss_cons (ps_if (pt_cmp (pc_isN (pe_cal C_why_no_ring hr pass1 (pa_cons (pv 0) pa_nil)))) (pss_one (ps_ret pe_non)) pss_nil)
   (pss_cons (ps_setCompf (i := 2) cs_row_ends_0 rfl (pi_list (pe_cal C_pieces hr pass1 (pa_cons (pv 0) pa_nil))) (fun cl C s' H' fp => (pt_cmpR op_gt (pe_cal C_excess hr pass1 (pa_cons (pv 1) (pa_cons (pe_lst (pa_cons (pv 0) pa_nil)) pa_nil))) pe_int (nomark _))) (fun cl C s' H' fp => (pv 0)) sc_row_ends.nd rfl rfl)
   (pss_cons (ps_setCompf (i := 3) cs_row_ends_1 rfl (pi_list (pe_cal C_pieces hr pass1 (pa_cons (pv 0) pa_nil))) (fun cl C s' H' fp => (pt_cmpR op_lt (pe_cal C_excess hr pass1 (pa_cons (pv 1) (pa_cons (pe_lst (pa_cons (pv 0) pa_nil)) pa_nil))) pe_int (nomark _))) (fun cl C s' H' fp => (pv 0)) sc_row_ends.nd rfl rfl)
   (pss_one (ps_ret (pe_tup (pa_cons (pe_ix ix_list (pv 2) pe_int (fun _ _ => rfl)) (pa_cons (pe_ix ix_list (pv 3) pe_int (fun _ _ => rfl)) pa_nil)))))))))), ?_⟩
  (try rw [cxK2]); (try rw [cxK1])
  refine ⟨_, rfl, x, tp, n, ms, rfl, hW, hok, fun ev r v H1 hpc hwy hv s1 => ?_⟩
  obtain rfl := whyW_none htr hpm hpc hwy
  obtain rfl : v = .non := hv
  refine ⟨_, rfl, _, rfl, iteF ?_⟩
  refine ⟨_, rfl, x, tp, n, ms, rfl, hW.on s1, hok, fun ev2 r2 v2 H2 hpc2 hwy2 hv2 s2 => ?_⟩
  have s12 := s1.trans s2
  by_cases hpq : p = q'
  ·subst hpq
   obtain rfl := whyR_none htr hpm hpc2 hwy2
   obtain rfl : v2 = .non := hv2
   refine ⟨_, rfl, iteT ?_⟩
   exact q .non H2 s12 (fun _ => rfl) (fun z => absurd rfl z)
  ·obtain ⟨hp1, hq1⟩ := way_isP hway hok.1
   have hv3 : v2 ≠ .non := fun z => by
    have hex : ¬ exc ms [p] = 0 := by rw [way_exc hway, if_pos rfl, if_neg (fun z => hpq z.symm)]; decide
    rcases hwy2 with ⟨y, _, rfl⟩ | ⟨g, _⟩
    ·obtain ⟨p1, b1, e1, _⟩ := hv2
     rw [z] at e1
     cases e1
    ·have := List.find?_eq_none.mp g p ((hpc2.2.2 p).mpr hp1)
     rw [decide_eq_false hex] at this
     exact this rfl
   refine ⟨_, rfl, itN (by rw [decide_eq_false hv3]; exact Bool.false_ne_true) ?_⟩
   have key : ∀ (ev : List (List Nat)) (z : List Nat) (g : List Nat → Bool), ev.Nodup → z ∈ ev → (∀ y ∈ ev, g y = true ↔ y = z) → ev.filter g = [z] := fun ev z g h1 h2 h3 => Wd.filter_one h1 h2 h3
   refine ⟨_, rfl, x, tp, n, ms, rfl, hW.on s12, hok, fun D1 e1 H3 hD1 s3 hd3 hpw hpn hpm1 => ?_⟩
   have hel := pieces_few hpn fun z hz => (hpm1 z).mp hz
   have s13 := s12.trans s3
   refine ⟨D1, rfl, ⟨_, SqL.of hd3⟩, ?_⟩
   refine compFG (fun v => decide (0 < exc ms [unT v])) (fun v => v) (reads_list (SqL.of hd3)) (by rw [List.length_map]; omega) (fun v G hv sg N hN => ?_) (fun v G hv hp sg N hN => ?_) fun D2 H4 hD2 s4 hd4 => ?_
   ·obtain ⟨l, hl, rfl⟩ := List.mem_map.mp hv
    refine ⟨_, rfl, _, rfl, (by show 1 ≤ sizeLine; omega), fun p3 hp3 => ?_⟩
    have t3 := same_upd (o := .lst ([l].map T)) hp3
    refine ⟨x, tp, p3, n, ms, [l], rfl, hW.on (s13.trans (sg.trans t3)), hok, .inl (SqL.of upd_same), fun H4 s4 => ?_⟩
    have z := hN H4 (t3.trans s4)
    rw [unT_T] at z
    exact ⟨_, _, rfl, rfl, _, rfl, z⟩
   ·exact ⟨_, rfl, hN G (Same.refl _)⟩
   rw [show (e1.map T).filter (fun v => decide (0 < exc ms [unT v])) = (e1.filter fun l => decide (0 < exc ms [l])).map T from filter_unT (p := fun l => decide (0 < exc ms [l])) e1, map_id_T, key e1 p _ hpn ((hpm1 p).mpr hp1) (fun y _ => by
    rw [decide_eq_true_iff, way_exc hway]
    by_cases h1 : p = y
    ·subst h1
     rw [if_pos rfl, if_neg (fun z => hpq z.symm)]
     simp
    ·rw [if_neg h1]
     exact ⟨fun z => by split at z <;> omega, fun z => absurd z.symm h1⟩)] at hd4
   have s14 := s13.trans s4
   refine ⟨_, rfl, x, tp, n, ms, rfl, hW.on s14, hok, fun D3 e2 H5 hD3 s5 hd5 hpw2 hpn2 hpm2 => ?_⟩
   have hel2 := pieces_few hpn2 fun z hz => (hpm2 z).mp hz
   have s15 := s14.trans s5
   refine ⟨D3, rfl, ⟨_, SqL.of hd5⟩, ?_⟩
   refine compFG (fun v => decide (exc ms [unT v] < 0)) (fun v => v) (reads_list (SqL.of hd5)) (by rw [List.length_map]; omega) (fun v G hv sg N hN => ?_) (fun v G hv hp sg N hN => ?_) fun D4 H6 hD4 s6 hd6 => ?_
   ·obtain ⟨l, hl, rfl⟩ := List.mem_map.mp hv
    refine ⟨_, rfl, _, rfl, (by show 1 ≤ sizeLine; omega), fun p3 hp3 => ?_⟩
    have t3 := same_upd (o := .lst ([l].map T)) hp3
    refine ⟨x, tp, p3, n, ms, [l], rfl, hW.on (s15.trans (sg.trans t3)), hok, .inl (SqL.of upd_same), fun H4 s4 => ?_⟩
    have z := hN H4 (t3.trans s4)
    rw [unT_T] at z
    exact ⟨_, _, rfl, rfl, _, rfl, z⟩
   ·exact ⟨_, rfl, hN G (Same.refl _)⟩
   rw [show (e2.map T).filter (fun v => decide (exc ms [unT v] < 0)) = (e2.filter fun l => decide (exc ms [l] < 0)).map T from filter_unT (p := fun l => decide (exc ms [l] < 0)) e2, map_id_T, key e2 q' _ hpn2 ((hpm2 q').mpr hq1) (fun y _ => by
    rw [decide_eq_true_iff, way_exc hway]
    by_cases h1 : q' = y
    ·subst h1
     rw [if_pos rfl, if_neg hpq]
     simp
    ·rw [if_neg h1]
     exact ⟨fun z => by split at z <;> omega, fun z => absurd z.symm h1⟩)] at hd6
   refine ⟨_, rfl, D2, _, _, _, rfl, rfl, SqL.of (s6 D2 _ (s5 D2 _ hd4)), atI_nat (j := 0) rfl, _, rfl, D4, _, _, _, rfl, rfl, SqL.of hd6, atI_nat (j := 0) rfl, (by show 2 ≤ sizeLine; omega), fun d hd => ?_⟩
   exact q _ _ (s15.trans (s6.trans (same_upd hd))) (fun z => absurd z hpq) (fun _ => ⟨d, rfl, upd_same⟩)


theorem way_bal {us ms : List (List Nat)} {p q : List Nat} (h : WayOf us ms p q) : Wd.Bal ms p q ∧ Wd.Conn ms p := ⟨(Wd.tr_bal h.1).perm h.2, (Wd.tr_conn h.1).perm h.2⟩
theorem way_turn {us ms : List (List Nat)} {p m0 : List Nat} (h : WayOf us ms p p) (hm : m0 ∈ ms) : ∃ vs, WayOf vs ms (Wd.beg m0) (Wd.beg m0) := by
 obtain ⟨vs, h1, h2⟩ := Wd.tr_turn h.1 h.2 hm
 exact ⟨_, h1, h2⟩
noncomputable def spLRow (C : Addr) : Sp := fun vs H Q _ => ∃ (x tp : Addr) (n : Nat) (ms us : List (List Nat)) (p q m0 : List Nat), vs = [.ref x] ∧ WebAt C H x tp n ms ∧ WebOk ms n ∧ Sorted ms ∧ WayOf us ms p q ∧ p.length = n - 1 ∧ ms[0]? = some m0 ∧
 (p = q → ∀ (vs : List (List Nat)) (H' : Hp), Same H H' → Wd.Lw ms (Wd.beg m0) vs → Q (T (Wd.beg m0 ++ vs.map Wd.lastL)) H') ∧ (p ≠ q → ∀ (vs : List (List Nat)) (H' : Hp), Same H H' → Wd.Lw ms p vs → Q (T (p ++ vs.map Wd.lastL)) H')
theorem ok_least_row {f : Addr} {fd : FuncData} (F : Fun K "least_row" "least_row" s_least_row f fd) (tt : Txt K mg ad) (C_row_ends : Cal P w K mg base (CX1 P w) "row_ends" 6 ["web"] (spEnds ad.Web)) (C_least_way : Cal P w K mg base (CX1 P w) "least_way" 5 ["web", "piece"] (spWay ad.Web)) (C_begin_of : Cal P w K mg base (CX1 P w) "begin_of" 1 ["word"] spBegin) : FnOk P w K mg base (CX1 P w) 7 f fd ["web"] (spLRow ad.Web) := by
 refine F.okN sc_least_row (fun vs H Q E h => ?_) (fun cdv A outer s H vs Q E hr h => ?_)
 ·obtain ⟨x, tp, n, ms, us, p, q', m0, rfl, _⟩ := h
  rfl
 ·obtain ⟨x, tp, n, ms, us, p, q', m0, rfl, hW, hok, hso, hway, hpl, hm0, q1, q2⟩ := h
  have hs : sizeLine = 16777216 := sizeLine_eq
  obtain ⟨⟨dx, hx⟩, htp⟩ := id hW
  have hm0m := List.mem_of_getElem? hm0
  have hm0l := (hok.2.2.2.1 m0 hm0m).1
  have hn := hok.2.2.1
  refine ⟨_, (pss_cons (ps_set (i := 1) sc_least_row.nd rfl (Or.inl rfl) (pe_cal C_row_ends hr pass1 (pa_cons (pv 0) pa_nil)))
   (pss_cons (ps_if (pt_cmp (pc_isN (pv 1))) (pss_one (ps_ret (pe_cal C_least_way hr pass1 (pa_cons (pv 0) (pa_cons (pe_cal C_begin_of hr pass1 (pa_cons (pe_ix ix_tup (pe_fld (pv 0) rfl) pe_int (fun _ _ => rfl)) pa_nil)) pa_nil))))) pss_nil)
   (pss_one (ps_ret (pe_cal C_least_way hr pass1 (pa_cons (pv 0) (pa_cons (pe_ix ix_tup (pv 1) pe_int (fun _ _ => rfl)) pa_nil))))))), ?_⟩
  (try rw [cxK2]); (try rw [cxK1])
  refine ⟨_, rfl, x, tp, n, ms, us, p, q', rfl, hW, hok, hway, fun v H1 s1 h1 h2 => ?_⟩
  by_cases hpq : p = q'
  ·obtain rfl := h1 hpq
   refine ⟨_, rfl, _, rfl, iteT ?_⟩
   obtain ⟨vs, hv⟩ := way_turn (hpq ▸ hway) hm0m
   obtain ⟨b1, b2⟩ := way_bal hv
   refine ⟨_, rfl, _, rfl, x, ad.Web, dx, _, _, rfl, s1 x _ hx, tt.cl_Web, tt.na_Web_words, flds_w _ _, tp, _, _, _, rfl, rfl, SqT.of (s1 tp _ htp), atI_nat (j := 0) (by rw [List.getElem?_map, hm0]; rfl), m0, rfl, ⟨by omega, by omega⟩, x, tp, n, ms, Wd.beg m0, Wd.beg m0, rfl, hW.on s1, hok, hso, by rw [Wd.beg_len, hm0l], b1, b2, fun us' H2 s2 hl => q1 hpq us' H2 (s1.trans s2) hl⟩
  ·obtain ⟨d, rfl, hd⟩ := h2 hpq
   refine ⟨_, rfl, _, rfl, iteF ?_⟩
   obtain ⟨b1, b2⟩ := way_bal hway
   exact ⟨_, rfl, _, rfl, d, _, _, _, rfl, rfl, SqT.of hd, atI_nat (j := 0) rfl, x, tp, n, ms, p, q', rfl, hW.on s1, hok, hso, hpl, b1, b2, fun us' H2 s2 hl => q2 hpq us' H2 (s1.trans s2) hl⟩


noncomputable def spLRing (C : Addr) : Sp := fun vs H Q _ => ∃ (x tp : Addr) (n : Nat) (ms us : List (List Nat)) (p m0 : List Nat), vs = [.ref x] ∧ WebAt C H x tp n ms ∧ WebOk ms n ∧ Sorted ms ∧ WayOf us ms p p ∧ p.length = n - 1 ∧ ms[0]? = some m0 ∧
 ∀ (vs : List (List Nat)) (H' : Hp), Same H H' → Wd.Lw ms (Wd.beg m0) vs → Q (T ((Wd.beg m0 ++ vs.map Wd.lastL).take ms.length)) H'
theorem ok_least_ring {f : Addr} {fd : FuncData} (F : Fun K "least_ring" "least_ring" s_least_ring f fd) (tt : Txt K mg ad) (C_why_no_ring : Cal P w K mg base (CX1 P w) "why_no_ring" 5 ["web"] (spWhyR ad.Web)) (C_least_row : Cal P w K mg base (CX1 P w) "least_row" 7 ["web"] (spLRow ad.Web)) : FnOk P w K mg base (CX1 P w) 8 f fd ["web"] (spLRing ad.Web) := by
 refine F.okN sc_least_ring (fun vs H Q E h => ?_) (fun cdv A outer s H vs Q E hr h => ?_)
 ·obtain ⟨x, tp, n, ms, us, p, m0, rfl, _⟩ := h
  rfl
 ·obtain ⟨x, tp, n, ms, us, p, m0, rfl, hW, hok, hso, hway, hpl, hm0, q⟩ := h
  have hs : sizeLine = 16777216 := sizeLine_eq
  obtain ⟨⟨dx, hx⟩, htp⟩ := id hW
  have hm0l := (hok.2.2.2.1 m0 (List.mem_of_getElem? hm0)).1
  have hn := hok.2.2.1
  have h64 := hok.2.1
  refine ⟨_, (pss_cons (ps_set (i := 1) sc_least_ring.nd rfl (Or.inl rfl) (pe_cal C_why_no_ring hr pass1 (pa_cons (pv 0) pa_nil)))
   (pss_cons (ps_if (pt_cmp (pc_notN (pv 1))) (pss_one ps_false) pss_nil)
   (pss_one (ps_ret (pe_slice sl_T (pe_cal C_least_row hr pass1 (pa_cons (pv 0) pa_nil)) po_none (po_some (pe_callB call_len_seq (by rfl) tt.b_len PySem.boot_len (pa_cons (pe_fld (pv 0) rfl) pa_nil)))))))), ?_⟩
  (try rw [cxK2]); (try rw [cxK1])
  refine ⟨_, rfl, x, tp, n, ms, rfl, hW, hok, fun ev r v H1 hpc hwy hv s1 => ?_⟩
  obtain rfl := whyR_none (show Tr p us p from hway.1) hway.2.symm hpc hwy
  obtain rfl : v = .non := hv
  refine ⟨_, rfl, _, rfl, iteF ?_⟩
  refine ⟨_, rfl, x, tp, n, ms, us, p, p, m0, rfl, hW.on s1, hok, hso, hway, hpl, hm0, fun _ vs H2 s2 hl => ?_, fun z => absurd rfl z⟩
  have s12 := s1.trans s2
  have hvl := hl.perm.length_eq
  have htl : (Wd.beg m0 ++ vs.map Wd.lastL).length = n - 1 + ms.length := by rw [List.length_append, List.length_map, Wd.beg_len, hm0l, hvl]
  have e3 : cutL (Wd.beg m0 ++ vs.map Wd.lastL) none (some ((ms.length : Nat) : Int)) = (Wd.beg m0 ++ vs.map Wd.lastL).take ms.length := cutL_to (by omega)
  refine ⟨_, rfl, x, ad.Web, dx, _, _, rfl, s12 x _ hx, tt.cl_Web, tt.na_Web_words, flds_w _ _, tp, _, rfl, .inr (SqT.of (s12 tp _ htp)), _, rfl, _, rfl, (by omega), ?_⟩
  rw [List.length_map, e3]
  exact q vs H2 s12 hl


noncomputable def spLaw (K : PySem.W.Frag) : Sp := fun vs H Q _ => ∃ (a : Addr) (ns : List Int), vs = [.ref a] ∧ SqL K H a (ns.map V.int) ∧ ns.length ≤ 63 ∧ ∀ H', Q (.bl true) H'
noncomputable def ml : List Int := [8, 6, 3, 3, 2, 2]
theorem ml_ok : ∀ i : Nat, i < 6 → ∃ m : Nat, ml[i]? = some (m : Int) ∧ 1 ≤ m ∧ ∀ n, 1 ≤ n → n ≤ m → Wd.chk (i + 1) n = true ∧ n ≤ 8 ∧ (i + 1) ^ n ≤ 64 ∧ (i + 1) ^ (n - 1) ≤ 61 := by
 have h := Wd.chk_all
 rw [List.all_eq_true] at h
 have k : ∀ a b : Nat, (a, b) ∈ [(1,1),(1,2),(1,3),(1,4),(1,5),(1,6),(1,7),(1,8),(2,1),(2,2),(2,3),(2,4),(2,5),(2,6),(3,1),(3,2),(3,3),(4,1),(4,2),(4,3),(5,1),(5,2),(6,1),(6,2)] → Wd.chk a b = true := fun a b hab => h (a, b) hab
 intro i hi
 have key : ∀ i, i < 6 → ∃ m, m ≤ 8 ∧ ml[i]? = some ((m : Nat) : Int) ∧ 1 ≤ m ∧ ∀ n, n < 9 → 1 ≤ n → n ≤ m → (i + 1, n) ∈ [(1,1),(1,2),(1,3),(1,4),(1,5),(1,6),(1,7),(1,8),(2,1),(2,2),(2,3),(2,4),(2,5),(2,6),(3,1),(3,2),(3,3),(4,1),(4,2),(4,3),(5,1),(5,2),(6,1),(6,2)] ∧ (i + 1) ^ n ≤ 64 ∧ (i + 1) ^ (n - 1) ≤ 61 := by
  intro i hi
  obtain rfl | rfl | rfl | rfl | rfl | rfl : i = 0 ∨ i = 1 ∨ i = 2 ∨ i = 3 ∨ i = 4 ∨ i = 5 := by omega
  ·refine ⟨8, by decide, rfl, by decide, fun n _ g1 g2 => ?_⟩
   obtain rfl | rfl | rfl | rfl | rfl | rfl | rfl | rfl : n = 1 ∨ n = 2 ∨ n = 3 ∨ n = 4 ∨ n = 5 ∨ n = 6 ∨ n = 7 ∨ n = 8 := by omega
   all_goals exact ⟨by simp, by decide, by decide⟩
  ·refine ⟨6, by decide, rfl, by decide, fun n _ g1 g2 => ?_⟩
   obtain rfl | rfl | rfl | rfl | rfl | rfl : n = 1 ∨ n = 2 ∨ n = 3 ∨ n = 4 ∨ n = 5 ∨ n = 6 := by omega
   all_goals exact ⟨by simp, by decide, by decide⟩
  ·refine ⟨3, by decide, rfl, by decide, fun n _ g1 g2 => ?_⟩
   obtain rfl | rfl | rfl : n = 1 ∨ n = 2 ∨ n = 3 := by omega
   all_goals exact ⟨by simp, by decide, by decide⟩
  ·refine ⟨3, by decide, rfl, by decide, fun n _ g1 g2 => ?_⟩
   obtain rfl | rfl | rfl : n = 1 ∨ n = 2 ∨ n = 3 := by omega
   all_goals exact ⟨by simp, by decide, by decide⟩
  ·refine ⟨2, by decide, rfl, by decide, fun n _ g1 g2 => ?_⟩
   obtain rfl | rfl : n = 1 ∨ n = 2 := by omega
   all_goals exact ⟨by simp, by decide, by decide⟩
  ·refine ⟨2, by decide, rfl, by decide, fun n _ g1 g2 => ?_⟩
   obtain rfl | rfl : n = 1 ∨ n = 2 := by omega
   all_goals exact ⟨by simp, by decide, by decide⟩
 obtain ⟨m, h1, h2, h3, h4⟩ := key i hi
 exact ⟨m, h2, h3, fun n g1 g2 => by
  obtain ⟨a1, a2, a3⟩ := h4 n (by omega) g1 g2
  exact ⟨k _ _ a1, by omega, a2, a3⟩⟩
theorem ok_law {f : Addr} {fd : FuncData} (F : Fun K "law" "law" s_law f fd) (tt : Txt K mg ad) (C__law_mixed : Cal P w K mg base (CX1 P w) "_law_mixed" 1 ["cell", "k"] spMixed) (C__law_all : Cal P w K mg base (CX1 P w) "_law_all" 1 ["kinds", "length"] spAllL) (C__law_first : Cal P w K mg base (CX1 P w) "_law_first" 2 ["cell", "words"] (spFirstL K)) (C_whole_ring : Cal P w K mg base (CX1 P w) "whole_ring" 8 ["first", "kinds"] (spWhole ad))
  (C__law_least : Cal P w K mg base (CX1 P w) "_law_least" 1 ["word"] spLeast) (C_Web_init : Cam P w K mg base (CX1 P w) "Web" ad.Web 5 ["self", "words"] (spWebI K ad.Web)) (C_least_ring : Cal P w K mg base (CX1 P w) "least_ring" 8 ["web"] (spLRing ad.Web)) : FnOk P w K mg base (CX1 P w) 9 f fd ["script"] (spLaw K) := by
 refine F.okN sc_law (fun vs H Q E h => ?_) (fun cdv A outer s H vs Q E hr h => ?_)
 ·obtain ⟨a, ns, rfl, _⟩ := h
  rfl
 ·obtain ⟨a, ns, rfl, hS, hlen, q⟩ := h
  have hs : sizeLine = 16777216 := sizeLine_eq
  have hu := Nat.lt_of_succ_lt (hu_of hr)
  refine ⟨_, (pss_cons (ps_for PassesOwn.never rfl (pi_list (pe_op op_catL (pe_slice sl_list (pv 0) po_none (po_some pe_int)) (pe_lst (pa_cons pe_int pa_nil)))) (pg_name (i := 1) sc_law.nd rfl (Or.inl rfl)) (pss_cons (ps_set (i := 2) sc_law.nd rfl (Or.inl rfl) (pe_op op_add pe_int (pe_op op_mod (pe_cal C__law_mixed hr pass1 (pa_cons (pv 1) (pa_cons pe_int pa_nil))) pe_int)))
   (pss_cons (ps_set (i := 3) sc_law.nd rfl (Or.inl rfl) (pe_op op_add pe_int (pe_op op_mod (pe_cal C__law_mixed hr pass1 (pa_cons (pv 1) (pa_cons pe_int pa_nil))) (pe_ix ix_list (pe_lst (pa_cons pe_int (pa_cons pe_int (pa_cons pe_int (pa_cons pe_int (pa_cons pe_int (pa_cons pe_int pa_nil))))))) (pe_op op_sub (pv 2) pe_int) (fun _ _ => rfl)))))
   (pss_cons (ps_set (i := 4) sc_law.nd rfl (Or.inl rfl) (pe_cal C__law_all hr pass1 (pa_cons (pv 2) (pa_cons (pv 3) pa_nil))))
   (pss_cons (ps_set (i := 5) sc_law.nd rfl (Or.inr rfl) (pe_cal C__law_first hr pass1 (pa_cons (pv 1) (pa_cons (pv 4) pa_nil))))
   (pss_cons (ps_set (i := 6) sc_law.nd rfl (Or.inl rfl) (pe_mak C_Web_init hr pass1 (pa_cons (pe_compf cs_law_0 rfl (pi_list (pv 4)) (fun cl C s' H' fp => (pt_cmpR op_ge_T (pe_cal C__law_least hr pass1 (pa_cons (pv 0) pa_nil)) (pv 6) (nomark _))) (fun cl C s' H' fp => (pv 0))) pa_nil)))
   (pss_one (ps_if (pt_cmpR op_ne_T (pe_cal C_whole_ring hr pass1 (pa_cons (pv 5) (pa_cons (pv 2) pa_nil))) (pe_cal C_least_ring hr pass1 (pa_cons (pv 6) pa_nil)) (nomark _)) (pss_one (ps_ret pe_bl)) pss_nil))))))))
   (pss_one (ps_ret pe_bl))), ?_⟩
  (try rw [cxK2]); (try rw [cxK1])
 
  refine ⟨_, rfl, _, rfl, a, _, rfl, hS, fun p hp => ?_⟩
  have s6 : Same H (upd H p (.lst (cutV (ns.map V.int) none (some 3)))) := same_upd hp
  have hcl := cutV_length (ns.map V.int) none (some 3)
  rw [List.length_map] at hcl
  have hci : ∀ x ∈ cutV (ns.map V.int) none (some 3), ∃ z, x = V.int z := fun x hx => by
   obtain ⟨z, _, e⟩ := List.mem_map.mp (List.mem_of_mem_drop (List.mem_of_mem_take hx))
   exact ⟨z, e.symm⟩
  generalize cutV (ns.map V.int) none (some 3) = cs at s6 hcl hci
  refine ⟨(by show 1 ≤ sizeLine; omega), fun p2 hp2 => ?_⟩
  refine ⟨p, p2, cs, [.int 0], rfl, rfl, SqL.of (by rw [upd_ne (ne_of_none upd_same hp2)]; exact upd_same), SqL.of upd_same, (by show cs.length + 1 ≤ sizeLine; omega), fun c hc => ?_⟩
  generalize hH5 : upd (upd (upd H p (.lst cs)) p2 (.lst [.int 0])) c (.lst (cs ++ [.int 0])) = H5
  have hc1 : H5 c = some (.lst (cs ++ [.int 0])) := by rw [← hH5]; exact upd_same
  refine ⟨c, rfl, ⟨_, SqL.of hc1⟩, ?_⟩
  refine for_list (K := K) (a := c) (xs := cs ++ [.int 0]) (fun i σ H6 => Same H5 H6 ∧ ∃ v1 v2 v3 v4 v5 v6, σ = [some (.ref a), v1, v2, v3, v4, v5, v6]) ⟨Same.refl _, none, none, none, none, none, none, rfl⟩
   (fun i σ H6 _ ⟨s7, _⟩ => SqL.of (s7 c _ hc1)) ?_ ?_
  ·rintro i y σ H6 hi ⟨s7, v1, v2, v3, v4, v5, v6, rfl⟩
   obtain ⟨z0, rfl⟩ : ∃ z, y = V.int z := by
    rcases List.mem_append.mp (List.mem_of_getElem? hi) with g | g
    ·exact hci _ g
    ·exact ⟨0, by simpa using g⟩
   obtain ⟨k0, hk1, hk2⟩ : ∃ k0 : Nat, mixedZ z0 6 % 6 = (k0 : Int) ∧ k0 < 6 := ⟨(mixedZ z0 6 % 6).toNat, by omega, by omega⟩
   obtain ⟨m, hm1, hm2, hm3⟩ := ml_ok k0 hk2
   obtain ⟨n0, hn1, hn2⟩ : ∃ n0 : Nat, mixedZ z0 7 % (m : Int) = (n0 : Int) ∧ n0 < m := by
    have g0 := Int.emod_nonneg (mixedZ z0 7) (show (m : Int) ≠ 0 by omega)
    have g1 := Int.emod_lt_of_pos (mixedZ z0 7) (show (0 : Int) < (m : Int) by omega)
    exact ⟨(mixedZ z0 7 % (m : Int)).toNat, by omega, by omega⟩
   obtain ⟨hck, hn8, hp64, hp61⟩ := hm3 (n0 + 1) (by omega) (by omega)
   refine ⟨_, rfl, _, _, rfl, ⟨by decide, by decide⟩, _, _, rfl, rfl, (by show (0 : Int) < 6; decide), _, _, rfl, rfl, ?_⟩
   refine ⟨_, rfl, _, _, rfl, ⟨by decide, by decide⟩, (by show 6 ≤ sizeLine; omega), fun p8 hp8 => ?_⟩
   have t8 := same_upd (o := .lst (ml.map V.int)) hp8
   refine ⟨_, rfl, _, _, rfl, rfl, p8, _, _, V.int (m : Int), rfl, rfl, SqL.of upd_same, (show atI (ml.map V.int) (1 + mixedZ z0 6 % 6 - 1) = some (.int (m : Int)) by rw [hk1, show (1 + (k0 : Int) - 1) = (k0 : Int) by omega]; exact atI_nat (by rw [List.getElem?_map, hm1]; rfl)), _, _, rfl, rfl, (by show (0 : Int) < (m : Int); omega), _, _, rfl, rfl, ?_⟩
   show (fun H1 => _) (upd H6 p8 (.lst (ml.map V.int)))
   generalize upd H6 p8 (.lst (ml.map V.int)) = H7 at t8
   have hkd : (1 + mixedZ z0 6 % 6 : Int) = ((k0 + 1 : Nat) : Int) := by omega
   have hnd : (1 + mixedZ z0 7 % (m : Int) : Int) = ((n0 + 1 : Nat) : Int) := by omega
   simp only [hkd, hnd]
   generalize hkk : k0 + 1 = k at hck hp64 hp61
   generalize hnn : n0 + 1 = n at hck hp64 hp61 hn8
   have hk : 1 ≤ k ∧ k ≤ 6 := by omega
   have hn : 1 ≤ n ∧ n ≤ 24 := by omega
   have hk0 : 0 < k := by omega
   refine ⟨_, rfl, _, rfl, k, n, rfl, ⟨hk, hn.2, by omega⟩, fun D2 H2 hD2 s3 hd2 => ?_⟩
   refine ⟨_, rfl, _, rfl, z0, D2, k, n, rfl, hd2, ⟨hk, hn, by omega⟩, fun fs H3 hfs s4 => ?_⟩
   have hfl := hfs.len
   have hfo : FirstOk fs k := ⟨⟨⟨by omega, by omega⟩, hfs.ok⟩, hfs.lst⟩
   have hd23 := s4 D2 _ hd2
   refine ⟨_, rfl, D2, rfl, ⟨_, SqL.of hd23⟩, ?_⟩
   refine compf_texts (fun w => !decide (Wd.least w < fs)) (SqL.of hd23) (by rw [Wd.allW_len]; omega) (fun i l H' hi s' N hN => ?_) (fun x H' N hN => ⟨_, rfl, hN⟩) fun D4 H8 hD4 s9 hd4 => ?_
   ·have hl := ((Wd.mem_allW hk0).mp (List.mem_of_getElem? hi)).1
    exact ⟨_, rfl, l, rfl, by omega, _, rfl, _, rfl, _, rfl, _, rfl, hN H' (Same.refl _)⟩
   have hd4 : H8 D4 = some (.lst ((Wd.due k n fs).map T)) := hd4
   obtain ⟨hlw, hperm, hat0⟩ := Wd.ringF_lw hck hk0 (by omega) hfs
   have hasc : (Wd.due k n fs).Pairwise (· < ·) := (Wd.allW_sorted hk0).filter _
   have hsd : (Wd.due k n fs).Pairwise (fun a b => ¬ b < a) := hasc.imp fun h z => Wd.ltir _ (List.lt_trans h z)
   have hdl : (Wd.due k n fs).length ≤ 64 := by
    have := List.length_filter_le (fun w => !decide (Wd.least w < fs)) (Wd.allW k n)
    rw [Wd.allW_len] at this
    exact Nat.le_trans this hp64
   have hmd : ∀ x ∈ Wd.due k n fs, x.length = n ∧ Wd.Okk k x := fun x hx => ((Wd.mem_due hk0).mp hx).1
   have hfin : fs ∈ Wd.due k n fs := (Wd.mem_due hk0).mpr ⟨⟨hfl, hfs.ok⟩, by rw [← hfs.lst]; exact Wd.ltir _⟩
   have hok : WebOk (Wd.due k n fs) n := ⟨List.ne_nil_of_mem hfin, hdl, ⟨⟨by omega, hn8⟩, ⟨Wd.allW k (n - 1), by rw [Wd.allW_len]; exact hp61, fun w hw => by
    obtain ⟨g1, g2⟩ := hmd w hw
    exact ⟨(Wd.mem_allW hk0).mpr ⟨by rw [List.length_take]; omega, fun c hc => g2 c (List.mem_of_mem_take hc)⟩, (Wd.mem_allW hk0).mpr ⟨by rw [List.length_drop]; omega, fun c hc => g2 c (List.mem_of_mem_drop hc)⟩⟩⟩⟩, fun x hx => ⟨(hmd x hx).1, fun c hc => by have := (hmd x hx).2 c hc; omega⟩, Wd.due_nodup hk0⟩
   intro x0 dx0 nx ndx nex
   have s10 : Same H8 (upd (upd H8 dx0 (.own x0)) x0 (.ins ad.Web dx0 [])) := fun b o e => by
    rw [upd_ne (ne_of_none e nx), upd_ne (ne_of_none e ndx)]
    exact e
   refine ⟨x0, dx0, D4, Wd.due k n fs, n, rfl, upd_same, SqL.of (s10 D4 _ hd4), hok, hsd, fun tp0 ms H9 hp2' hw2 k2 hx2 ht2 => ⟨rfl, ?_⟩⟩
   obtain rfl : ms = Wd.due k n fs := Wd.sorted_same hp2' hw2 hsd
   have s10 : Same H8 H9 := fun b o e => k2 b o (s10 b o e) (ne_of_none e nx)
   have hW9 : WebAt ad.Web H9 x0 tp0 n (Wd.due k n fs) := ⟨⟨dx0, hx2⟩, ht2⟩
   obtain ⟨hRl, hR0⟩ := Wd.ringF_len hk0 (by omega) hfs
   refine ⟨_, rfl, _, rfl, fs, _, rfl, (by omega), fun z => absurd ⟨by omega, by omega⟩ z, fun kn ek _ => ?_⟩
   obtain rfl : k = kn := by omega
   refine ⟨fun z => absurd hfo z, fun _ => ⟨fun z => absurd z (by omega), fun _ H10 s11 => ?_⟩⟩
   have h0 : (Wd.due k n fs)[0]? = some fs := by
    cases hc0 : Wd.due k n fs with
    | nil => rw [hc0] at hfin; cases hfin
    | cons m r =>
     rw [hc0] at hfin hasc
     rcases List.mem_cons.mp hfin with e | e
     ·rw [e]; rfl
     ·have g1 := (List.pairwise_cons.mp hasc).1 fs e
      have g2 := ((Wd.mem_due hk0).mp (show m ∈ Wd.due k n fs by rw [hc0]; exact List.mem_cons_self ..))
      have g3 : ¬ m < Wd.least m := by
       have g4 := Wd.least_min (w := m) (j := 0) (by have := g2.1.1; omega)
       rwa [show Wd.rot 0 m = m by simp [Wd.rot]] at g4
      exact absurd (Wd.lele g2.2 g3) (fun z => z g1)
   have hwl := hperm.length_eq
   have htr := Wd.ring_tr0 (t := Wd.ringF k fs) (n := n)
   rw [hat0] at htr
   refine ⟨_, rfl, x0, tp0, n, Wd.due k n fs, Wd.ringW (Wd.ringF k fs) n, Wd.beg fs, fs, rfl, hW9.on s11, hok, hsd, ⟨htr, hperm⟩, by rw [Wd.beg_len, hfl], h0, fun vs H12 s12 hl => ?_⟩
   rw [Wd.ringF_text hck hk0 (by omega) hfs hl]
   refine ⟨_, rfl, _, rfl, _, rfl, iteNS rfl ?_⟩
   exact ⟨(((s7.trans t8).trans (s3.trans (s4.trans s9))).trans (s10.trans (s11.trans s12))), _, _, _, _, _, _, rfl⟩
  ·rintro σ H6 ⟨s7, v1, v2, v3, v4, v5, v6, rfl⟩
   exact q _


end
noncomputable def HF (K : PySem.W.Frag) (f : Addr) (nm : Str) (st : Stmt) : Prop := ∃ (oc : Value) (od : Option Addr) (kV dc pm : Value) (an : Option Addr) (cd ct : Value) (sl : Array (Option Value)), PySem.W.nsIn K mainGlobals nm = some (some (.ref f)) ∧ K.lookup f = some ⟨oc, od, .func (PySem.W.fnOf nm nm (defArgs st) (defBody st) (defScope st) .none kV dc pm an cd ct), sl⟩ ∧ PySem.W.codeIn K cd nm = true ∧ PySem.W.keepIn K (.ref f) = true
theorem HF.go {K : PySem.W.Frag} {f : Addr} {nm : Str} {st : Stmt} (h : HF K f nm st) : ∃ fd, Fun K nm nm st f fd ∧ PySem.W.nsIn K mainGlobals nm = some (some (.ref f)) := by
 obtain ⟨oc, od, kV, dc, pm, an, cd, ct, sl, a, l, c, k⟩ := h
 exact ⟨_, fun_mk (st := st) l c k, a⟩
theorem hf_mk {K : PySem.W.Frag} {f : Addr} {nm : Str} {st : Stmt} {oc : Value} {od : Option Addr} {kV dc pm : Value} {an : Option Addr} {cd ct : Value} {sl : Array (Option Value)} (a : PySem.W.nsIn K mainGlobals nm = some (some (.ref f))) (l : K.lookup f = some ⟨oc, od, .func (PySem.W.fnOf nm nm (defArgs st) (defBody st) (defScope st) .none kV dc pm an cd ct), sl⟩) (c : PySem.W.codeIn K cd nm = true) (k : PySem.W.keepIn K (.ref f) = true) : HF K f nm st := ⟨oc, od, kV, dc, pm, an, cd, ct, sl, a, l, c, k⟩
theorem mkC (P : Program) (w : World) {K : PySem.W.Frag} {mg : Str → Option Value} {h : Heap} (base : Heap) (X : K.In h) (G : h.Ns mainGlobals mg) {nm : Str} {st : Stmt} {f : Addr} {fd : FuncData} {k : Nat} {ps : List Str} {sp : Sp} (a : PySem.W.nsIn K mainGlobals nm = some (some (.ref f))) (F : Fun K nm nm st f fd) (ok : FnOk P w K mg base (CX1 P w) k f fd ps sp) (b : Binds K fd ps []) : Cal P w K mg base (CX1 P w) nm k ps sp := ⟨⟨_, _, ok, PySem.W.mg_of X G a, F.kp, b⟩⟩
noncomputable def HM (K : PySem.W.Frag) (C f : Addr) (nm qual : Str) (st : Stmt) : Prop := ∃ (oc : Value) (od : Option Addr) (kV dc pm : Value) (an : Option Addr) (cd ct : Value) (sl : Array (Option Value)), PySem.W.findIn K (.ref C) nm = some (some (.ref f)) ∧ K.lookup f = some ⟨oc, od, .func (PySem.W.fnOf nm qual (defArgs st) (defBody st) (defScope st) .none kV dc pm an cd ct), sl⟩ ∧ PySem.W.codeIn K cd qual = true ∧ PySem.W.keepIn K (.ref f) = true ∧ PySem.W.isFn K (.ref f) = true
theorem HM.go {K : PySem.W.Frag} {C f : Addr} {nm qual : Str} {st : Stmt} (h : HM K C f nm qual st) : ∃ fd, Fun K nm qual st f fd ∧ Meth K C nm f := by
 obtain ⟨oc, od, kV, dc, pm, an, cd, ct, sl, a, l, c, k, i⟩ := h
 exact ⟨_, fun_mk (st := st) l c k, ⟨a, i, k⟩⟩
theorem hm_mk {K : PySem.W.Frag} {C f : Addr} {nm qual : Str} {st : Stmt} {oc : Value} {od : Option Addr} {kV dc pm : Value} {an : Option Addr} {cd ct : Value} {sl : Array (Option Value)} (a : PySem.W.findIn K (.ref C) nm = some (some (.ref f))) (l : K.lookup f = some ⟨oc, od, .func (PySem.W.fnOf nm qual (defArgs st) (defBody st) (defScope st) .none kV dc pm an cd ct), sl⟩) (c : PySem.W.codeIn K cd qual = true) (k : PySem.W.keepIn K (.ref f) = true) (i : PySem.W.isFn K (.ref f) = true) : HM K C f nm qual st := ⟨oc, od, kV, dc, pm, an, cd, ct, sl, a, l, c, k, i⟩
theorem bd1 {K : PySem.W.Frag} {x qual : Str} {S : Stmt} {f : Addr} {fd : FuncData} {p : Str} (F : Fun K x qual S f fd) (h : ∀ (v w z : Value) (n : Option Addr) (g i a : Value), bindArgs (PySem.W.fnOf x qual (defArgs S) (defBody S) (defScope S) .none v w z n g i) ⟨[a], []⟩ = pure (List.zip [p] [a]) := by intros; rfl) : Binds K fd [p] [] := F.binds fun v w z n g i us hl => L2.on1 (C := fun us => bindArgs _ ⟨us, []⟩ = pure (List.zip _ us)) hl (h v w z n g i)
theorem bd2 {K : PySem.W.Frag} {x qual : Str} {S : Stmt} {f : Addr} {fd : FuncData} {p q : Str} (F : Fun K x qual S f fd) (h : ∀ (v w z : Value) (n : Option Addr) (g i a b : Value), bindArgs (PySem.W.fnOf x qual (defArgs S) (defBody S) (defScope S) .none v w z n g i) ⟨[a, b], []⟩ = pure (List.zip [p, q] [a, b]) := by intros; rfl) : Binds K fd [p, q] [] := F.binds fun v w z n g i us hl => L2.on2 (C := fun us => bindArgs _ ⟨us, []⟩ = pure (List.zip _ us)) hl (h v w z n g i)
theorem bd3 {K : PySem.W.Frag} {x qual : Str} {S : Stmt} {f : Addr} {fd : FuncData} {p q r : Str} (F : Fun K x qual S f fd) (h : ∀ (v w z : Value) (n : Option Addr) (g i a b c : Value), bindArgs (PySem.W.fnOf x qual (defArgs S) (defBody S) (defScope S) .none v w z n g i) ⟨[a, b, c], []⟩ = pure (List.zip [p, q, r] [a, b, c]) := by intros; rfl) : Binds K fd [p, q, r] [] := F.binds fun v w z n g i us hl => L2.on3 (C := fun us => bindArgs _ ⟨us, []⟩ = pure (List.zip _ us)) hl (h v w z n g i)
theorem bd4 {K : PySem.W.Frag} {x qual : Str} {S : Stmt} {f : Addr} {fd : FuncData} {p q r s : Str} (F : Fun K x qual S f fd) (h : ∀ (v w z : Value) (n : Option Addr) (g i a b c d : Value), bindArgs (PySem.W.fnOf x qual (defArgs S) (defBody S) (defScope S) .none v w z n g i) ⟨[a, b, c, d], []⟩ = pure (List.zip [p, q, r, s] [a, b, c, d]) := by intros; rfl) : Binds K fd [p, q, r, s] [] := F.binds fun v w z n g i us hl => L2.on4 (C := fun us => bindArgs _ ⟨us, []⟩ = pure (List.zip _ us)) hl (h v w z n g i)
theorem all_mk {l : PySem.W.OpenLaw} {w : World} {K : PySem.W.Frag} {h : Heap} {mg : Str → Option Value} {fa : Addr} (X : K.In h) (G : h.Ns mainGlobals mg) (hfa : mg "law" = some (.ref fa))
  {f_0 f_1 f_2 f_3 f_4 f_5 f_6 f_7 f_8 f_9 f_10 f_11 f_12 f_13 f_14 f_15 f_16 f_17 f_18 f_19 f_20 f_21 f_22 f_23 f_24 f_25 f_26 f_27 f_28 f_29 f_30 f_31 f_32 f_33 f_34 f_35 f_36 f_37 f_38 f_39 f_40 f_41 f_42 f_43 f_44 : Addr}
  {f_45 : Addr} {od_45 an_45 : Option Addr} {sl_45 : Array (Option Value)} {oc_45 kV_45 dc_45 pm_45 cd_45 ct_45 : Value}
  {c_BadKinds c_BadWord c_TooMany c_NoSuch c_Web : Addr} {u_LETTERS u_LONGEST u_MOST_WORDS u_MOST_OF_A_WEB u_LONGEST_OF_A_WEB : Value}
  (h_0 : HF K f_0 "looked_kinds" s_looked_kinds)
  (h_1 : HF K f_1 "looked_length" s_looked_length)
  (h_2 : HF K f_2 "letters" s_letters)
  (h_3 : HF K f_3 "looked" s_looked)
  (h_4 : HF K f_4 "word_total" s_word_total)
  (h_5 : HF K f_5 "turned" s_turned)
  (h_6 : HF K f_6 "turn_by" s_turn_by)
  (h_7 : HF K f_7 "times_of" s_times_of)
  (h_8 : HF K f_8 "root" s_root)
  (h_9 : HF K f_9 "is_least" s_is_least)
  (h_10 : HF K f_10 "filled" s_filled)
  (h_11 : HF K f_11 "is_beginning" s_is_beginning)
  (h_12 : HF K f_12 "least_from" s_least_from)
  (h_13 : HF K f_13 "next_least" s_next_least)
  (h_14 : HF K f_14 "last_least" s_last_least)
  (h_15 : HF K f_15 "rests" s_rests)
  (h_16 : HF K f_16 "count_above" s_count_above)
  (h_17 : HF K f_17 "up_to" s_up_to)
  (h_18 : HF K f_18 "looked_first" s_looked_first)
  (h_19 : HF K f_19 "count_below" s_count_below)
  (h_20 : HF K f_20 "ring_size" s_ring_size)
  (h_21 : HF K f_21 "put_together" s_put_together)
  (h_22 : HF K f_22 "whole_ring" s_whole_ring)
  (h_23 : HF K f_23 "looked_web" s_looked_web)
  (h_24 : HM K c_Web f_24 "__init__" "Web.__init__" s_Web_init)
  (h_25 : HF K f_25 "begin_of" s_begin_of)
  (h_26 : HF K f_26 "end_of" s_end_of)
  (h_27 : HF K f_27 "pieces" s_pieces)
  (h_28 : HF K f_28 "excess" s_excess)
  (h_29 : HF K f_29 "hanging_by" s_hanging_by)
  (h_30 : HF K f_30 "hanging" s_hanging)
  (h_31 : HF K f_31 "why_apart" s_why_apart)
  (h_32 : HF K f_32 "why_no_ring" s_why_no_ring)
  (h_33 : HF K f_33 "why_no_row" s_why_no_row)
  (h_34 : HF K f_34 "row_ends" s_row_ends)
  (h_35 : HF K f_35 "without" s_without)
  (h_36 : HF K f_36 "can_go_on" s_can_go_on)
  (h_37 : HF K f_37 "least_step" s_least_step)
  (h_38 : HF K f_38 "least_way" s_least_way)
  (h_39 : HF K f_39 "least_row" s_least_row)
  (h_40 : HF K f_40 "least_ring" s_least_ring)
  (h_41 : HF K f_41 "_law_mixed" s__law_mixed)
  (h_42 : HF K f_42 "_law_all" s__law_all)
  (h_43 : HF K f_43 "_law_least" s__law_least)
  (h_44 : HF K f_44 "_law_first" s__law_first)
  (a_45 : PySem.W.nsIn K mainGlobals "law" = some (some (.ref f_45))) (l_45 : K.lookup f_45 = some ⟨oc_45, od_45, .func (PySem.W.fnOf "law" "law" (defArgs s_law) (defBody s_law) (defScope s_law) .none kV_45 dc_45 pm_45 an_45 cd_45 ct_45), sl_45⟩) (c_45 : PySem.W.codeIn K cd_45 "law" = true) (k_45 : PySem.W.keepIn K (.ref f_45) = true)
  (z_all : PySem.W.nsIn K mainGlobals "all" = some none)
  (z_len : PySem.W.nsIn K mainGlobals "len" = some none)
  (z_list : PySem.W.nsIn K mainGlobals "list" = some none)
  (z_range : PySem.W.nsIn K mainGlobals "range" = some none)
  (z_set : PySem.W.nsIn K mainGlobals "set" = some none)
  (z_sorted : PySem.W.nsIn K mainGlobals "sorted" = some none)
  (z_sum : PySem.W.nsIn K mainGlobals "sum" = some none)
  (z_tuple : PySem.W.nsIn K mainGlobals "tuple" = some none)
  (y_BadKinds : PySem.W.nsIn K mainGlobals "BadKinds" = some (some (.ref c_BadKinds)))
  (y_BadWord : PySem.W.nsIn K mainGlobals "BadWord" = some (some (.ref c_BadWord)))
  (y_TooMany : PySem.W.nsIn K mainGlobals "TooMany" = some (some (.ref c_TooMany)))
  (y_NoSuch : PySem.W.nsIn K mainGlobals "NoSuch" = some (some (.ref c_NoSuch)))
  (y_Web : PySem.W.nsIn K mainGlobals "Web" = some (some (.ref c_Web)))
  (e_BadKinds : PySem.W.excIn K c_BadKinds bmVE "ValueError.__new__" = true)
  (e_BadWord : PySem.W.excIn K c_BadWord bmVE "ValueError.__new__" = true)
  (e_TooMany : PySem.W.excIn K c_TooMany bmVE "ValueError.__new__" = true)
  (e_NoSuch : PySem.W.excIn K c_NoSuch bmVE "ValueError.__new__" = true)
  (g_LETTERS : PySem.W.nsIn K mainGlobals "LETTERS" = some (some u_LETTERS)) (r_LETTERS : RelV (T [97, 98, 99, 100, 101, 102]) u_LETTERS)
  (g_LONGEST : PySem.W.nsIn K mainGlobals "LONGEST" = some (some u_LONGEST)) (r_LONGEST : RelV (.int 24) u_LONGEST)
  (g_MOST_WORDS : PySem.W.nsIn K mainGlobals "MOST_WORDS" = some (some u_MOST_WORDS)) (r_MOST_WORDS : RelV (.int 4096) u_MOST_WORDS)
  (g_MOST_OF_A_WEB : PySem.W.nsIn K mainGlobals "MOST_OF_A_WEB" = some (some u_MOST_OF_A_WEB)) (r_MOST_OF_A_WEB : RelV (.int 64) u_MOST_OF_A_WEB)
  (g_LONGEST_OF_A_WEB : PySem.W.nsIn K mainGlobals "LONGEST_OF_A_WEB" = some (some u_LONGEST_OF_A_WEB)) (r_LONGEST_OF_A_WEB : RelV (.int 8) u_LONGEST_OF_A_WEB)
  (pg_Web : PySem.W.plainGet K c_Web Str.empty = true) (hd_Web : PySem.W.hasDictIn K c_Web = true) (po_Web : PySem.W.plainOver K c_Web = true) (sa_Web : PySem.W.findIn K (.ref c_Web) "__setattr__" = some (some (.builtin "object.__setattr__"))) (mk_Web : PySem.W.makesIn K c_Web = true) (kc_Web : PySem.W.keepIn K (.ref c_Web) = true)
  (na_Web_words : PySem.W.findIn K (.ref c_Web) "words" = some none)
  (na_Web_length : PySem.W.findIn K (.ref c_Web) "length" = some none) :
  ∃ fd : FuncData, (∀ (s : Shared) (v : Value), BindsTo s fd ⟨[v], []⟩ [("script", v)]) ∧ ∀ base : Heap, K.In base → base.Ns mainGlobals mg → FnOk l.prog w K mg base (CX1 l.prog w) 9 fa fd ["script"] (spLaw K) := by
 have e := hfa.symm.trans (PySem.W.mg_of X G a_45)
 cases e
 obtain ⟨_, F_24, M_Web_init⟩ := h_24.go
 have tt : Txt K mg ⟨c_BadKinds, c_BadWord, c_TooMany, c_NoSuch, c_Web, u_LETTERS, u_LONGEST, u_MOST_WORDS, u_MOST_OF_A_WEB, u_LONGEST_OF_A_WEB⟩ := ⟨PySem.W.mg_none_of X G z_all, PySem.W.mg_none_of X G z_len, PySem.W.mg_none_of X G z_list, PySem.W.mg_none_of X G z_range, PySem.W.mg_none_of X G z_set, PySem.W.mg_none_of X G z_sorted, PySem.W.mg_none_of X G z_sum, PySem.W.mg_none_of X G z_tuple, PySem.W.mg_of X G y_BadKinds, PySem.W.mg_of X G y_BadWord, PySem.W.mg_of X G y_TooMany, PySem.W.mg_of X G y_NoSuch, PySem.W.mg_of X G y_Web, ⟨PySem.W.mg_of X G y_BadKinds, e_BadKinds⟩, ⟨PySem.W.mg_of X G y_BadWord, e_BadWord⟩, ⟨PySem.W.mg_of X G y_TooMany, e_TooMany⟩, ⟨PySem.W.mg_of X G y_NoSuch, e_NoSuch⟩, PySem.W.mg_of X G g_LETTERS, r_LETTERS, PySem.W.mg_of X G g_LONGEST, r_LONGEST, PySem.W.mg_of X G g_MOST_WORDS, r_MOST_WORDS, PySem.W.mg_of X G g_MOST_OF_A_WEB, r_MOST_OF_A_WEB, PySem.W.mg_of X G g_LONGEST_OF_A_WEB, r_LONGEST_OF_A_WEB, ⟨pg_Web, hd_Web, po_Web, sa_Web⟩, na_Web_words, na_Web_length⟩
 obtain ⟨_, F_0, a_0⟩ := h_0.go
 obtain ⟨_, F_1, a_1⟩ := h_1.go
 obtain ⟨_, F_2, a_2⟩ := h_2.go
 obtain ⟨_, F_3, a_3⟩ := h_3.go
 obtain ⟨_, F_4, a_4⟩ := h_4.go
 obtain ⟨_, F_5, a_5⟩ := h_5.go
 obtain ⟨_, F_6, a_6⟩ := h_6.go
 obtain ⟨_, F_7, a_7⟩ := h_7.go
 obtain ⟨_, F_8, a_8⟩ := h_8.go
 obtain ⟨_, F_9, a_9⟩ := h_9.go
 obtain ⟨_, F_10, a_10⟩ := h_10.go
 obtain ⟨_, F_11, a_11⟩ := h_11.go
 obtain ⟨_, F_12, a_12⟩ := h_12.go
 obtain ⟨_, F_13, a_13⟩ := h_13.go
 obtain ⟨_, F_14, a_14⟩ := h_14.go
 obtain ⟨_, F_15, a_15⟩ := h_15.go
 obtain ⟨_, F_16, a_16⟩ := h_16.go
 obtain ⟨_, F_17, a_17⟩ := h_17.go
 obtain ⟨_, F_18, a_18⟩ := h_18.go
 obtain ⟨_, F_19, a_19⟩ := h_19.go
 obtain ⟨_, F_20, a_20⟩ := h_20.go
 obtain ⟨_, F_21, a_21⟩ := h_21.go
 obtain ⟨_, F_22, a_22⟩ := h_22.go
 obtain ⟨_, F_23, a_23⟩ := h_23.go
 obtain ⟨_, F_25, a_25⟩ := h_25.go
 obtain ⟨_, F_26, a_26⟩ := h_26.go
 obtain ⟨_, F_27, a_27⟩ := h_27.go
 obtain ⟨_, F_28, a_28⟩ := h_28.go
 obtain ⟨_, F_29, a_29⟩ := h_29.go
 obtain ⟨_, F_30, a_30⟩ := h_30.go
 obtain ⟨_, F_31, a_31⟩ := h_31.go
 obtain ⟨_, F_32, a_32⟩ := h_32.go
 obtain ⟨_, F_33, a_33⟩ := h_33.go
 obtain ⟨_, F_34, a_34⟩ := h_34.go
 obtain ⟨_, F_35, a_35⟩ := h_35.go
 obtain ⟨_, F_36, a_36⟩ := h_36.go
 obtain ⟨_, F_37, a_37⟩ := h_37.go
 obtain ⟨_, F_38, a_38⟩ := h_38.go
 obtain ⟨_, F_39, a_39⟩ := h_39.go
 obtain ⟨_, F_40, a_40⟩ := h_40.go
 obtain ⟨_, F_41, a_41⟩ := h_41.go
 obtain ⟨_, F_42, a_42⟩ := h_42.go
 obtain ⟨_, F_43, a_43⟩ := h_43.go
 obtain ⟨_, F_44, a_44⟩ := h_44.go
 have F_45 := fun_mk (st := s_law) l_45 c_45 k_45
 refine ⟨PySem.W.fnOf "law" "law" (defArgs s_law) (defBody s_law) (defScope s_law) .none kV_45 dc_45 pm_45 an_45 cd_45 ct_45, fun s v => .of_eq rfl, fun base _ _ => ?_⟩
 have C_0 := mkC l.prog w base X G a_0 F_0 (ok_looked_kinds F_0 tt) (bd1 F_0)
 have C_1 := mkC l.prog w base X G a_1 F_1 (ok_looked_length F_1 tt C_0) (bd2 F_1)
 have C_2 := mkC l.prog w base X G a_2 F_2 (ok_letters F_2 tt C_0) (bd1 F_2)
 have C_3 := mkC l.prog w base X G a_3 F_3 (ok_looked F_3 tt C_1 C_2) (bd2 F_3)
 have C_4 := mkC l.prog w base X G a_4 F_4 (ok_word_total F_4 tt) (bd2 F_4)
 have C_5 := mkC l.prog w base X G a_5 F_5 (ok_turned F_5 tt) (bd2 F_5)
 have C_6 := mkC l.prog w base X G a_6 F_6 (ok_turn_by F_6 tt C_5) (bd1 F_6)
 have C_7 := mkC l.prog w base X G a_7 F_7 (ok_times_of F_7 tt) (bd1 F_7)
 have C_8 := mkC l.prog w base X G a_8 F_8 (ok_root F_8 tt C_7) (bd1 F_8)
 have C_9 := mkC l.prog w base X G a_9 F_9 (ok_is_least F_9 tt C_6) (bd1 F_9)
 have C_10 := mkC l.prog w base X G a_10 F_10 (ok_filled F_10 tt C_2) (bd3 F_10)
 have C_11 := mkC l.prog w base X G a_11 F_11 (ok_is_beginning F_11 tt C_9 C_10) (bd3 F_11)
 have C_12 := mkC l.prog w base X G a_12 F_12 (ok_least_from F_12 tt C_2 C_11) (bd3 F_12)
 have C_13 := mkC l.prog w base X G a_13 F_13 (ok_next_least F_13 tt C_3 C_2 C_11 C_12) (bd2 F_13)
 have C_14 := mkC l.prog w base X G a_14 F_14 (ok_last_least F_14 tt C_3 C_9 C_10) (bd2 F_14)
 have C_15 := mkC l.prog w base X G a_15 F_15 (ok_rests F_15 tt) (bd1 F_15)
 have C_16 := mkC l.prog w base X G a_16 F_16 (ok_count_above F_16 tt C_15) (bd2 F_16)
 have C_17 := mkC l.prog w base X G a_17 F_17 (ok_up_to F_17 tt C_3 C_4 C_16 C_14) (bd2 F_17)
 have C_18 := mkC l.prog w base X G a_18 F_18 (ok_looked_first F_18 tt C_3 C_9) (bd2 F_18)
 have C_19 := mkC l.prog w base X G a_19 F_19 (ok_count_below F_19 tt C_17 C_8) (bd2 F_19)
 have C_20 := mkC l.prog w base X G a_20 F_20 (ok_ring_size F_20 tt C_18 C_4 C_19) (bd2 F_20)
 have C_21 := mkC l.prog w base X G a_21 F_21 (ok_put_together F_21 tt C_8 C_13) (bd4 F_21)
 have C_22 := mkC l.prog w base X G a_22 F_22 (ok_whole_ring F_22 tt C_20 C_21) (bd2 F_22)
 have C_23 := mkC l.prog w base X G a_23 F_23 (ok_looked_web F_23 tt C_3) (bd1 F_23)
 have C_24 : Cam l.prog w K mg base (CX1 l.prog w) "Web" c_Web 5 ["self", "words"] (spWebI K _) := ⟨⟨_, _, ok_Web_init F_24 tt C_23, ⟨mk_Web, M_Web_init.at_, M_Web_init.fn, kc_Web⟩, PySem.W.mg_of X G y_Web, (bd2 F_24)⟩⟩
 have C_25 := mkC l.prog w base X G a_25 F_25 (ok_begin_of F_25 tt) (bd1 F_25)
 have C_26 := mkC l.prog w base X G a_26 F_26 (ok_end_of F_26 tt) (bd1 F_26)
 have C_27 := mkC l.prog w base X G a_27 F_27 (ok_pieces F_27 tt C_25 C_26) (bd1 F_27)
 have C_28 := mkC l.prog w base X G a_28 F_28 (ok_excess F_28 tt C_25 C_26) (bd2 F_28)
 have C_29 := mkC l.prog w base X G a_29 F_29 (ok_hanging_by F_29 tt C_25 C_26) (bd2 F_29)
 have C_30 := mkC l.prog w base X G a_30 F_30 (ok_hanging F_30 tt C_27 C_29) (bd2 F_30)
 have C_31 := mkC l.prog w base X G a_31 F_31 (ok_why_apart F_31 tt C_27 C_30) (bd1 F_31)
 have C_32 := mkC l.prog w base X G a_32 F_32 (ok_why_no_ring F_32 tt C_27 C_28 C_31) (bd1 F_32)
 have C_33 := mkC l.prog w base X G a_33 F_33 (ok_why_no_row F_33 tt C_27 C_28 C_31) (bd1 F_33)
 have C_34 := mkC l.prog w base X G a_34 F_34 (ok_row_ends F_34 tt C_33 C_32 C_27 C_28) (bd1 F_34)
 have C_35 := mkC l.prog w base X G a_35 F_35 (ok_without F_35 tt) (bd2 F_35)
 have C_36 := mkC l.prog w base X G a_36 F_36 (ok_can_go_on F_36 tt C_29 C_25) (bd2 F_36)
 have C_37 := mkC l.prog w base X G a_37 F_37 (ok_least_step F_37 tt C_36 C_35 C_25 C_26) (bd2 F_37)
 have C_38 := mkC l.prog w base X G a_38 F_38 (ok_least_way F_38 tt C_37 C_35 C_26) (bd2 F_38)
 have C_39 := mkC l.prog w base X G a_39 F_39 (ok_least_row F_39 tt C_34 C_38 C_25) (bd1 F_39)
 have C_40 := mkC l.prog w base X G a_40 F_40 (ok_least_ring F_40 tt C_32 C_39) (bd1 F_40)
 have C_41 := mkC l.prog w base X G a_41 F_41 (ok__law_mixed F_41 tt) (bd2 F_41)
 have C_42 := mkC l.prog w base X G a_42 F_42 (ok__law_all F_42 tt) (bd2 F_42)
 have C_43 := mkC l.prog w base X G a_43 F_43 (ok__law_least F_43 tt) (bd1 F_43)
 have C_44 := mkC l.prog w base X G a_44 F_44 (ok__law_first F_44 tt C_43 C_41) (bd2 F_44)
 exact ok_law F_45 tt C_41 C_42 C_44 C_22 C_43 C_24 C_40
theorem walk {l : PySem.W.OpenLaw} {q : Program} {loose : List Str} {XP : (Str → Option Value) → Heap → Prop} {YP : World → Heap → Prop} {d : DefRec} {K : Params → PySem.W.Frag} (hn : l.most = some 63) (hdf : d.params.defaults = [])
  (hY : ∀ (w : World) (h : Heap), YP w h → (K w.params).In h)
  (F : ∀ (w : World) (mg : Str → Option Value) (fa : Addr) (h : Heap), (K w.params).In h → h.Ns mainGlobals mg → mg d.name = some (.ref fa) →
   ∃ fd : FuncData, (∀ (s : Shared) (u : Value), BindsTo s fd ⟨[u], []⟩ [("script", u)]) ∧ ∀ base : Heap, (K w.params).In base → base.Ns mainGlobals mg → FnOk l.prog w (K w.params) mg base (CX1 l.prog w) 9 fa fd ["script"] (spLaw (K w.params))) :
  PySem.W.WalkO q loose XP YP l.row.toRowW d [] (fun f vs => PySem.call f vs) :=
 L2.walk_of (n := 63) (k := 9) (x := "script") (CX := fun w => CX1 l.prog w) (sp := fun w => spLaw (K w.params)) hn (by decide) hdf ⟨rfl, by decide, by decide⟩ hY F (fun _ _ a ns hl _ hS => ⟨a, ns, rfl, hS, hl, fun _ => rfl⟩) fun _ _ _ _ _ ⟨_, _, _, _, _, z⟩ => z
end K60
theorem PySem.W.Fast.tw12070443052084134240 : True := trivial
theorem PySem.W.Fast.tw1468573619971889536 : True := trivial
theorem PySem.W.Fast.tw15188206825765158304 : True := trivial
theorem PySem.W.Fast.tw3810565446757617120 : True := trivial
theorem PySem.W.Fast.tw10653955873783584320 : True := trivial
theorem PySem.W.Fast.tw753478513726516864 : True := trivial
theorem PySem.W.Fast.tw2476133906671118080 : True := trivial
theorem PySem.W.Fast.tw14293304098022653025 : True := trivial
theorem PySem.W.Fast.tw1519241848248233313 : True := trivial
theorem PySem.W.Fast.tw8632343252155845057 : True := trivial
theorem PySem.W.Fast.tw3793135053002031681 : True := trivial
theorem PySem.W.Fast.tw12530885273752256193 : True := trivial
theorem PySem.W.Fast.tw3244140535317233473 : True := trivial
theorem PySem.W.Fast.tw18194325666110090145 : True := trivial
theorem PySem.W.Fast.tw13575216209488773538 : True := trivial
theorem PySem.W.Fast.tw1579847593371817570 : True := trivial
theorem PySem.W.Fast.tw13661847427379932930 : True := trivial
theorem PySem.W.Fast.tw14963637628035062594 : True := trivial
theorem PySem.W.Fast.tw9797321210226206530 : True := trivial
theorem PySem.W.Fast.tw13080748018329371522 : True := trivial
theorem PySem.W.Fast.tw4825292691174047811 : True := trivial
theorem PySem.W.Fast.tw15460335999236661315 : True := trivial
theorem PySem.W.Fast.tw8677377495008002339 : True := trivial
theorem PySem.W.Fast.tw2076186908510450339 : True := trivial
theorem PySem.W.Fast.tw2054097486538530531 : True := trivial
theorem PySem.W.Fast.tw3916905269018297123 : True := trivial
theorem PySem.W.Fast.tw9386166513683824515 : True := trivial
theorem PySem.W.Fast.tw11568236792704926788 : True := trivial
theorem PySem.W.Fast.tw7875871952695988356 : True := trivial
theorem PySem.W.Fast.tw6743397302391198852 : True := trivial
theorem PySem.W.Fast.te12650613701588751524 : True := trivial
theorem PySem.W.Fast.tw9494590804752800964 : True := trivial
theorem PySem.W.Fast.tw2855761836512843268 : True := trivial
theorem PySem.W.Fast.tw3534879914690495236 : True := trivial
theorem PySem.W.Fast.tw7333979831752356644 : True := trivial
theorem PySem.W.Fast.tw11163120022701025349 : True := trivial
theorem PySem.W.Fast.tw14367818600800999589 : True := trivial
theorem PySem.W.Fast.tw5722833286899092645 : True := trivial
theorem PySem.W.Fast.tw7719286681191996709 : True := trivial
theorem PySem.W.Fast.tw12538655690884921893 : True := trivial
theorem PySem.W.Fast.tw13571362672298393317 : True := trivial
theorem PySem.W.Fast.tw9686510844977017637 : True := trivial
theorem PySem.W.Fast.tw108655726890291077 : True := trivial
theorem PySem.W.Fast.tw5950461149138367429 : True := trivial
theorem PySem.W.Fast.tw14194932507054327110 : True := trivial
theorem PySem.W.Fast.tw12566670197968344550 : True := trivial
theorem PySem.W.Fast.tw1520637518611856998 : True := trivial
theorem PySem.W.Fast.tw14108837150453326502 : True := trivial
theorem PySem.W.Fast.tw3661101924388379334 : True := trivial
theorem PySem.W.Fast.tw3098641271770955590 : True := trivial
theorem PySem.W.Fast.tw6179107668653192070 : True := trivial
theorem PySem.W.Fast.tw855384103558262662 : True := trivial
theorem PySem.W.Fast.tw16186642022698508679 : True := trivial
theorem PySem.W.Fast.tw7413432672711163303 : True := trivial
theorem PySem.W.Fast.tw1321491192356181511 : True := trivial
theorem PySem.W.Fast.tw3156734551373503079 : True := trivial
theorem PySem.W.Fast.tw14395379247357945479 : True := trivial
theorem PySem.W.Fast.tw4191329851321162535 : True := trivial
theorem PySem.W.Fast.tw12379860221989990279 : True := trivial
theorem PySem.W.Fast.tw18372537520855137384 : True := trivial
theorem PySem.W.Fast.tw8553308518254342408 : True := trivial
theorem PySem.W.Fast.tw6284759118006648136 : True := trivial
theorem PySem.W.Fast.tw11790262481849625128 : True := trivial
theorem PySem.W.Fast.tw1055630064197887688 : True := trivial
theorem PySem.W.Fast.tw6397713967192074952 : True := trivial
theorem PySem.W.Fast.tw15548413994380249928 : True := trivial
theorem PySem.W.Fast.tw8360437784690756552 : True := trivial
theorem PySem.W.Fast.tw5740534199179886536 : True := trivial
theorem PySem.W.Fast.tw8649623056674036873 : True := trivial
theorem PySem.W.Fast.tw9262552740200620169 : True := trivial
theorem PySem.W.Fast.tw10185609313780446441 : True := trivial
theorem PySem.W.Fast.tw10534686067712867721 : True := trivial
theorem PySem.W.Fast.tw11903341526909443561 : True := trivial
theorem PySem.W.Fast.tw13198305596518567561 : True := trivial
theorem PySem.W.Fast.tw14895512599927152457 : True := trivial
theorem PySem.W.Fast.tw15111542016027568041 : True := trivial
theorem PySem.W.Fast.tw4154382554975024073 : True := trivial
theorem PySem.W.Fast.tw8840503454787015754 : True := trivial
theorem PySem.W.Fast.tw13317481362122577482 : True := trivial
theorem PySem.W.Fast.tw3715124583334091658 : True := trivial
theorem PySem.W.Fast.tw14335111959424649130 : True := trivial
theorem PySem.W.Fast.tw202325556757680267 : True := trivial
theorem PySem.W.Fast.tw12340075797690791147 : True := trivial
theorem PySem.W.Fast.tw7571598399135444587 : True := trivial
theorem PySem.W.Fast.tw2014822183212348299 : True := trivial
theorem PySem.W.Fast.tw598584401785029644 : True := trivial
theorem PySem.W.Fast.tw13585484446327109196 : True := trivial
theorem PySem.W.Fast.tw17414423307231106732 : True := trivial
theorem PySem.W.Fast.tw16405419595989129996 : True := trivial
theorem PySem.W.Fast.tw4398966492443336556 : True := trivial
theorem PySem.W.Fast.tw6087369625912546669 : True := trivial
theorem PySem.W.Fast.tw15376840170869051789 : True := trivial
theorem PySem.W.Fast.tw1673620148199256493 : True := trivial
theorem PySem.W.Fast.tw10404835682935478861 : True := trivial
theorem PySem.W.Fast.tw9036868574953458445 : True := trivial
theorem PySem.W.Fast.tw3549830770570381197 : True := trivial
theorem PySem.W.Fast.tw1561051965577095085 : True := trivial
theorem PySem.W.Fast.tw835092038287705069 : True := trivial
theorem PySem.W.Fast.tw16960216400312466830 : True := trivial
theorem PySem.W.Fast.tw15039362509555998414 : True := trivial
theorem PySem.W.Fast.tw13395531139066975279 : True := trivial
theorem PySem.W.Fast.tw3779488471667374415 : True := trivial
theorem PySem.W.Fast.tw12541329810610434447 : True := trivial
theorem PySem.W.Fast.tw2136206552761110031 : True := trivial
theorem PySem.W.Fast.tw1389709799536079791 : True := trivial
theorem PySem.W.Fast.tw83978411495193040 : True := trivial
theorem PySem.W.Fast.tw5489322841177772624 : True := trivial
theorem PySem.W.Fast.tw3318152948860760752 : True := trivial
theorem PySem.W.Fast.tw11536443486275386288 : True := trivial
theorem PySem.W.Fast.tw13166557004491921617 : True := trivial
theorem PySem.W.Fast.tw10643969404441099665 : True := trivial
theorem PySem.W.Fast.tw13399679247630570129 : True := trivial
theorem PySem.W.Fast.tw163619962165701361 : True := trivial
theorem PySem.W.Fast.tw1363508898326432689 : True := trivial
theorem PySem.W.Fast.tw3491858062338212849 : True := trivial
theorem PySem.W.Fast.tw17360335516199010354 : True := trivial
theorem PySem.W.Fast.tw2736756661484849426 : True := trivial
theorem PySem.W.Fast.tw1993743754001180978 : True := trivial
theorem PySem.W.Fast.tw5645815494958460338 : True := trivial
theorem PySem.W.Fast.tw15299644142213100114 : True := trivial
theorem PySem.W.Fast.tw9582751591315921522 : True := trivial
theorem PySem.W.Fast.tw7684927158604087347 : True := trivial
theorem PySem.W.Fast.tw9648549929632345267 : True := trivial
theorem PySem.W.Fast.tw1330299079319010611 : True := trivial
theorem PySem.W.Fast.tw17984999983717514835 : True := trivial
theorem PySem.W.Fast.tw12939257143726662259 : True := trivial
theorem PySem.W.Fast.tw2129438996541099731 : True := trivial
theorem PySem.W.Fast.tw13416659084065345395 : True := trivial
theorem PySem.W.Fast.tw14005230364271839316 : True := trivial
theorem PySem.W.Fast.tw15516086702558531700 : True := trivial
theorem PySem.W.Fast.tw13686723346815102132 : True := trivial
theorem PySem.W.Fast.tw1745408672768655572 : True := trivial
theorem PySem.W.Fast.tw427967746555389140 : True := trivial
theorem PySem.W.Fast.tw589664777065970132 : True := trivial
theorem PySem.W.Fast.tw275157818807092788 : True := trivial
theorem PySem.W.Fast.tw296584326262285972 : True := trivial
theorem PySem.W.Fast.tw13028001658222029716 : True := trivial
theorem PySem.W.Fast.tw1673242677774673844 : True := trivial
theorem PySem.W.Fast.tw3107946933023016181 : True := trivial
theorem PySem.W.Fast.tw17476653574577796373 : True := trivial
theorem PySem.W.Fast.tw12038894778152785813 : True := trivial
theorem PySem.W.Fast.tw16806976890036590678 : True := trivial
theorem PySem.W.Fast.tw9654417992880737366 : True := trivial
theorem PySem.W.Fast.tw3606257975283378358 : True := trivial
theorem PySem.W.Fast.tw4293453707963273686 : True := trivial
theorem PySem.W.Fast.tw14310839383425219158 : True := trivial
theorem PySem.W.Fast.tw13910690060254933654 : True := trivial
theorem PySem.W.Fast.tw3203533059609487190 : True := trivial
theorem PySem.W.Fast.tw6179648168719982486 : True := trivial
theorem PySem.W.Fast.tw13675346530452136886 : True := trivial
theorem PySem.W.Fast.tw2218324405816272919 : True := trivial
theorem PySem.W.Fast.tw17509721099330957655 : True := trivial
theorem PySem.W.Fast.tw14284121167875520951 : True := trivial
theorem PySem.W.Fast.tw4601902136456083927 : True := trivial
theorem PySem.W.Fast.tw1155784212592243191 : True := trivial
theorem PySem.W.Fast.tw9683839304805848727 : True := trivial
theorem PySem.W.Fast.tw14501290202471278295 : True := trivial
theorem PySem.W.Fast.tw18197148675883085591 : True := trivial
theorem PySem.W.Fast.tw17486902222782812119 : True := trivial
theorem PySem.W.Fast.tw9438536956907255832 : True := trivial
theorem PySem.W.Fast.tw12257687647353590872 : True := trivial
theorem PySem.W.Fast.tw8904283707064532152 : True := trivial
theorem PySem.W.Fast.tw13527172703834145016 : True := trivial
theorem PySem.W.Fast.tw16987623178002351384 : True := trivial
theorem PySem.W.Fast.tw10171000570914954936 : True := trivial
theorem PySem.W.Fast.tw16474515080963184408 : True := trivial
theorem PySem.W.Fast.tw3494683045606717240 : True := trivial
theorem PySem.W.Fast.tw752437667901121400 : True := trivial
theorem PySem.W.Fast.tw6164051238547616664 : True := trivial
theorem PySem.W.Fast.tw6516008928033506329 : True := trivial
theorem PySem.W.Fast.tw14522215688250735673 : True := trivial
theorem PySem.W.Fast.tw12814620668724036665 : True := trivial
theorem PySem.W.Fast.tw8112794370930614457 : True := trivial
theorem PySem.W.Fast.tw383324742426134777 : True := trivial
theorem PySem.W.Fast.tw11609870865885194489 : True := trivial
theorem PySem.W.Fast.tw1077486374158226745 : True := trivial
theorem PySem.W.Fast.tw6292452879625449817 : True := trivial
theorem PySem.W.Fast.tw16438352238506059193 : True := trivial
theorem PySem.W.Fast.tw7131138066672711129 : True := trivial
theorem PySem.W.Fast.tw13221518713973960217 : True := trivial
theorem PySem.W.Fast.tw493437048253618905 : True := trivial
theorem PySem.W.Fast.tw11412215725681867481 : True := trivial
theorem PySem.W.Fast.tw5651178546110408505 : True := trivial
theorem PySem.W.Fast.tw5544972200843641689 : True := trivial
theorem PySem.W.Fast.tw15539567581687964762 : True := trivial
theorem PySem.W.Fast.tw2471932546661810330 : True := trivial
theorem PySem.W.Fast.tw9438139394930327738 : True := trivial
theorem PySem.W.Fast.tw3002414886888352058 : True := trivial
theorem PySem.W.Fast.tw9265701048542972666 : True := trivial
theorem PySem.W.Fast.tw2981141758595036026 : True := trivial
theorem PySem.W.Fast.tw12166421326528067546 : True := trivial
theorem PySem.W.Fast.tw8062314874707126266 : True := trivial
theorem PySem.W.Fast.tw16206632200815116379 : True := trivial
theorem PySem.W.Fast.tw10774556821385369723 : True := trivial
theorem PySem.W.Fast.tw13843546825447472283 : True := trivial
theorem PySem.W.Fast.tw12264736341853009275 : True := trivial
theorem PySem.W.Fast.tw11029612736865193403 : True := trivial
theorem PySem.W.Fast.tw5160545665991228891 : True := trivial
theorem PySem.W.Fast.tw8204455534391935451 : True := trivial
theorem PySem.W.Fast.tw7289594805680350043 : True := trivial
theorem PySem.W.Fast.tw2925076754767944699 : True := trivial
theorem PySem.W.Fast.tw15895256474613446684 : True := trivial
theorem PySem.W.Fast.tw2390035157845835900 : True := trivial
theorem PySem.W.Fast.tw14375737105859791996 : True := trivial
theorem PySem.W.Fast.tw9336764290159059132 : True := trivial
theorem PySem.W.Fast.tw13317498225386211772 : True := trivial
theorem PySem.W.Fast.tw7943124279858132700 : True := trivial
theorem PySem.W.Fast.tw3162920494475513181 : True := trivial
theorem PySem.W.Fast.tw5343748565161559421 : True := trivial
theorem PySem.W.Fast.tw7730067468804633437 : True := trivial
theorem PySem.W.Fast.tw6147843430432570494 : True := trivial
theorem PySem.W.Fast.tw10745281598740283614 : True := trivial
theorem PySem.W.Fast.tw10240688693411014878 : True := trivial
theorem PySem.W.Fast.tw8909887285262495134 : True := trivial
theorem PySem.W.Fast.tw13955075145982558974 : True := trivial
theorem PySem.W.Fast.tw245650815189169950 : True := trivial
theorem PySem.W.Fast.tw4650181647689511774 : True := trivial
theorem PySem.W.Fast.tw16594101530498098303 : True := trivial
theorem PySem.W.Fast.tw6567350656687282367 : True := trivial
theorem PySem.W.Fast.tw6468047793382951167 : True := trivial
theorem PySem.W.Fast.tw17114418249450164511 : True := trivial
theorem PySem.W.Fast.tw16940983784210332991 : True := trivial
theorem PySem.W.Fast.tw5428299770684179967 : True := trivial
theorem PySem.W.Fast.tw2163738651990366751 : True := trivial
theorem PySem.W.Fast.tw6262631226248091327 : True := trivial
theorem PySem.W.Fast.tw7320239094930254559 : True := trivial
theorem PySem.W.Fast.tw5503236379973944063 : True := trivial
theorem PySem.W.Fast.tw10896522705796996991 : True := trivial
def PySem.W.Fast.tw1793173235790834696 := PySem.Challenge.pw_onceround_k60_whole_least_ring
theorem PySem.W.Fast.te1793173235790834696 : PySem.Challenge.pw_onceround_k60_whole_least_ring = PySem.W.Fast.tw1793173235790834696 := rfl
open PySem PySem.W PyProof.Rows
set_option maxRecDepth 100000 in
set_option maxHeartbeats 0 in
theorem PySem.Challenge.cw_onceround_k60_whole_least_ring_holds : PySem.Challenge.rw_onceround_k60_whole_least_ring.Holds := by
  w_on; o_law; k_head; (case hw => w_witness2)
  k_fill
  refine K60.walk (l := PySem.Challenge.rw_onceround_k60_whole_least_ring) rfl rfl (fun w h Y => PySem.W.kIn_of Y) ?F
  case F =>
    intro w mg fa h KX G hmg
    refine' K60.all_mk KX G hmg ?h_0 ?h_1 ?h_2 ?h_3 ?h_4 ?h_5 ?h_6 ?h_7 ?h_8 ?h_9 ?h_10 ?h_11 ?h_12 ?h_13 ?h_14 ?h_15 ?h_16 ?h_17 ?h_18 ?h_19 ?h_20 ?h_21 ?h_22 ?h_23 ?h_24 ?h_25 ?h_26 ?h_27 ?h_28 ?h_29 ?h_30 ?h_31 ?h_32 ?h_33 ?h_34 ?h_35 ?h_36 ?h_37 ?h_38 ?h_39 ?h_40 ?h_41 ?h_42 ?h_43 ?h_44 ?a_45 ?l_45 ?c_45 ?k_45 ?z_all ?z_len ?z_list ?z_range ?z_set ?z_sorted ?z_sum ?z_tuple ?y_BadKinds ?y_BadWord ?y_TooMany ?y_NoSuch ?y_Web ?e_BadKinds ?e_BadWord ?e_TooMany ?e_NoSuch ?g_LETTERS ?r_LETTERS ?g_LONGEST ?r_LONGEST ?g_MOST_WORDS ?r_MOST_WORDS ?g_MOST_OF_A_WEB ?r_MOST_OF_A_WEB ?g_LONGEST_OF_A_WEB ?r_LONGEST_OF_A_WEB ?pg_Web ?hd_Web ?po_Web ?sa_Web ?mk_Web ?kc_Web ?na_Web_words ?na_Web_length
    (case y_Web => k_is)
    (all_goals try (apply K60.hf_mk <;> k_is))
    (case h_24 => apply K60.hm_mk <;> k_is)
    (case a_45 => k_is)
    (case l_45 => k_is)
    (case c_45 => k_is)
    (case k_45 => k_is)
    (case z_all => k_is)
    (case z_len => k_is)
    (case z_list => k_is)
    (case z_range => k_is)
    (case z_set => k_is)
    (case z_sorted => k_is)
    (case z_sum => k_is)
    (case z_tuple => k_is)
    (case y_BadKinds => k_is)
    (case y_BadWord => k_is)
    (case y_TooMany => k_is)
    (case y_NoSuch => k_is)
    (case e_BadKinds => kernel_rfl)
    (case e_BadWord => kernel_rfl)
    (case e_TooMany => kernel_rfl)
    (case e_NoSuch => kernel_rfl)
    (case g_LETTERS => k_is)
    (case r_LETTERS => exact ⟨_, rfl⟩)
    (case g_LONGEST => k_is)
    (case r_LONGEST => exact ⟨_, rfl⟩)
    (case g_MOST_WORDS => k_is)
    (case r_MOST_WORDS => exact ⟨_, rfl⟩)
    (case g_MOST_OF_A_WEB => k_is)
    (case r_MOST_OF_A_WEB => exact ⟨_, rfl⟩)
    (case g_LONGEST_OF_A_WEB => k_is)
    (case r_LONGEST_OF_A_WEB => exact ⟨_, rfl⟩)
    (case pg_Web => k_is)
    (case hd_Web => k_is)
    (case po_Web => k_is)
    (case sa_Web => k_is)
    (case mk_Web => k_is)
    (case kc_Web => k_is)
    (case na_Web_words => k_is)
    (case na_Web_length => k_is)
#print axioms PySem.Challenge.cw_onceround_k60_whole_least_ring_holds
