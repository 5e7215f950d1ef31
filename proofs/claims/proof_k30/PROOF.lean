import PyProof.Rows.All
import Wide.All
import OpenK.AllK
import Wide.FinOn
import Lean
import PyProof.EqAt
import PyProof.EqKinds
import PyProof.TupleCall
import PySem.Challenge.RW_onceround_k30_determinants_of_products
set_option genSizeOfSpec false
set_option bootstrap.genMatcherCode false
-- CHANGE: your row's module here, as the last of these rows
set_option Elab.async false
set_option linter.all false
set_option maxRecDepth 100000
namespace L2
open PySem PySem.Spec PyProof.Rows

noncomputable abbrev Key := Sum Int Str
noncomputable def keyIs : Key → Value → Bool
  | .inl k, v => Value.isInt k v
  | .inr x, v => Value.isStrOf x v
noncomputable def keyH (w : World) : Key → Int
  | .inl k => hashInt k
  | .inr x => hashStr w x
theorem keyIs_shape : ∀ {k : Key} {v : Value}, keyIs k v = true → (∃ i t, k = Sum.inl i ∧ v = Value.int i t) ∨ (∃ x t, k = Sum.inr x ∧ v = Value.str x t)
  | .inl i, v, h => by
    obtain ⟨t, e⟩ := Value.isInt_shape (k := i) (v := v) h
    exact .inl ⟨i, t, rfl, e⟩
  | .inr x, v, h => by
    obtain ⟨t, e⟩ := Value.isStrOf_shape (x := x) (v := v) h
    exact .inr ⟨x, t, rfl, e⟩
theorem key_ll (a b : Int) : decide ((Sum.inl a : Key) = Sum.inl b) = (a == b) := by
  by_cases e : a = b
  · subst e; simp
  · have h : ¬ (Sum.inl a : Key) = Sum.inl b := fun q => e (Sum.inl.inj q)
    rw [decide_eq_false h]
    exact (beq_eq_false_iff_ne.mpr e).symm
theorem key_rr (a b : Str) : decide ((Sum.inr a : Key) = Sum.inr b) = decide (a = b) := by
  by_cases e : a = b
  · subst e; simp
  · have h : ¬ (Sum.inr a : Key) = Sum.inr b := fun q => e (Sum.inr.inj q)
    rw [decide_eq_false h, decide_eq_false e]
theorem key_lr (a : Int) (b : Str) : decide ((Sum.inl a : Key) = Sum.inr b) = false := decide_eq_false (fun q => nomatch q)
theorem key_rl (a : Str) (b : Int) : decide ((Sum.inr a : Key) = Sum.inl b) = false := decide_eq_false (fun q => nomatch q)

noncomputable def mixKind (prog : Program) (w : World) : PySem.KeyKind prog w Key where
  is := keyIs
  hash := keyH w
  inj := fun v a b ha hb => by
    rcases keyIs_shape ha with ⟨i, t, rfl, rfl⟩ | ⟨x, t, rfl, rfl⟩
    · rcases keyIs_shape hb with ⟨j, u, rfl, e⟩ | ⟨y, u, rfl, e⟩
      · injection e with e1 _; rw [e1]
      · exact nomatch e
    · rcases keyIs_shape hb with ⟨j, u, rfl, e⟩ | ⟨y, u, rfl, e⟩
      · exact nomatch e
      · injection e with e1 _; rw [e1]
  byValue := fun k v h => by
    rcases keyIs_shape h with ⟨i, t, rfl, rfl⟩ | ⟨x, t, rfl, rfl⟩ <;> rfl
  pyHash := fun hv h => by
    rcases keyIs_shape hv with ⟨i, t, rfl, rfl⟩ | ⟨x, t, rfl, rfl⟩
    · exact wpAny_pyHash_int h
    · exact wpAny_pyHash_str h
  eqBool := fun hu hv h => by
    rcases keyIs_shape hu with ⟨i, t, rfl, rfl⟩ | ⟨x, t, rfl, rfl⟩
    · rcases keyIs_shape hv with ⟨j, u, rfl, rfl⟩ | ⟨y, u, rfl, rfl⟩
      · rw [key_ll] at h; exact wpAny_eqBool_int h
      · rw [key_lr] at h; exact SeqAt.EqAt.int_str i t y u _ _ _ _ h
    · rcases keyIs_shape hv with ⟨j, u, rfl, rfl⟩ | ⟨y, u, rfl, rfl⟩
      · rw [key_rl] at h; exact SeqAt.EqAt.str_int x t j u _ _ _ _ h
      · rw [key_rr] at h; exact wpAny_eqBool_str h
  «strs» := fun k x t v h => by
    rcases keyIs_shape h with ⟨i, u, rfl, e⟩ | ⟨y, u, rfl, e⟩
    · exact nomatch e
    · injection e with e1 _
      subst e1
      cases v <;> rfl

end L2

namespace L2
open PySem PySem.Spec PyProof.Rows

inductive V where
  | non | bl (b : Bool) | int (i : Int) | str (x : Str) | byt (b : Array UInt8) | flt (b : UInt64) | ref (a : Addr) | ty (n : String)
  deriving DecidableEq

noncomputable def RelV : V → Value → Prop
  | .non, u => u = Value.none
  | .bl b, u => u = Value.bool b
  | .int i, u => ∃ t, u = Value.int i t
  | .str x, u => ∃ t, u = Value.str x t
  | .byt b, u => ∃ t, u = Value.bytes b t
  | .flt b, u => ∃ t, u = Value.float b t
  | .ref a, u => u = Value.ref a
  | .ty n, u => u = Value.type n

noncomputable abbrev Vals : List V → List Value → Prop := Paired RelV
theorem Vals.length {xs : List V} {us : List Value} (r : Vals xs us) : xs.length = us.length := Paired.length r
theorem Vals.get : ∀ {xs : List V} {us : List Value} {i : Nat} {x : V}, Vals xs us → xs[i]? = some x → ∃ u, us[i]? = some u ∧ RelV x u
  | _, _, _, _, .nil, e => by simp at e
  | _, _, 0, _, .cons r _, e => by simp at e; subst e; exact ⟨_, rfl, r⟩
  | _, _, i + 1, x, .cons _ t, e => by
    obtain ⟨u, h1, h2⟩ := Vals.get (i := i) (x := x) t (by simpa using e)
    exact ⟨u, by simpa using h1, h2⟩
theorem Vals.set {x : V} {u : Value} (r : RelV x u) : ∀ {xs : List V} {us : List Value} (i : Nat), Vals xs us → Vals (xs.set i x) (us.set i u)
  | _, _, _, .nil => .nil
  | _, _, 0, .cons _ t => .cons r t
  | _, _, i + 1, .cons q t => .cons q (Vals.set r i t)
theorem Vals.append : ∀ {xs ys : List V} {us ws : List Value}, Vals xs us → Vals ys ws → Vals (xs ++ ys) (us ++ ws)
  | _, _, _, _, .nil, s => s
  | _, _, _, _, .cons r t, s => .cons r (Vals.append t s)
theorem Vals.take : ∀ {xs : List V} {us : List Value} (n : Nat), Vals xs us → Vals (xs.take n) (us.take n)
  | _, _, 0, _ => .nil
  | _, _, _ + 1, .nil => .nil
  | _, _, n + 1, .cons r t => .cons r (Vals.take n t)
theorem Vals.drop : ∀ {xs : List V} {us : List Value} (n : Nat), Vals xs us → Vals (xs.drop n) (us.drop n)
  | _, _, 0, r => r
  | _, _, _ + 1, .nil => .nil
  | _, _, n + 1, .cons _ t => Vals.drop n t
noncomputable def RelO : Option V → Option Value → Prop
  | some v, some u => RelV v u
  | none, none => True
  | _, _ => False
noncomputable def KV {κ : Type} : List (κ × V) → List (κ × Value) → Prop := Paired fun (p : κ × V) (q : κ × Value) => p.1 = q.1 ∧ RelV p.2 q.2

noncomputable def kV : Key → V
  | .inl i => .int i
  | .inr x => .str x

inductive HO where
    | lst (xs : List V)
    | tup (xs : List V)
    | dK (kvs : List (Key × V)) | dT (kvs : List (List Key × V))
    | set (S : Int → Bool) (n : Nat)
    | ins (C dx : Addr) (fs : List (Str × V))
    | own (x : Addr)
    | xd (fs : List (Str × V))
    | met (f x : Addr)
    | rng (lo hi : Int)
    | frz (o : Obj) (u : HO)
    | tbl (ps : Array Value)
    | ext (φ : Heap → Prop)

noncomputable abbrev Hp := Addr → Option HO
noncomputable def upd (H : Hp) (a : Addr) (o : HO) : Hp := fun b => if b = a then some o else H b
theorem upd_same {H : Hp} {a : Addr} {o : HO} : upd H a o a = some o := by unfold upd; rw [if_pos rfl]
theorem upd_ne {H : Hp} {a b : Addr} {o : HO} (h : b ≠ a) : upd H a o b = H b := by unfold upd; rw [if_neg h]
theorem ne_of_none {H : Hp} {a b : Addr} {o : HO} (h : H a = some o) (h' : H b = none) : a ≠ b := by
  intro e; subst e; rw [h] at h'; cases h'

section
variable (P : Program) (w : World)
noncomputable def ObjOk (H : Hp) (h : Heap) (a : Addr) : HO → Prop
  | .lst xs => xs.length ≤ sizeLine ∧ ∃ (its : List Value) (n : Nat), Vals xs its ∧ h.get? a = some { cls := .type "list", data := .seq its.toArray n }
  | .tup xs => xs.length ≤ sizeLine ∧ ∃ its : List Value, Vals xs its ∧ IsTup h a its.toArray
  | .dK kvs => kvs.length ≤ sizeLine ∧ (a == sysModules) = false ∧ ∃ vs, KV kvs vs ∧ h.DictOf (mixKind P w) a vs
  | .dT kvs => kvs.length ≤ sizeLine ∧ (a == sysModules) = false ∧ ∃ xs : List (List Key × Addr × Value),
      Paired (fun (p : List Key × V) (q : List Key × Addr × Value) => p.1 = q.1 ∧ H q.2.1 = some (.tup (p.1.map kV)) ∧ RelV p.2 q.2.2) kvs xs ∧
      ∃ o es ep, h.get? a = some o ∧ o.ExactDict ∧ o.data = .dict es ep ∧ es.toList = xs.map (entryOfKey (tupleKind (mixKind P w))) ∧ (xs.map (·.1)).Nodup
  | .set S n => h.SetOf (intKind P w) a S n
  | .ins C dx fs => H dx = some (.own a) ∧ fs.length ≤ 1000 ∧ dx ≠ a ∧ h.get? a = some (PySem.W.instObj C dx) ∧
      ∃ mA, h.Ns1 dx mA ∧ (∀ f, RelO (fs.lookup f) (mA f)) ∧ PySem.Within mA (fs.map (·.1))
  | .own _ => ∃ o, h.get? a = some o
  | .xd fs => ∃ mA, h.Ns1 a mA ∧ ∀ f, RelO (fs.lookup f) (mA f)
  | .rng lo hi => ∃ t u v, h.get? a = some { cls := .type "range", data := .fields #[.int lo t, .int hi u, .int 1 v] }
  | .frz o u => h.get? a = some o ∧ ObjOk H h a u
  | .tbl ps => h.get? a = some { cls := .none, data := .fields ps }
  | .met f x => h.get? a = some (PySem.W.methodObj (.ref f) (.ref x))
  | .ext φ => φ h ∧ (∃ o, h.get? a = some o) ∧ ∀ h1 h2 : Heap, φ h1 → (∀ o, h1.get? a = some o → h2.get? a = some o) → φ h2
noncomputable def HOk (H : Hp) (h : Heap) : Prop := ∀ a o, H a = some o → ObjOk P w H h a o
end

section
variable {P : Program} {w : World} {H H' : Hp} {h h' : Heap} {a : Addr} {o : HO}
theorem ObjOk.lt (x : ObjOk P w H h a o) : a < h.objs.size := by
  cases o with
  | lst xs => obtain ⟨_, _, _, _, e⟩ := x; exact Heap.lt_size e
  | tup xs => obtain ⟨_, _, _, p⟩ := x; exact p.lt
  | dK kvs => obtain ⟨_, _, _, _, o, _, _, e, _⟩ := x; exact Heap.lt_size e
  | dT kvs => obtain ⟨_, _, _, _, o, _, _, e, _⟩ := x; exact Heap.lt_size e
  | set S n => obtain ⟨o, _, _, _, e, _⟩ := x; exact Heap.lt_size e
  | ins C dx fs => obtain ⟨_, _, _, e, _⟩ := x; exact Heap.lt_size e
  | own y => obtain ⟨_, e⟩ := x; exact Heap.lt_size e
  | xd fs => obtain ⟨_, ⟨_, _, _, e, _⟩, _⟩ := x; exact Heap.lt_size e
  | rng lo hi => obtain ⟨_, _, _, e⟩ := x; exact Heap.lt_size e
  | frz ob u => obtain ⟨e, _⟩ := x; exact Heap.lt_size e
  | tbl ps => exact Heap.lt_size (show h.get? a = some _ from x)
  | met f y => exact Heap.lt_size (show h.get? a = some _ from x)
  | ext φ => obtain ⟨_, ⟨_, e⟩, _⟩ := x; exact Heap.lt_size e
theorem Paired.mapP {α β : Type} {F G : α → β → Prop} : ∀ {l₁ : List α} {l₂ : List β}, Paired F l₁ l₂ → (∀ a b, F a b → G a b) → Paired G l₁ l₂
  | _, _, .nil, _ => .nil
  | _, _, .cons r t, f => .cons (f _ _ r) (Paired.mapP t f)
theorem ObjOk.stay (x : ObjOk P w H h a o) (k : ∀ b u, (b = a ∨ H b = some (.own a)) → h.get? b = some u → h'.get? b = some u)
    (ho : ∀ b, H b = some (.own a) → H' b = some (.own a)) (ht : ∀ b xs, H b = some (.tup xs) → H' b = some (.tup xs)) : ObjOk P w H' h' a o := by
  induction o with
  | lst xs => obtain ⟨z, its, n, r, e⟩ := x; exact ⟨z, its, n, r, k _ _ (.inl rfl) e⟩
  | tup xs => obtain ⟨z, its, r, ob, e, c⟩ := x; exact ⟨z, its, r, ob, k _ _ (.inl rfl) e, c⟩
  | dK kvs => obtain ⟨z, y, vs, r, ob, es, ep, e, c⟩ := x; exact ⟨z, y, vs, r, ob, es, ep, k _ _ (.inl rfl) e, c⟩
  | dT kvs =>
    obtain ⟨z, y, xs, r, ob, es, ep, e, c⟩ := x
    exact ⟨z, y, xs, Paired.mapP r fun p q z => ⟨z.1, ht _ _ z.2.1, z.2.2⟩, ob, es, ep, k _ _ (.inl rfl) e, c⟩
  | set S n => obtain ⟨ob, es, ep, t, e, c⟩ := x; exact ⟨ob, es, ep, t, k _ _ (.inl rfl) e, c⟩
  | ins C dx fs =>
    obtain ⟨d, z, ne, e, mA, ⟨od, es, ep, e2, c⟩, r⟩ := x
    exact ⟨ho _ d, z, ne, k _ _ (.inl rfl) e, mA, ⟨od, es, ep, k _ _ (.inr d) e2, c⟩, r⟩
  | own y => obtain ⟨ob, e⟩ := x; exact ⟨ob, k _ _ (.inl rfl) e⟩
  | xd fs => obtain ⟨mA, ⟨od, es, ep, e, c⟩, r⟩ := x; exact ⟨mA, ⟨od, es, ep, k _ _ (.inl rfl) e, c⟩, r⟩
  | rng lo hi => obtain ⟨t, u, v, e⟩ := x; exact ⟨t, u, v, k _ _ (.inl rfl) e⟩
  | frz ob u ih => obtain ⟨e, q⟩ := x; exact ⟨k _ _ (.inl rfl) e, ih q⟩
  | tbl ps =>
    have e : h.get? a = some { cls := .none, data := .fields ps } := x
    show h'.get? a = some { cls := .none, data := .fields ps }
    exact k a _ (.inl rfl) e
  | met f y =>
    have e : h.get? a = some (PySem.W.methodObj (.ref f) (.ref y)) := x
    show h'.get? a = some (PySem.W.methodObj (.ref f) (.ref y))
    exact k a _ (.inl rfl) e
  | ext φ => obtain ⟨p, ⟨o, e⟩, st⟩ := x; exact ⟨st _ _ p fun o q => k _ _ (.inl rfl) q, ⟨o, k _ _ (.inl rfl) e⟩, st⟩
theorem HOk.lt (x : HOk P w H h) (e : H a = some o) : a < h.objs.size := (x a o e).lt
theorem HOk.fresh (x : HOk P w H h) (e : h.objs.size ≤ a) : H a = none := by
  cases q : H a with
  | none => rfl
  | some u => exact absurd (Nat.lt_of_lt_of_le (x.lt q) e) (Nat.lt_irrefl _)
theorem HOk.kept (x : HOk P w H h) (k : ∀ b u, h.get? b = some u → h'.get? b = some u) : HOk P w H h' := fun a o e =>
  (x a o e).stay (fun b u _ q => k b u q) (fun _ q => q) fun _ _ q => q
theorem HOk.laid (x : HOk P w H h) (k : ∀ b u, h.get? b = some u → h'.get? b = some u) (hp : h.objs.size ≤ a) (new : ObjOk P w (upd H a o) h' a o) : HOk P w (upd H a o) h' := fun b u e => by
  have hn := x.fresh hp
  by_cases hb : b = a
  · subst hb; rw [upd_same] at e; cases e; exact new
  · rw [upd_ne hb] at e
    exact (x b u e).stay (fun c v _ q => k c v q) (fun c q => by rw [upd_ne (ne_of_none q hn)]; exact q) fun c xs q => by rw [upd_ne (ne_of_none q hn)]; exact q
end

noncomputable def Rd (H : Hp) (a : Addr) (u : HO) : Prop := H a = some u ∨ ∃ o, H a = some (.frz o u)
theorem Rd.ok {P : Program} {w : World} {H : Hp} {h : Heap} {a : Addr} {u : HO} (r : Rd H a u) (x : HOk P w H h) : ObjOk P w H h a u := by
  rcases r with r | ⟨o, r⟩
  · exact x a u r
  · obtain ⟨_, q⟩ := x a _ r
    exact q
noncomputable def Mut : Option HO → Prop
  | some (.lst _) => True
  | some (.dK _) => True
  | some (.dT _) => True
  | some (.set _ _) => True
  | some (.ins _ _ _) => True
  | some (.ext _) => True
  | _ => False
section
variable {P : Program} {w : World} {H : Hp} {h h' : Heap} {x e : Addr} {o' : HO}
theorem HOk.write (ok : HOk P w H h) (mu : Mut (H x)) (he : e = x ∨ H e = some (.own x)) (k : ∀ b u, b ≠ e → h.get? b = some u → h'.get? b = some u) (heo : ∃ u, h'.get? e = some u)
    (new : ObjOk P w (upd H x o') h' x o') : HOk P w (upd H x o') h' := fun b u q => by
  have nown : ∀ c y, H c = some (.own y) → c ≠ x := fun c y r z => by subst z; rw [r] at mu; exact mu
  have ntup : ∀ c xs, H c = some (.tup xs) → c ≠ x := fun c xs r z => by subst z; rw [r] at mu; exact mu
  by_cases hb : b = x
  · subst hb; rw [upd_same] at q; cases q; exact new
  · rw [upd_ne hb] at q
    by_cases hbe : b = e
    · have q' : H b = some (.own x) := by
        rcases he with z | z
        · exact absurd (hbe.trans z) hb
        · rw [hbe]; exact z
      rw [q] at q'; cases q'
      obtain ⟨v, hv⟩ := heo
      exact ⟨v, by rw [hbe]; exact hv⟩
    · refine (ok b u q).stay (fun c v hc r => k c v ?_ r) (fun c r => by rw [upd_ne (nown c b r)]; exact r) fun c xs r => by rw [upd_ne (ntup c xs r)]; exact r
      rcases hc with rfl | hc
      · exact hbe
      · rintro rfl
        rcases he with z | z
        · exact nown c b hc z
        · rw [hc] at z; cases z; exact hb rfl
end

set_option genInjectivity false in
structure Un (fs ex : List Addr) (H H' : Hp) (h h' : Heap) : Prop where
  keep : ∀ b o, h.get? b = some o → H b = none → b ∉ fs → b ∉ ex → h'.get? b = some o
  slot : ∀ b o, h.get? b = some o → H b = none → b ∈ fs → b ∉ ex → ∃ sl, h'.get? b = some { o with slots := sl }
  free : ∀ b o, h.get? b = some o → H b = none → b ∉ ex → H' b = none
  there : ∀ b o, h.get? b = some o → b ∉ ex → ∃ o', h'.get? b = some o'
  tups : ∀ b xs, H b = some (.tup xs) → H' b = some (.tup xs)
  frzs : ∀ b o u, H b = some (.frz o u) → H' b = some (.frz o u)
  tbls : ∀ b ps, H b = some (.tbl ps) → ∃ more, H' b = some (.tbl (ps ++ more))
section
variable {fs fs' ex ex' : List Addr} {H H1 H2 : Hp} {h h1 h2 h' : Heap} {a x e : Addr} {o : HO}
theorem Un.any (u : Un fs ex H H1 h h1) {b : Addr} {ob : Obj} (q : h.get? b = some ob) (n : H b = none) (hx : b ∉ ex) : ∃ sl, h1.get? b = some { ob with slots := sl } := by
  by_cases hb : b ∈ fs
  · exact u.slot b ob q n hb hx
  · exact ⟨ob.slots, u.keep b ob q n hb hx⟩
theorem Un.kept (k : ∀ b u, h.get? b = some u → h'.get? b = some u) : Un fs ex H H h h' :=
  ⟨fun b ob q _ _ _ => k b ob q, fun b ob q _ _ _ => ⟨ob.slots, k b ob q⟩, fun _ _ _ n _ => n, fun b ob q _ => ⟨ob, k b ob q⟩, fun _ _ q => q, fun _ _ _ q => q, fun _ ps q => ⟨#[], by rw [q]; simp⟩⟩
theorem Un.refl : Un fs ex H H h h := Un.kept fun _ _ q => q
theorem Un.laid (k : ∀ b u, h.get? b = some u → h'.get? b = some u) (hp : h.objs.size ≤ a) (hn : H a = none) : Un fs ex H (upd H a o) h h' where
  keep := fun b u q _ _ _ => k b u q
  slot := fun b u q _ _ _ => ⟨u.slots, k b u q⟩
  free := fun b u q n _ => by rw [upd_ne (Nat.ne_of_lt (Nat.lt_of_lt_of_le (Heap.lt_size q) hp))]; exact n
  there := fun b u q _ => ⟨u, k b u q⟩
  tups := fun b xs q => by rw [upd_ne (ne_of_none q hn)]; exact q
  frzs := fun b u xs q => by rw [upd_ne (ne_of_none q hn)]; exact q
  tbls := fun b ps q => ⟨#[], by rw [upd_ne (ne_of_none q hn), q]; simp⟩
theorem Un.write (mu : Mut (H x)) (he : e = x ∨ H e = some (.own x)) (k : ∀ b u, b ≠ e → h.get? b = some u → h'.get? b = some u) (heo : ∃ u, h'.get? e = some u) : Un fs ex H (upd H x o) h h' := by
  have hx : ∀ b, H b = none → b ≠ x := fun b n z => by subst z; rw [n] at mu; exact mu
  have hb : ∀ b, H b = none → b ≠ e := fun b n z => by
    subst z
    rcases he with r | r
    · exact hx b n r
    · rw [n] at r; cases r
  have hm : ∀ b u, H b = some u → ¬ Mut (some u) → b ≠ x := fun b u q nm z => by subst z; rw [q] at mu; exact nm mu
  refine ⟨fun b u q n _ _ => k b u (hb b n) q, fun b u q n _ _ => ⟨u.slots, k b u (hb b n) q⟩, fun b u q n _ => by rw [upd_ne (hx b n)]; exact n, fun b u q _ => ?_,
    fun b xs q => by rw [upd_ne (hm b _ q fun z => z)]; exact q, fun b u xs q => by rw [upd_ne (hm b _ q fun z => z)]; exact q, fun b ps q => ⟨#[], by rw [upd_ne (hm b _ q fun z => z), q]; simp⟩⟩
  by_cases hbe : b = e
  · subst hbe; exact heo
  · exact ⟨u, k b u hbe q⟩
end

noncomputable def trk (h : Heap) (H : Hp) : List Addr := (List.range h.objs.size).filter fun a => (H a).isSome
noncomputable def hidT (h : Heap) (H : Hp) : Heap := PySem.W.hideAll h (trk h H)
theorem hidT_size (h : Heap) (H : Hp) : (hidT h H).objs.size = h.objs.size := PySem.W.hideAll_size _ _
theorem hidT_get {h : Heap} {H : Hp} {b : Addr} {o : Obj} (e : h.get? b = some o) (n : H b = none) : (hidT h H).get? b = some o :=
  PySem.W.hideAll_get _ e fun hm => by
    have q : (H b).isSome = true := (List.mem_filter.mp hm).2
    rw [n] at q; simp at q
theorem of_hidT {h : Heap} {H : Hp} {b : Addr} {o : Obj} (e : (hidT h H).get? b = some o) : h.get? b = some o ∧ H b = none := by
  have e' : h.get? b = some o := PySem.W.of_hideAll (trk h H) e
  refine ⟨e', ?_⟩
  cases q : H b with
  | none => rfl
  | some x =>
    have hm : b ∈ trk h H := List.mem_filter.mpr ⟨List.mem_range.mpr (Heap.lt_size e'), by simp [q]⟩
    have z : (hidT h H).get? b = none := PySem.W.hideAll_none (trk h H) hm
    rw [z] at e; cases e

noncomputable def allNews (g h : Heap) (L : Addr) : List (Addr × Obj) := (List.range h.objs.size).filterMap fun a => if a = L ∨ (g.get? a).isSome = true then none else (h.get? a).map fun o => (a, o)
noncomputable def rest (g h : Heap) (L d : Addr) : List (Addr × Obj) := (allNews g h L).filter fun p => decide (p.1 ≠ d)
end L2

namespace L2
open PySem PySem.Spec PyProof.Rows

set_option genInjectivity false in
structure Mod (K : PySem.W.Frag) (mg : Str → Option Value) (base : Heap) : Prop where
  kin : K.In base
  glob : base.Ns mainGlobals mg
  blt : ∃ mb, base.Ns builtinsNs mb ∧ ∀ x : Str, x ≠ "__name__" → mb x = bootBuiltins x
  nolimit : base.NoLimit

set_option genInjectivity false in
structure Cx where
  prog : Program
  w : World
  K : PySem.W.Frag
  mg : Str → Option Value
  base : Heap
  A : Around
  N : List Str
  s₀ : Shared
  H₀ : Hp
  env : Env
  outer : List Env
  stack : List Env
  ex : List Addr
  fn : Str → Bool
  calm : Bool
  pn : List (Addr × Obj)
  xe : Value → Shared → Prop
noncomputable def frs (l : List Env) : List Addr := l.filterMap (·.frame)
noncomputable abbrev Cx.fs (X : Cx) : List Addr := frs X.outer

noncomputable def Vis (sc : Scope) (x : Str) : Prop := sc.names.lookup x = some .local ∨ sc.names.lookup x = some .cell ∨ sc.names.lookup x = some .free
noncomputable def Loc (sc : Scope) (x : Str) : Prop := sc.names.lookup x = some .local ∨ sc.names.lookup x = some .cell
noncomputable def Look (env : Env) (h : Heap) (m : Str → Option Value) (x : Str) (u : Value) : Prop :=
  (env.kindOf x = some .local ∧ m x = some u) ∨ ((env.kindOf x = some .cell ∨ env.kindOf x = some .free) ∧ ∃ c, env.cells.lookup x = some c ∧ h.IsCell c (some u))

set_option genInjectivity false in
structure Cx.Ok (X : Cx) : Prop where
  mod : Mod X.K X.mg X.base
  kind : X.env.scope.kind = .function
  glob : X.env.globals = mainGlobals
  blt : X.env.builtins = builtinsNs
  above : X.s₀.heap.objs.size ≤ X.env.locals
  inj : ∀ x y c, X.env.cells.lookup x = some c → X.env.cells.lookup y = some c → x = y
  has : ∀ x, (X.env.kindOf x = some .cell ∨ X.env.kindOf x = some .free) → ∃ c, X.env.cells.lookup x = some c
  cab : ∀ x c, X.fn x = true → X.env.cells.lookup x = some c → X.s₀.heap.objs.size ≤ c
  hd : X.calm = true → X.A.handled = none
  frames : X.A.frames = some X.stack
  stk : X.stack = X.outer ∨ (X.stack = X.env :: X.outer ∧ X.env.frame = some X.env.locals)
  exf : ∀ b ∈ X.ex, b ≠ X.env.locals ∧ ∀ x c, X.env.cells.lookup x = some c → c ≠ b
  bs : ∀ b o, X.base.get? b = some o → X.s₀.heap.get? b = some o ∧ X.H₀ b = none
  bsz : X.base.objs.size ≤ X.s₀.heap.objs.size
  noex : ∀ b o, X.base.get? b = some o → b ∉ X.ex
  exfs : ∀ b ∈ X.ex, b ∉ X.fs
  funs : X.s₀.heap.FunFrames X.base X.outer
  frf : ∀ b ∈ X.fs, X.H₀ b = none

set_option genInjectivity false in
structure Inv (X : Cx) (pins : List (Addr × Obj)) (σ : List (Option V)) (H : Hp) (s : Shared) : Prop where
  ok : X.Ok
  os : s.os = X.s₀.os
  bare : AllBare s.gens
  base : Un X.fs X.ex X.H₀ H X.s₀.heap s.heap
  loc : ∃ m, s.heap.Ns X.env.locals m ∧ ∀ (i : Nat) (x : Str) (v : V), X.N[i]? = some x → σ[i]? = some (some v) → Vis X.env.scope x → ∃ u, RelV v u ∧ Look X.env s.heap m x u
  cell : ∀ x c, X.env.cells.lookup x = some c → ∃ v, s.heap.IsCell c v
  free : H X.env.locals = none
  freeC : ∀ x c, X.env.cells.lookup x = some c → H c = none
  pin : ∀ p ∈ X.pn ++ pins, s.heap.get? p.1 = some p.2 ∧ H p.1 = none ∧ p.1 ≠ X.env.locals ∧ p.1 ∉ X.fs ∧ ∀ v, p.2.data ≠ .cell v
  hok : HOk X.prog X.w H s.heap
  len : σ.length = X.N.length

section
variable {X : Cx} {pins : List (Addr × Obj)} {σ : List (Option V)} {H H' : Hp} {s : Shared} {h' : Heap}

theorem Cx.Ok.nofr (ok : X.Ok) {b : Addr} {o : Obj} (e : X.base.get? b = some o) : b ∉ X.fs := fun hb => by
  have := (ok.funs.mem hb).1
  rw [e] at this; cases this
theorem Inv.bs (I : Inv X pins σ H s) : ∀ b o, X.base.get? b = some o → s.heap.get? b = some o ∧ H b = none := fun b o e =>
  ⟨I.base.keep b o (I.ok.bs b o e).1 (I.ok.bs b o e).2 (I.ok.nofr e) (I.ok.noex b o e), I.base.free b o (I.ok.bs b o e).1 (I.ok.bs b o e).2 (I.ok.noex b o e)⟩
theorem Inv.bk (I : Inv X pins σ H s) : ∀ b o, X.base.get? b = some o → s.heap.get? b = some o := fun b o e => (I.bs b o e).1
theorem Inv.mod (I : Inv X pins σ H s) : Mod X.K X.mg X.base := I.ok.mod
theorem Inv.kIn (I : Inv X pins σ H s) : X.K.In s.heap := I.ok.mod.kin.keeps I.bk
theorem Inv.lt (I : Inv X pins σ H s) : X.env.locals < s.heap.objs.size := let ⟨_, hn, _⟩ := I.loc; hn.lt
theorem Inv.sz (I : Inv X pins σ H s) : X.s₀.heap.objs.size ≤ s.heap.objs.size := Nat.le_trans I.ok.above (Nat.le_of_lt I.lt)
theorem Inv.nofs (I : Inv X pins σ H s) {a : Addr} (h : s.heap.objs.size ≤ a) : a ∉ X.fs := fun hb => by
  obtain ⟨_, o, ho, _⟩ := I.ok.funs.mem hb
  exact absurd (Nat.lt_of_lt_of_le (Heap.lt_size ho) (Nat.le_trans I.sz h)) (Nat.lt_irrefl _)
theorem Inv.cne (I : Inv X pins σ H s) : ∀ x c, X.env.cells.lookup x = some c → c ≠ X.env.locals := fun x c e z => by
  obtain ⟨v, o, ho, hd⟩ := I.cell x c e
  obtain ⟨m, ⟨o', es, ep, ho', hd', _⟩, _⟩ := I.loc
  rw [z, ho'] at ho; cases ho; rw [hd'] at hd; cases hd
theorem Inv.funs (I : Inv X pins σ H s) : s.heap.FunFrames X.base X.outer := by
  have all : ∀ (l : List Env), (∀ b ∈ frs l, b ∈ X.fs) → X.s₀.heap.FunFrames X.base l → s.heap.FunFrames X.base l := by
    intro l
    induction l with
    | nil => intro _ _; trivial
    | cons env r ih =>
      intro hs hl
      obtain ⟨hk, ⟨L, o, hf, hn, ho, hd⟩, hr⟩ := hl
      have hL : L ∈ X.fs := hs L (by unfold frs; rw [List.filterMap_cons, hf]; exact List.mem_cons_self)
      obtain ⟨sl, e⟩ := I.base.slot L o ho (I.ok.frf L hL) hL fun z => I.ok.exfs L z hL
      exact ⟨hk, ⟨L, _, hf, hn, e, hd⟩, ih (fun b hb => hs b (by unfold frs; rw [List.filterMap_cons, hf]; exact List.mem_cons_of_mem _ hb)) hr⟩
  exact all X.outer (fun _ hb => hb) I.ok.funs

theorem Inv.stack (I : Inv X pins σ H s) : s.heap.FunFrames X.base X.stack := by
  rcases I.ok.stk with e | ⟨e, hf⟩
  · rw [e]; exact I.funs
  · rw [e]
    obtain ⟨m, hn, _⟩ := I.loc
    refine .cons (by rw [I.ok.kind]; decide) hf hn ?_ I.funs
    exact Heap.get?_none_of_le (Nat.le_trans I.ok.bsz I.ok.above)
theorem Inv.stkSub (I : Inv X pins σ H s) : ∀ b ∈ frs X.stack, b ∈ X.env.locals :: X.fs := fun b hb => by
  rcases I.ok.stk with e | ⟨e, hf⟩
  · rw [e] at hb; exact List.mem_cons_of_mem _ hb
  · rw [e] at hb
    unfold frs at hb
    rw [List.filterMap_cons, hf] at hb
    exact hb
theorem Inv.stkFree (I : Inv X pins σ H s) : ∀ b ∈ frs X.stack, H b = none := fun b hb => by
  rcases List.mem_cons.mp (I.stkSub b hb) with e | hb
  · rw [e]; exact I.free
  · obtain ⟨_, o, ho, _⟩ := I.ok.funs.mem hb
    exact I.base.free b o ho (I.ok.frf b hb) fun z => I.ok.exfs b z hb

theorem Inv.step {g' : Array GenState} {t' : Nat} {d' : Drawn} {ch : List Addr} (I : Inv X pins σ H s)
    (hch : ∀ b ∈ ch, (b ∈ X.ex ∨ X.s₀.heap.objs.size ≤ b) ∧ b ≠ X.env.locals ∧ (∀ x c, X.env.cells.lookup x = some c → c ≠ b) ∧ ∀ p ∈ X.pn ++ pins, p.1 ≠ b)
    (keep : ∀ b o, b ≠ X.env.locals → b ∉ X.fs → b ∉ ch → s.heap.get? b = some o → H b = none → h'.get? b = some o)
    (slot : ∀ b o, b ≠ X.env.locals → b ∈ X.fs → b ∉ ch → s.heap.get? b = some o → H b = none → ∃ sl, h'.get? b = some { o with slots := sl }) (free : ∀ b o, b ∉ ch → s.heap.get? b = some o → H b = none → H' b = none)
    (there : ∀ b o, b ∉ ch → s.heap.get? b = some o → ∃ o', h'.get? b = some o')
    (tups : ∀ b xs, H b = some (.tup xs) → H' b = some (.tup xs)) (frzs : ∀ b o u, H b = some (.frz o u) → H' b = some (.frz o u)) (tbls : ∀ b ps, H b = some (.tbl ps) → ∃ more, H' b = some (.tbl (ps ++ more)))
    (ns : ∀ m, s.heap.Ns X.env.locals m → h'.Ns X.env.locals m) (hok : HOk X.prog X.w H' h') (hg : AllBare g') :
    Inv X pins σ H' { s with heap := h', gens := g', drawn := d', toks := t' } := by
  have neL : ∀ b o, X.s₀.heap.get? b = some o → b ≠ X.env.locals := fun b o e => Nat.ne_of_lt (Nat.lt_of_lt_of_le (Heap.lt_size e) I.ok.above)
  have neC : ∀ b o, X.s₀.heap.get? b = some o → b ∉ X.ex → b ∉ ch := fun b o e hx hb => by
    rcases (hch b hb).1 with z | z
    · exact hx z
    · exact absurd (Nat.lt_of_lt_of_le (Heap.lt_size e) z) (Nat.lt_irrefl _)
  have cellK : ∀ x c, X.env.cells.lookup x = some c → ∀ v, s.heap.IsCell c v → h'.IsCell c v := fun x c e v ⟨o, ho, hd⟩ => by
    have nch : c ∉ ch := fun z => (hch c z).2.2.1 x c e rfl
    by_cases hc : c ∈ X.fs
    · obtain ⟨sl, q⟩ := slot c o (I.cne x c e) hc nch ho (I.freeC x c e)
      exact ⟨_, q, hd⟩
    · exact ⟨o, keep c o (I.cne x c e) hc nch ho (I.freeC x c e), hd⟩
  refine ⟨I.ok, I.os, hg, ⟨fun b o e n hb hx => ?_, fun b o e n hb hx => ?_, fun b o e n hx => ?_, fun b o e hx => ?_, fun b xs e => tups b xs (I.base.tups b xs e), fun b o xs e => frzs b o xs (I.base.frzs b o xs e), fun b ps e => ?_⟩, ?_, fun x c e => ?_, ?_, fun x c e => ?_, fun p hp => ?_, hok, I.len⟩
  · exact keep b o (neL b o e) hb (neC b o e hx) (I.base.keep b o e n hb hx) (I.base.free b o e n hx)
  · obtain ⟨sl, e1⟩ := I.base.slot b o e n hb hx
    obtain ⟨sl', e2⟩ := slot b _ (neL b o e) hb (neC b o e hx) e1 (I.base.free b o e n hx)
    exact ⟨sl', e2⟩
  · obtain ⟨o', e1⟩ := I.base.there b o e hx
    exact free b o' (neC b o e hx) e1 (I.base.free b o e n hx)
  · obtain ⟨o', e1⟩ := I.base.there b o e hx
    exact there b o' (neC b o e hx) e1
  · obtain ⟨m1, e1⟩ := I.base.tbls b ps e
    obtain ⟨m2, e2⟩ := tbls b _ e1
    exact ⟨m1 ++ m2, by rw [e2, Array.append_assoc]⟩
  · obtain ⟨m, hn, hl⟩ := I.loc
    refine ⟨m, ns m hn, fun i x v e1 e2 e3 => ?_⟩
    obtain ⟨u, r, l⟩ := hl i x v e1 e2 e3
    refine ⟨u, r, ?_⟩
    rcases l with l | ⟨k, c, e, z⟩
    · exact .inl l
    · exact .inr ⟨k, c, e, cellK x c e _ z⟩
  · obtain ⟨v, z⟩ := I.cell x c e
    exact ⟨v, cellK x c e v z⟩
  · obtain ⟨m, ⟨o, _, _, ho, _⟩, _⟩ := I.loc
    exact free _ o (fun z => (hch _ z).2.1 rfl) ho I.free
  · obtain ⟨v, o, ho, hd⟩ := I.cell x c e
    exact free c o (fun z => (hch c z).2.2.1 x c e rfl) ho (I.freeC x c e)
  · obtain ⟨e, n, ne, nf, d⟩ := I.pin p hp
    have nch : p.1 ∉ ch := fun z => (hch p.1 z).2.2.2 p hp rfl
    exact ⟨keep p.1 p.2 ne nf nch e n, free p.1 p.2 nch e n, ne, nf, d⟩
theorem Inv.un {t' : Nat} (I : Inv X pins σ H s) (u : Un X.fs [] H H' s.heap h') (hok : HOk X.prog X.w H' h') : Inv X pins σ H' { s with heap := h', toks := t' } := by
  obtain ⟨m, ⟨o, es, ep, ho, r⟩, _⟩ := id I.loc
  obtain ⟨sl, hL⟩ := u.any ho I.free (by simp)
  exact I.step (g' := s.gens) (d' := s.drawn) (ch := []) (fun _ z => nomatch z) (fun b o _ hb _ e n => u.keep b o e n hb (by simp)) (fun b o _ hb _ e n => u.slot b o e n hb (by simp)) (fun b o _ e n => u.free b o e n (by simp)) (fun b o _ e => u.there b o e (by simp)) u.tups u.frzs u.tbls (fun m' hm => by
    obtain ⟨o', es', ep', ho', r'⟩ := hm
    rw [ho] at ho'; cases ho'
    exact ⟨_, es', ep', hL, r'⟩) hok I.bare
theorem Inv.call {g' : Array GenState} {t' : Nat} {d' : Drawn} {ch : List Addr} (I : Inv X pins σ H s) (u : Un (frs X.stack) ch H H' s.heap h') (hok : HOk X.prog X.w H' h') (hg : AllBare g')
    (hch : ∀ b ∈ ch, (b ∈ X.ex ∨ X.s₀.heap.objs.size ≤ b) ∧ b ≠ X.env.locals ∧ (∀ x c, X.env.cells.lookup x = some c → c ≠ b) ∧ ∀ p ∈ X.pn ++ pins, p.1 ≠ b) :
    Inv X pins σ H' { s with heap := h', gens := g', drawn := d', toks := t' } := by
  obtain ⟨m, ⟨o, es, ep, ho, r⟩, _⟩ := id I.loc
  obtain ⟨sl, hL⟩ := u.any ho I.free fun z => (hch _ z).2.1 rfl
  exact I.step (ch := ch) hch (fun b o hL hb hc e n => u.keep b o e n (fun z => (List.mem_cons.mp (I.stkSub b z)).elim hL hb) hc) (fun b o _ _ hc e n => u.any e n hc) (fun b o hc e n => u.free b o e n hc) (fun b o hc e => u.there b o e hc) u.tups u.frzs u.tbls (fun m' hm => by
    obtain ⟨o', es', ep', ho', r'⟩ := hm
    rw [ho] at ho'; cases ho'
    exact ⟨_, es', ep', hL, r'⟩) hok hg
theorem Inv.turned {t' : Nat} {it : Addr} (I : Inv X pins σ H s) (k : ∀ b o, b ≠ it → s.heap.get? b = some o → h'.get? b = some o) (hn : H it = none) (hL : it ≠ X.env.locals)
    (h1 : it ∈ X.ex ∨ X.s₀.heap.objs.size ≤ it) (h2 : ∀ x c, X.env.cells.lookup x = some c → c ≠ it) (h3 : ∀ p ∈ X.pn ++ pins, p.1 ≠ it) : Inv X pins σ H { s with heap := h', toks := t' } := by
  have nit : ∀ b u, H b = some u → b ≠ it := fun b u e z => by rw [z, hn] at e; cases e
  refine I.step (g' := s.gens) (d' := s.drawn) (ch := [it]) (fun b hb => ?_) (fun b o _ _ hc e _ => k b o (fun z => hc (by simp [z])) e) (fun b o _ _ hc e _ => ⟨o.slots, k b o (fun z => hc (by simp [z])) e⟩) (fun _ _ _ _ n => n)
    (fun b o hc e => ⟨o, k b o (fun z => hc (by simp [z])) e⟩) (fun _ _ e => e) (fun _ _ _ e => e) (fun b ps e => ⟨#[], by rw [e]; simp⟩) (fun m hm => ?_) (fun b u e => ?_) I.bare
  · have e : b = it := by simpa using hb
    subst e
    exact ⟨h1, hL, h2, h3⟩
  · obtain ⟨o, es, ep, ho, r⟩ := hm
    exact ⟨o, es, ep, k _ o (Ne.symm hL) ho, r⟩
  · refine (I.hok b u e).stay (fun c v hc q => k c v ?_ q) (fun _ q => q) fun _ _ q => q
    rcases hc with z | z
    · rw [z]; exact nit b u e
    · exact nit c _ z
theorem Inv.tok (I : Inv X pins σ H s) (t : Nat) : Inv X pins σ H { s with toks := t } := I.un (h' := s.heap) (t' := t) Un.refl I.hok
theorem Inv.kept {t' : Nat} (I : Inv X pins σ H s) (k : ∀ b u, s.heap.get? b = some u → h'.get? b = some u) : Inv X pins σ H { s with heap := h', toks := t' } := I.un (Un.kept k) (I.hok.kept k)
theorem Inv.laid {a : Addr} {o : HO} {t' : Nat} (I : Inv X pins σ H s) (k : ∀ b u, s.heap.get? b = some u → h'.get? b = some u) (hp : s.heap.objs.size ≤ a) (new : ObjOk X.prog X.w (upd H a o) h' a o) :
    Inv X pins σ (upd H a o) { s with heap := h', toks := t' } := I.un (Un.laid k hp (I.hok.fresh hp)) (I.hok.laid k hp new)
theorem Inv.write {x e : Addr} {o : HO} {t' : Nat} (I : Inv X pins σ H s) (mu : Mut (H x)) (he : e = x ∨ H e = some (.own x)) (k : ∀ b u, b ≠ e → s.heap.get? b = some u → h'.get? b = some u) (heo : ∃ u, h'.get? e = some u)
    (new : ObjOk X.prog X.w (upd H x o) h' x o) : Inv X pins σ (upd H x o) { s with heap := h', toks := t' } := I.un (Un.write mu he k heo) (I.hok.write mu he k heo new)
theorem Inv.pins_of {pins' : List (Addr × Obj)} (I : Inv X pins σ H s) (h : ∀ p ∈ pins', s.heap.get? p.1 = some p.2 ∧ H p.1 = none ∧ p.1 ≠ X.env.locals ∧ p.1 ∉ X.fs ∧ ∀ v, p.2.data ≠ .cell v) : Inv X pins' σ H s :=
  ⟨I.ok, I.os, I.bare, I.base, I.loc, I.cell, I.free, I.freeC, fun p hp => (List.mem_append.mp hp).elim (fun z => I.pin p (List.mem_append_left _ z)) (h p), I.hok, I.len⟩

theorem nodup_ix {N : List Str} (hN : N.Nodup) {i j : Nat} {x : Str} (a : N[i]? = some x) (b : N[j]? = some x) : i = j := by
  obtain ⟨h1, e1⟩ := List.getElem?_eq_some_iff.mp a
  obtain ⟨h2, e2⟩ := List.getElem?_eq_some_iff.mp b
  exact (List.getElem_inj hN).mp (e1.trans e2.symm)

theorem store_ok2 {M : Model} {A : Around} {E : Value → Shared → Prop} {i : Nat} {x : Str} {v : V} {u : Value} {Q : Unit → Shared → Prop} (I : Inv X pins σ H s) (hN : X.N.Nodup) (hi : X.N[i]? = some x) (hx : Loc X.env.scope x) (r : RelV v u)
    (h : ∀ s', Inv X pins (σ.set i (some v)) H s' → (∃ a, Heap.SameBut a s.heap s'.heap ∧ (a = X.env.locals ∨ X.env.cells.lookup x = some a)) → Q () s') (hf : X.fn x = true ∨ X.env.scope.names.lookup x = some .local := by first | exact .inl rfl | exact .inr rfl | assumption) : wpAny M A (storeName X.env x u) Q E s := by
  obtain ⟨m, hn, hl⟩ := id I.loc
  have hcls : (X.env.scope.kind == .class || (X.env.scope.kind == .module && X.env.locals != X.env.globals)) = false := by rw [I.ok.kind]; rfl
  have hiσ : i < σ.length := by rw [I.len]; exact (List.getElem?_eq_some_iff.mp hi).1
  have cne := I.cne
  have tracked : ∀ {a : Addr} {h' : Heap}, (∃ o, s.heap.get? a = some o ∧ H a = none) → Heap.SameBut a s.heap h' → HOk X.prog X.w H h' := fun {a h'} ha hs b ob e => by
    obtain ⟨_, _, hfree⟩ := ha
    refine (I.hok b ob e).stay (fun c w' hc q => (hs.2 c ?_).trans q) (fun _ q => q) fun _ _ q => q
    rintro rfl
    rcases hc with rfl | hc
    · rw [hfree] at e; cases e
    · rw [hfree] at hc; cases hc
  rcases hx with hk | hk
  · refine wpAny_storeName_local hk hn (fun h' hn' hs => ?_) hcls
    obtain ⟨oL, _, _, hoL, _⟩ := id hn
    refine h _ ⟨I.ok, I.os, I.bare, ⟨fun b o e n hb hx => ?_, fun b o e n hb hx => ?_, I.base.free, fun b o e hx => ?_, I.base.tups, I.base.frzs, I.base.tbls⟩, ⟨_, hn', fun j y v' e1 e2 e3 => ?_⟩, fun y c e => ?_, I.free, I.freeC, fun p hp => ?_, tracked ⟨oL, hoL, I.free⟩ hs, by simpa using I.len⟩ ⟨_, hs, .inl rfl⟩
    · exact (hs.2 b (Nat.ne_of_lt (Nat.lt_of_lt_of_le (Heap.lt_size e) I.ok.above))).trans (I.base.keep b o e n hb hx)
    · obtain ⟨sl, e1⟩ := I.base.slot b o e n hb hx
      exact ⟨sl, (hs.2 b (Nat.ne_of_lt (Nat.lt_of_lt_of_le (Heap.lt_size e) I.ok.above))).trans e1⟩
    · obtain ⟨o', e1⟩ := I.base.there b o e hx
      exact ⟨o', (hs.2 b (Nat.ne_of_lt (Nat.lt_of_lt_of_le (Heap.lt_size e) I.ok.above))).trans e1⟩
    · by_cases hj : j = i
      · subst hj
        rw [hi] at e1; cases e1
        rw [List.getElem?_set_self hiσ] at e2
        cases e2
        exact ⟨u, r, .inl ⟨hk, by simp⟩⟩
      · rw [List.getElem?_set_ne (Ne.symm hj)] at e2
        obtain ⟨u', r', q⟩ := hl j y v' e1 e2 e3
        refine ⟨u', r', ?_⟩
        rcases q with ⟨k, e⟩ | ⟨k, c, e, z⟩
        · refine .inl ⟨k, ?_⟩
          have : y ≠ x := fun e => hj (nodup_ix hN e1 (e ▸ hi))
          simp [this, e]
        · exact .inr ⟨k, c, e, z.sameBut hs (cne y c e)⟩
    · obtain ⟨w', z⟩ := I.cell y c e
      exact ⟨w', z.sameBut hs (cne y c e)⟩
    · obtain ⟨e, n, ne, nf, d⟩ := I.pin p hp
      exact ⟨(hs.2 p.1 ne).trans e, n, ne, nf, d⟩
  · have hfn : X.fn x = true := by
      rcases hf with z | z
      · exact z
      · rw [z] at hk; cases hk
    obtain ⟨c, hc⟩ := I.ok.has x (.inl hk)
    obtain ⟨w', z⟩ := I.cell x c hc
    refine wpAny_storeName_cell I.ok.kind hk hc z (fun h' hc' hs => ?_)
    obtain ⟨oc, hoc, hocd⟩ := id z
    refine h { s with heap := h' } ⟨I.ok, I.os, I.bare, ⟨fun b o e n hb hx => ?_, fun b o e n hb hx => ?_, I.base.free, fun b o e hx => ?_, I.base.tups, I.base.frzs, I.base.tbls⟩, ⟨m, hn.sameBut hs (Ne.symm (cne x c hc)), fun j y v' e1 e2 e3 => ?_⟩, fun y c' e => ?_, I.free, I.freeC, fun p hp => ?_, tracked ⟨oc, hoc, I.freeC x c hc⟩ hs, by simpa using I.len⟩ ⟨c, hs, .inr hc⟩
    · exact (hs.2 b (Nat.ne_of_lt (Nat.lt_of_lt_of_le (Heap.lt_size e) (I.ok.cab x c hfn hc)))).trans (I.base.keep b o e n hb hx)
    · obtain ⟨sl, e1⟩ := I.base.slot b o e n hb hx
      exact ⟨sl, (hs.2 b (Nat.ne_of_lt (Nat.lt_of_lt_of_le (Heap.lt_size e) (I.ok.cab x c hfn hc)))).trans e1⟩
    · obtain ⟨o', e1⟩ := I.base.there b o e hx
      exact ⟨o', (hs.2 b (Nat.ne_of_lt (Nat.lt_of_lt_of_le (Heap.lt_size e) (I.ok.cab x c hfn hc)))).trans e1⟩
    · by_cases hj : j = i
      · subst hj
        rw [hi] at e1; cases e1
        rw [List.getElem?_set_self hiσ] at e2
        cases e2
        exact ⟨u, r, .inr ⟨.inl hk, c, hc, hc'⟩⟩
      · rw [List.getElem?_set_ne (Ne.symm hj)] at e2
        obtain ⟨u', r', q⟩ := hl j y v' e1 e2 e3
        refine ⟨u', r', ?_⟩
        rcases q with q | ⟨k, c', e, z'⟩
        · exact .inl q
        · refine .inr ⟨k, c', e, z'.sameBut hs ?_⟩
          rintro rfl
          exact hj (nodup_ix hN e1 (I.ok.inj _ _ _ e hc ▸ hi))
    · by_cases hcc : c' = c
      · subst hcc; exact ⟨_, hc'⟩
      · obtain ⟨w2, z2⟩ := I.cell y c' e
        exact ⟨w2, z2.sameBut hs hcc⟩
    · obtain ⟨e, n, ne, nf, d⟩ := I.pin p hp
      refine ⟨(hs.2 p.1 ?_).trans e, n, ne, nf, d⟩
      intro q
      rw [q, hoc] at e
      have q' : oc = p.2 := Option.some.inj e
      exact d w' (by rw [← q']; exact hocd)
theorem store_ok {M : Model} {A : Around} {E : Value → Shared → Prop} {i : Nat} {x : Str} {v : V} {u : Value} {Q : Unit → Shared → Prop} (I : Inv X pins σ H s) (hN : X.N.Nodup) (hi : X.N[i]? = some x) (hx : Loc X.env.scope x) (r : RelV v u)
    (h : ∀ s', Inv X pins (σ.set i (some v)) H s' → Q () s') (hf : X.fn x = true ∨ X.env.scope.names.lookup x = some .local := by first | exact .inl rfl | exact .inr rfl | assumption) : wpAny M A (storeName X.env x u) Q E s :=
  store_ok2 I hN hi hx r (fun s' I' _ => h s' I') hf
theorem Inv.call' {s' : Shared} {ch : List Addr} (I : Inv X pins σ H s) (ho : s'.os = s.os) (u : Un (frs X.stack) ch H H' s.heap s'.heap) (hok : HOk X.prog X.w H' s'.heap) (hg : AllBare s'.gens)
    (hch : ∀ b ∈ ch, (b ∈ X.ex ∨ X.s₀.heap.objs.size ≤ b) ∧ b ≠ X.env.locals ∧ (∀ x c, X.env.cells.lookup x = some c → c ≠ b) ∧ ∀ p ∈ X.pn ++ pins, p.1 ≠ b) : Inv X pins σ H' s' := by
  obtain ⟨h', g', d', t', o'⟩ := s'
  have e : o' = s.os := ho
  subst e
  exact I.call (g' := g') (t' := t') (d' := d') u hok hg hch
end

noncomputable abbrev XK := Value → Option Addr → Hp → Prop
noncomputable abbrev St := List (Option V)
noncomputable abbrev VK := V → Hp → Prop
noncomputable abbrev TE := St → Hp → VK → Prop
noncomputable abbrev TT := St → Hp → (Bool → Hp → Prop) → Prop
noncomputable abbrev TA := St → Hp → (List V → Hp → Prop) → Prop
set_option genInjectivity false in
structure Ends where
  nx : St → Hp → Prop
  rt : VK
  bk : St → Hp → Prop := fun _ _ => False
  ct : St → Hp → Prop := fun _ _ => False
noncomputable abbrev TS := Ends → St → Hp → Prop

noncomputable def EP (X : Cx) (pins : List (Addr × Obj)) (σ : St) (Q : VK) (u : Value) (s' : Shared) : Prop := ∃ v H', Inv X pins σ H' s' ∧ RelV v u ∧ Q v H'
noncomputable def TP (X : Cx) (pins : List (Addr × Obj)) (σ : St) (Q : Bool → Hp → Prop) (b : Bool) (s' : Shared) : Prop := ∃ H', Inv X pins σ H' s' ∧ Q b H'
noncomputable def AP (X : Cx) (pins : List (Addr × Obj)) (σ : St) (Q : List V → Hp → Prop) (us : List Value) (s' : Shared) : Prop := ∃ vs H', Inv X pins σ H' s' ∧ Vals vs us ∧ Q vs H'
noncomputable def SP (X : Cx) (pins : List (Addr × Obj)) (D : Ends) (f : Flow) (s' : Shared) : Prop :=
  match f with
  | .next => ∃ σ' H', Inv X pins σ' H' s' ∧ D.nx σ' H'
  | .brk => ∃ σ' H', Inv X pins σ' H' s' ∧ D.bk σ' H'
  | .cont => ∃ σ' H', Inv X pins σ' H' s' ∧ D.ct σ' H'
  | .ret u => ∃ v σ' H', Inv X pins σ' H' s' ∧ RelV v u ∧ D.rt v H'

noncomputable def PE (X : Cx) (e : Expr) (t : TE) : Prop :=
  ∀ (pins : List (Addr × Obj)) (s : Shared) (σ : St) (H : Hp) (Q : VK), Inv X pins σ H s → t σ H Q → wpAny (model X.prog X.w) X.A (eval e X.env) (EP X pins σ Q) X.xe s
noncomputable def PT (X : Cx) (e : Expr) (t : TT) : Prop :=
  ∀ (pins : List (Addr × Obj)) (s : Shared) (σ : St) (H : Hp) (Q : Bool → Hp → Prop), Inv X pins σ H s → t σ H Q → wpAny (model X.prog X.w) X.A (isTrue e X.env (eval e X.env)) (TP X pins σ Q) X.xe s
noncomputable def PW (X : Cx) (e : Expr) (t : TT) : Prop :=
  ∀ (whole : Sem Value) (pins : List (Addr × Obj)) (s : Shared) (σ : St) (H : Hp) (Q : Bool → Hp → Prop), Inv X pins σ H s → t σ H Q → wpAny (model X.prog X.w) X.A (isTrue e X.env whole) (TP X pins σ Q) X.xe s
noncomputable def PA (X : Cx) (es : List Expr) (t : TA) : Prop :=
  ∀ (pos : Pos) (pins : List (Addr × Obj)) (s : Shared) (σ : St) (H : Hp) (Q : List V → Hp → Prop), Inv X pins σ H s → t σ H Q → wpAny (model X.prog X.w) X.A (spliced (backTo pos (starEach es X.env))) (AP X pins σ Q) X.xe s
noncomputable def PS (X : Cx) (st : Stmt) (t : TS) : Prop :=
  ∀ (pins : List (Addr × Obj)) (s : Shared) (σ : St) (H : Hp) (D : Ends), Inv X pins σ H s → t D σ H → wpAny (model X.prog X.w) X.A (exec st X.env) (SP X pins D) X.xe s
noncomputable def PSs (X : Cx) (st : List Stmt) (t : TS) : Prop :=
  ∀ (pins : List (Addr × Obj)) (s : Shared) (σ : St) (H : Hp) (D : Ends), Inv X pins σ H s → t D σ H → wpAny (model X.prog X.w) X.A (execs st X.env) (SP X pins D) X.xe s
theorem thn {α : Type} {t : Sem α} {Q Q' : α → Shared → Prop} {M : Model} {A : Around} {E : Value → Shared → Prop} {s : Shared} (h : wpAny M A t Q E s) (hQ : ∀ a s, Q a s → Q' a s) : wpAny M A t Q' E s := wpAny_mono h hQ fun _ _ x => x
end L2

namespace L2
open PySem PySem.Spec PyProof.Rows
section
variable {X : Cx}

noncomputable def tVar (i : Nat) : TE := fun σ H Q => ∃ v, σ[i]? = some (some v) ∧ Q v H
noncomputable def tC (v : V) : TE := fun _ H Q => Q v H
theorem pe_var {i : Nat} {x : Str} {pos : Pos} (hN : X.N[i]? = some x) (hv : Vis X.env.scope x) (hd : (x == ("__debug__" : Str)) = false := by decide) (hcd : (x == ("__classdict__" : Str)) = false := by decide) : PE X (.Name x pos) (tVar i) := by
  intro pins s σ H Q I h
  obtain ⟨v, e, h⟩ := h
  obtain ⟨m, hn, hl⟩ := I.loc
  obtain ⟨u, r, l⟩ := hl i x v hN e hv
  have fin : EP X pins σ Q u s := ⟨v, H, I, r, h⟩
  rcases l with ⟨hk, hm⟩ | ⟨hk, c, hc, hcell⟩
  · exact wpAny_Name (wpAny_loadName_local I.ok.kind hk hn hm fin) hd
  · rcases hk with hk | hk
    · exact wpAny_Name (wpAny_loadName_cell I.ok.kind hk hc hcell fin) hd
    · exact wpAny_Name (wpAny_loadName_free I.ok.kind hk hc hcell fin hcd) hd
theorem pe_int {i j pos} : PE X (.Constant (.int i) j pos) (tC (.int i)) := fun _ _ _ H _ I h => wpAny_Constant_int ⟨.int i, H, I.tok _, ⟨_, rfl⟩, h⟩
theorem pe_bl {b j pos} : PE X (.Constant (.bool b) j pos) (tC (.bl b)) := fun _ _ _ H _ I h => Constant_bool ⟨.bl b, H, I, rfl, h⟩
theorem pe_non {j pos} : PE X (.Constant .none j pos) (tC .non) := fun _ _ _ H _ I h => Constant_none ⟨.non, H, I, rfl, h⟩
noncomputable def Gl (X : Cx) (x : Str) : Prop := X.env.kindOf x = some .globalImplicit
theorem ld_glob {E : Value → Shared → Prop} {pins : List (Addr × Obj)} {s : Shared} {σ : St} {H : Hp} {x : Str} {u : Value} {pos : Pos} {Q : Value → Shared → Prop} (I : Inv X pins σ H s) (hg : Gl X x) (hm : X.mg x = some u) (h : Q u s)
    (hd : (x == ("__debug__" : Str)) = false := by decide) : wpAny (model X.prog X.w) X.A (eval (.Name x pos) X.env) Q E s :=
  Calls.Name_function_global I.ok.kind hg (Calls.loadGlobal_global (by rw [I.ok.glob]; exact I.mod.glob.keeps I.bk) hm h) hd
theorem ld_blt {E : Value → Shared → Prop} {pins : List (Addr × Obj)} {s : Shared} {σ : St} {H : Hp} {x : Str} {u : Value} {pos : Pos} {Q : Value → Shared → Prop} (I : Inv X pins σ H s) (hg : Gl X x) (hm : X.mg x = none) (hv : bootBuiltins x = some u) (h : Q u s)
    (hn : x ≠ "__name__" := by decide) (hd : (x == ("__debug__" : Str)) = false := by decide) : wpAny (model X.prog X.w) X.A (eval (.Name x pos) X.env) Q E s := by
  obtain ⟨mb, h1, h2⟩ := I.mod.blt
  exact Calls.Name_function_global I.ok.kind hg (Calls.loadGlobal_builtin (by rw [I.ok.glob]; exact I.mod.glob.keeps I.bk) hm (by rw [I.ok.blt]; exact h1.keeps I.bk) ((h2 x hn).trans hv) h) hd
theorem pe_glob {x : Str} {v : V} {u : Value} {pos : Pos} (hg : Gl X x) (hm : X.mg x = some u) (r : RelV v u) (hd : (x == ("__debug__" : Str)) = false := by decide) : PE X (.Name x pos) (tC v) :=
  fun _ _ _ H _ I h => ld_glob I hg hm ⟨v, H, I, r, h⟩ hd
theorem pe_bltn {x : Str} {v : V} {u : Value} {pos : Pos} (hg : Gl X x) (hm : X.mg x = none) (hv : bootBuiltins x = some u) (r : RelV v u) (hn : x ≠ "__name__" := by decide) (hd : (x == ("__debug__" : Str)) = false := by decide) : PE X (.Name x pos) (tC v) :=
  fun _ _ _ H _ I h => ld_blt I hg hm hv ⟨v, H, I, r, h⟩ hn hd

variable {a b : Expr} {ta tb : TE} {pos : Pos}
noncomputable def PC (X : Cx) (op : CmpOp) (a b : Expr) (t : TE) : Prop :=
  ∀ (pins : List (Addr × Obj)) (s : Shared) (σ : St) (H : Hp) (Q : VK), Inv X pins σ H s → t σ H Q →
    wpAny (model X.prog X.w) X.A (eval a X.env) (fun v s₁ => wpAny (model X.prog X.w) X.A (eval b X.env) (fun u s₂ => wpAny (model X.prog X.w) X.A (compareOp op v u) (EP X pins σ Q) X.xe s₂) X.xe s₁) X.xe s
theorem nobehind (b : Expr) {op : CmpOp} (h : op ≠ .In) (h2 : op ≠ .NotIn) : behindInMarks op b = false := by
  have e1 : (op == CmpOp.In) = false := by cases op <;> first | rfl | exact absurd rfl h
  have e2 : (op == CmpOp.NotIn) = false := by cases op <;> first | rfl | exact absurd rfl h2
  cases b <;> simp [behindInMarks, e1, e2]
noncomputable def tIsN (ta : TE) : TE := fun σ H Q => ta σ H fun x H1 => Q (.bl (decide (x = .non))) H1
theorem RelV.none_iff {x : V} {v : Value} (r : RelV x v) : (v == Value.none) = decide (x = .non) := by
  cases x with
  | non => cases r; rfl
  | bl _ => cases r; rfl
  | int _ => obtain ⟨t, rfl⟩ := r; rfl
  | str _ => obtain ⟨t, rfl⟩ := r; rfl
  | byt _ => obtain ⟨t, rfl⟩ := r; rfl
  | flt _ => obtain ⟨t, rfl⟩ := r; rfl
  | ref _ => cases r; rfl
  | ty _ => cases r; rfl
theorem pc_isN {j pos'} (ha : PE X a ta) : PC X .Is a (.Constant .none j pos') (tIsN ta) := by
  intro pins s σ H Q I h
  refine thn (ha pins s σ H _ I h) fun v s1 ⟨x, H1, I1, r1, q1⟩ => ?_
  exact Constant_none (is_none_gen ⟨.bl _, H1, I1, by rw [r1.none_iff]; rfl, q1⟩)
noncomputable def tB (t : TE) : TT := fun σ H Q => t σ H fun x H1 => ∃ c, x = .bl c ∧ Q c H1
theorem pt_cmp {op : CmpOp} {t : TE} (h : PC X op a b t) (h1 : behindInMarks op b = false := by first | exact nobehind _ (by decide) (by decide) | rfl) : PT X (.Compare a [op] [b] pos) (tB t) := by
  intro pins s σ H Q I hw
  refine wpAny_isTrue_Compare1 (thn (h pins s σ H _ I hw) fun v s1 h1 => thn h1 fun u s2 h2 => thn h2 fun c s3 ⟨x, H1, I1, r1, q1⟩ => ?_) h1
  obtain ⟨d, rfl, q⟩ := q1
  cases r1
  exact wpAny_truthy_bool ⟨H1, I1, q⟩
theorem pt_val {e : Expr} {t : TE} (h : PE X e t) (he : ∀ whole, isTrue e X.env whole = (do let v ← whole; standAt e.pos; holding [v] (truthy v)) := by intro _; rfl) : PT X e (tB t) := by
  intro pins s σ H Q I hw
  refine isTrue_plain (thn (h pins s σ H _ I hw) fun v s1 ⟨x, H1, I1, r1, q1⟩ => ?_) (he _)
  obtain ⟨d, rfl, q⟩ := q1
  cases r1
  exact wpAny_truthy_bool ⟨H1, I1, q⟩

variable {tA tB' : TT} {rest : List Expr}
noncomputable def tNot (t : TT) : TT := fun σ H Q => t σ H fun c H1 => Q (!c) H1
theorem pt_not (ha : PT X a tA) : PT X (.UnaryOp .Not a pos) (tNot tA) := by
  intro pins s σ H Q I h
  exact isTrue_not (ha pins s σ H (fun c H1 => Q (!c) H1) I h)
noncomputable def tAndV (ta tb : TE) : TE := fun σ H Q => ta σ H fun x H1 => ∃ c, x = .bl c ∧ if c = true then tb σ H1 Q else Q (.bl false) H1
noncomputable def tNotV (ta : TE) : TE := fun σ H Q => ta σ H fun x H1 => ∃ c, x = .bl c ∧ Q (.bl (!c)) H1
theorem pe_one {op} {t : TE} (h : PE X a t) : PE X (.BoolOp op [a] pos) t := fun pins s σ H Q I hw => BoolOp_one (h pins s σ H Q I hw)
theorem pe_and (ha : PE X a ta) (hb : PE X (.BoolOp .And (b :: rest) pos) tb) : PE X (.BoolOp .And (a :: b :: rest) pos) (tAndV ta tb) := by
  intro pins s σ H Q I h
  refine BoolOp_and (thn (ha pins s σ H _ I h) fun v s1 ⟨x, H1, I1, r1, q1⟩ => ?_)
  obtain ⟨c, rfl, q1⟩ := q1
  cases r1
  refine wpAny_truthy_bool ?_
  cases c with
  | true => exact hb pins s1 σ H1 Q I1 q1
  | false => exact ⟨.bl false, H1, I1, rfl, q1⟩
theorem pe_not (ha : PE X a ta) : PE X (.UnaryOp .Not a pos) (tNotV ta) := by
  intro pins s σ H Q I h
  refine UnaryOp_ (thn (ha pins s σ H _ I h) fun v s1 ⟨x, H1, I1, r1, q1⟩ => ?_)
  obtain ⟨c, rfl, q1⟩ := q1
  cases r1
  exact not_of (wpAny_truthy_bool ⟨.bl (!c), H1, I1, rfl, q1⟩)
noncomputable def tIf (t : TT) (ta tb : TE) : TE := fun σ H Q => t σ H fun c H1 => if c = true then ta σ H1 Q else tb σ H1 Q
theorem pe_ifExp {c : Expr} (hc : PT X c tA) (ha : PE X a ta) (hb : PE X b tb) : PE X (.IfExp c a b pos) (tIf tA ta tb) := by
  intro pins s σ H Q I h
  refine wpAny_IfExp (thn (hc pins s σ H _ I h) fun d s1 ⟨H1, I1, q1⟩ => ?_)
  cases d with
  | true => exact ha pins s1 σ H1 Q I1 q1
  | false => exact hb pins s1 σ H1 Q I1 q1
end
end L2

namespace L2
open PySem PySem.Spec PyProof.Rows

noncomputable def SqL (K : PySem.W.Frag) (H : Hp) (a : Addr) (xs : List V) : Prop :=
  Rd H a (.lst xs) ∨
    ∃ (o : Obj) (its : Array Value) (n : Nat), K.lookup a = some o ∧ o.cls = .type "list" ∧ o.dict = none ∧ o.data = .seq its n ∧ its.size ≤ sizeLine ∧ Vals xs its.toList
noncomputable def SqT (K : PySem.W.Frag) (H : Hp) (a : Addr) (xs : List V) : Prop :=
  Rd H a (.tup xs) ∨
    ∃ (o : Obj) (its : Array Value) (n : Nat), K.lookup a = some o ∧ o.cls = .type "tuple" ∧ o.data = .seq its n ∧ its.size ≤ sizeLine ∧ Vals xs its.toList
noncomputable def absV : Value → Option V
  | .none => some .non
  | .bool b => some (.bl b)
  | .int i _ => some (.int i)
  | .str x _ => some (.str x)
  | .bytes b _ => some (.byt b)
  | .float b _ => some (.flt b)
  | .ref a => some (.ref a)
  | .type n => some (.ty n)
  | _ => none
theorem RelV.abs {x : V} {u : Value} (r : RelV x u) : absV u = some x := by
  cases x with
  | non => cases r; rfl
  | bl _ => cases r; rfl
  | int _ => obtain ⟨t, rfl⟩ := r; rfl
  | str _ => obtain ⟨t, rfl⟩ := r; rfl
  | byt _ => obtain ⟨t, rfl⟩ := r; rfl
  | flt _ => obtain ⟨t, rfl⟩ := r; rfl
  | ref _ => cases r; rfl
  | ty _ => cases r; rfl
theorem RelV.inj {x y : V} {u : Value} (r : RelV x u) (q : RelV y u) : x = y := Option.some.inj (r.abs.symm.trans q.abs)
theorem Vals.inj : ∀ {xs ys : List V} {us : List Value}, Vals xs us → Vals ys us → xs = ys
  | _, _, _, .nil, .nil => rfl
  | _, _, _, .cons r t, .cons r' t' => by rw [r.inj r', Vals.inj t t']
section
variable {X : Cx} {pins : List (Addr × Obj)} {σ : St} {H : Hp} {s : Shared} {a : Addr} {xs ys : List V}
theorem SqL.of {K : PySem.W.Frag} (h : H a = some (.lst xs)) : SqL K H a xs := .inl (.inl h)
theorem SqT.of {K : PySem.W.Frag} (h : H a = some (.tup xs)) : SqT K H a xs := .inl (.inl h)
theorem Inv.list (I : Inv X pins σ H s) (h : SqL X.K H a xs) : ∃ its : List Value, Vals xs its ∧ PlainL s.heap a its.toArray ∧ xs.length ≤ sizeLine := by
  rcases h with h | ⟨o, its, n, hk, hc, hd, hs, hz, r⟩
  · obtain ⟨z, its, n, r, e⟩ := h.ok I.hok
    exact ⟨its, r, ⟨_, n, e, rfl, rfl, rfl⟩, z⟩
  · refine ⟨its.toList, r, ⟨o, n, I.kIn a o hk, hc, hd, by simpa using hs⟩, ?_⟩
    have e := r.length
    simp only [Array.length_toList] at e
    omega
theorem Inv.tuple (I : Inv X pins σ H s) (h : SqT X.K H a xs) : ∃ its : List Value, Vals xs its ∧ IsTup s.heap a its.toArray ∧ xs.length ≤ sizeLine := by
  rcases h with h | ⟨o, its, n, hk, hc, hs, hz, r⟩
  · obtain ⟨z, its, r, p⟩ := h.ok I.hok
    exact ⟨its, r, p, z⟩
  · refine ⟨its.toList, r, ⟨o, I.kIn a o hk, hc, n, by simpa using hs⟩, ?_⟩
    have e := r.length
    simp only [Array.length_toList] at e
    omega
theorem Inv.list_inj (I : Inv X pins σ H s) (h : SqL X.K H a xs) (h' : SqL X.K H a ys) : xs = ys := by
  obtain ⟨its, r, ⟨o, n, e, _, _, d⟩, _⟩ := I.list h
  obtain ⟨its', r', ⟨o', n', e', _, _, d'⟩, _⟩ := I.list h'
  rw [e] at e'; cases e'
  rw [d] at d'
  injection d' with d1 _
  have : its = its' := by simpa using congrArg Array.toList d1
  subst this
  exact r.inj r'
end

noncomputable abbrev Cx.wish (X : Cx) (E : Value → Shared → Prop) : Cx := { X with xe := E }
noncomputable abbrev Cx.nox (X : Cx) : Cx := X.wish fun _ _ => False
theorem Cx.Ok.wish {X : Cx} (ok : X.Ok) (E : Value → Shared → Prop) : (X.wish E).Ok :=
  ⟨ok.mod, ok.kind, ok.glob, ok.blt, ok.above, ok.inj, ok.has, ok.cab, ok.hd, ok.frames, ok.stk, ok.exf, ok.bs, ok.bsz, ok.noex, ok.exfs, ok.funs, ok.frf⟩
theorem Cx.Ok.unwish {X : Cx} {E : Value → Shared → Prop} (ok : (X.wish E).Ok) : X.Ok :=
  ⟨ok.mod, ok.kind, ok.glob, ok.blt, ok.above, ok.inj, ok.has, ok.cab, ok.hd, ok.frames, ok.stk, ok.exf, ok.bs, ok.bsz, ok.noex, ok.exfs, ok.funs, ok.frf⟩
section
variable {X : Cx} {pins : List (Addr × Obj)} {σ : St} {H : Hp} {s : Shared} {E : Value → Shared → Prop}
theorem Inv.wish (I : Inv X pins σ H s) (E : Value → Shared → Prop) : Inv (X.wish E) pins σ H s := ⟨I.ok.wish E, I.os, I.bare, I.base, I.loc, I.cell, I.free, I.freeC, I.pin, I.hok, I.len⟩
theorem Inv.unwish (I : Inv (X.wish E) pins σ H s) : Inv X pins σ H s := ⟨I.ok.unwish, I.os, I.bare, I.base, I.loc, I.cell, I.free, I.freeC, I.pin, I.hok, I.len⟩
theorem SP.unwish {D : Ends} {f : Flow} {s' : Shared} (h : SP (X.wish E) pins D f s') : SP X pins D f s' := by
  cases f with
  | next => obtain ⟨σ', H', I, q⟩ := h; exact ⟨σ', H', I.unwish, q⟩
  | brk => obtain ⟨σ', H', I, q⟩ := h; exact ⟨σ', H', I.unwish, q⟩
  | cont => obtain ⟨σ', H', I, q⟩ := h; exact ⟨σ', H', I.unwish, q⟩
  | ret u => obtain ⟨v, σ', H', I, r, q⟩ := h; exact ⟨v, σ', H', I.unwish, r, q⟩
theorem PSs.nox {st : List Stmt} {t : TS} (h : PSs X.nox st t) : PSs X st t := fun pins s σ H D I hw =>
  wpAny_mono (h pins s σ H D (I.wish _) hw) (fun _ _ q => q.unwish) fun _ _ z => False.elim z
end

section
variable {X : Cx} {st : Stmt} {rest : List Stmt} {t u : TS} {e : Expr} {te : TE} {pos : Pos}
noncomputable def tNext : TS := fun D σ H => D.nx σ H
noncomputable def tSeq (t u : TS) : TS := fun D σ H => t { D with nx := u D } σ H
theorem pss_nil : PSs X [] tNext := fun _ _ σ H _ I h => wpAny_execs_nil ⟨σ, H, I, h⟩
theorem pss_cons (h1 : PS X st t) (h2 : PSs X rest u) : PSs X (st :: rest) (tSeq t u) := by
  intro pins s σ H D I h
  refine wpAny_execs_cons (thn (h1 pins s σ H { D with nx := u D } I h) fun f s1 q => ?_)
  cases f with
  | next =>
    obtain ⟨σ', H', I', q⟩ := q
    exact h2 pins s1 σ' H' D I' q
  | ret v => exact q
  | brk => exact q
  | cont => exact q
theorem pss_one (h1 : PS X st t) : PSs X [st] t := by
  intro pins s σ H D I h
  refine wpAny_execs_cons (thn (h1 pins s σ H D I h) fun f s1 q => ?_)
  cases f with
  | next => exact wpAny_execs_nil q
  | ret v => exact q
  | brk => exact q
  | cont => exact q
theorem Inv.quiet {pins : List (Addr × Obj)} {σ : St} {H : Hp} {s : Shared} (I : Inv X pins σ H s) : interactive X.env = false := by simp [interactive, I.ok.kind]
noncomputable def tDrop (te : TE) : TS := fun D σ H => te σ H fun _ H1 => D.nx σ H1
theorem ps_expr (he : PE X e te) (hs : swapsWith e none pos.line X.env = pure false := by rfl) : PS X (.Expr e pos) (tDrop te) := by
  intro pins s σ H D I h
  exact wpAny_Expr_any (thn (he pins s σ H _ I h) fun v s1 ⟨x, H1, I1, r1, q1⟩ => ⟨σ, H1, I1, q1⟩) I.quiet hs
noncomputable def tRet (te : TE) : TS := fun D σ H => te σ H D.rt
theorem ps_ret (he : PE X e te) : PS X (.Return (some e) pos) (tRet te) := by
  intro pins s σ H D I h
  exact wpAny_Return_some (thn (he pins s σ H _ I h) fun v s1 ⟨x, H1, I1, r1, q1⟩ => ⟨x, σ, H1, I1, r1, q1⟩)
noncomputable def tIfS (c : TT) (t u : TS) : TS := fun D σ H => c σ H fun b H1 => if b = true then t D σ H1 else u D σ H1
theorem ps_if {c : Expr} {a b : List Stmt} {tc : TT} (hc : PT X c tc) (ha : PSs X a t) (hb : PSs X b u) : PS X (.If c a b pos) (tIfS tc t u) := by
  intro pins s σ H D I h
  refine wpAny_If (thn (hc pins s σ H _ I h) fun d s1 ⟨H1, I1, q1⟩ => ?_)
  cases d with
  | true => exact ha pins s1 σ H1 D I1 q1
  | false => exact hb pins s1 σ H1 D I1 q1
end

noncomputable abbrev TG := V → St → Hp → (St → Hp → Prop) → Prop
noncomputable abbrev TGs := List V → St → Hp → (St → Hp → Prop) → Prop
noncomputable def PG (X : Cx) (target : Expr) (t : TG) : Prop :=
  ∀ (pins : List (Addr × Obj)) (s : Shared) (σ : St) (H : Hp) (v : V) (u : Value) (Q : St → Hp → Prop), Inv X pins σ H s → RelV v u → t v σ H Q →
    wpAny (model X.prog X.w) X.A (assign target X.env u) (fun _ s' => ∃ σ' H', Inv X pins σ' H' s' ∧ Q σ' H') X.xe s
noncomputable def PGs (X : Cx) (ts : List Expr) (t : TGs) : Prop :=
  ∀ (pins : List (Addr × Obj)) (s : Shared) (σ : St) (H : Hp) (vs : List V) (us : List Value) (Q : St → Hp → Prop), Inv X pins σ H s → Vals vs us → t vs σ H Q →
    wpAny (model X.prog X.w) X.A (assignInOrder ((assignEach ts X.env).map (·.2)) us) (fun _ s' => ∃ σ' H', Inv X pins σ' H' s' ∧ Q σ' H') X.xe s
noncomputable abbrev TSet := V → V → V → Hp → (Hp → Prop) → Prop
noncomputable def PSet (X : Cx) (t : TSet) : Prop :=
  ∀ (pins : List (Addr × Obj)) (s : Shared) (σ : St) (H : Hp) (o i v : V) (ov iv u : Value) (Q : Hp → Prop), Inv X pins σ H s → RelV o ov → RelV i iv → RelV v u → t o i v H Q →
    wpAny (model X.prog X.w) X.A (setItem ov iv u) (fun _ s' => ∃ H', Inv X pins σ H' s' ∧ Q H') X.xe s
section
variable {X : Cx} {pos : Pos}
noncomputable def gName (i : Nat) : TG := fun v σ H Q => Q (σ.set i (some v)) H
theorem pg_name {i : Nat} {x : Str} (hN : X.N.Nodup) (hi : X.N[i]? = some x) (hx : Loc X.env.scope x) (hf : X.fn x = true ∨ X.env.scope.names.lookup x = some .local := by first | exact .inl rfl | exact .inr rfl | assumption) : PG X (.Name x pos) (gName i) := by
  intro pins s σ H v u Q I r h
  exact wpAny_assign_Name (store_ok I hN hi hx r (fun s' I' => ⟨_, H, I', h⟩) hf)
noncomputable def gNil : TGs := fun vs σ H Q => vs = [] ∧ Q σ H
noncomputable def gCons (t : TG) (u : TGs) : TGs := fun vs σ H Q => ∃ v r, vs = v :: r ∧ t v σ H fun σ' H' => u r σ' H' Q
theorem pgs_nil : PGs X [] gNil := by
  intro pins s σ H vs us Q I r h
  obtain ⟨e, h⟩ := h
  subst e
  cases r
  exact assignInOrder_nil ⟨σ, H, I, h⟩
theorem pgs_cons {e : Expr} {es : List Expr} {t : TG} {u : TGs} (h1 : PG X e t) (h2 : PGs X es u)
    (hs : (assignEach (e :: es) X.env).map (·.2) = assign e X.env :: (assignEach es X.env).map (·.2) := by rfl) : PGs X (e :: es) (gCons t u) := by
  intro pins s σ H vs us Q I r h
  obtain ⟨v, vr, e1, h⟩ := h
  subst e1
  cases r with
  | cons r rr =>
    rw [hs]
    refine assignInOrder_cons (thn (h1 pins s σ H _ _ _ I r h) fun _ s1 ⟨σ1, H1, I1, q1⟩ => ?_)
    exact h2 pins s1 σ1 H1 _ _ Q I1 rr q1
noncomputable def gTup (K : PySem.W.Frag) (n : Nat) (t : TGs) : TG := fun v σ H Q => ∃ a xs, v = .ref a ∧ SqT K H a xs ∧ xs.length = n ∧ t xs σ H Q
theorem pg_tup {es : List Expr} {k : Nat} {t : TGs} {n : Nat} (hc : X.calm = true) (h : PGs X es t)
    (hn : (assignEach es X.env).length = n := by rfl) (hst : (assignEach es X.env).findIdx? (·.1) = none := by rfl) : PG X (.Tuple es k pos) (gTup X.K n t) := by
  intro pins s σ H v u Q I r hw
  obtain ⟨a, xs, e1, hq, hl, hw⟩ := hw
  subst e1
  cases r
  obtain ⟨its, rv, ht, hz⟩ := I.tuple hq
  refine assign_Tuple_tuple (I.ok.hd hc) ht (by simp [hn, ← hl, rv.length]) hst fun h' hx => ?_
  have I1 : Inv X pins σ H { s with heap := h' } := I.kept (t' := s.toks) fun b o e => hx b o (Nat.ne_of_lt (Heap.lt_size e)) e
  exact h pins _ σ H xs _ Q I1 (by simpa using rv) hw
noncomputable def gSub (to ti : TE) (t : TSet) : TG := fun v σ H Q => to σ H fun o H1 => ti σ H1 fun i H2 => t o i v H2 fun H3 => Q σ H3
theorem pg_sub {o i : Expr} {to ti : TE} {t : TSet} (ho : PE X o to) (hi : PE X i ti) (hs : PSet X t)
    (ha : ∀ v, assign (.Subscript o i pos) X.env v = (do
      let ov ← holding [v] (eval o X.env)
      let iv ← holding [v, ov] (eval i X.env)
      standAt pos
      holding [v, ov, iv] (setItem ov iv v)
      release [v, ov, iv] []) := by intro _; rfl) : PG X (.Subscript o i pos) (gSub to ti t) := by
  intro pins s σ H v u Q I r h
  rw [ha]
  refine wpAny_bind (wpAny_holding (thn (ho pins s σ H _ I h) fun ov s1 ⟨x, H1, I1, r1, q1⟩ => ?_))
  refine wpAny_bind (wpAny_holding (thn (hi pins s1 σ H1 _ I1 q1) fun iv s2 ⟨y, H2, I2, r2, q2⟩ => ?_))
  refine wpAny_bind (wpAny_standAt (wpAny_bind (wpAny_holding (thn (hs pins s2 σ H2 x y v ov iv u _ I2 r1 r2 r q2) fun _ s3 ⟨H3, I3, q3⟩ => ?_))))
  exact wpAny_release ⟨σ, H3, I3, q3⟩
noncomputable def tAsg (te : TE) (g : TG) : TS := fun D σ H => te σ H fun x H1 => g x σ H1 D.nx
theorem ps_asg {tg e : Expr} {te : TE} {g : TG} (he : PE X e te) (hg : PG X tg g) (hs : swapsWithSole [tg] e pos.line X.env = pure false := by rfl) (hw : swappedStores [tg] e X.env = pure none := by rfl)
    (h1 : (assignEach [tg] X.env).map (·.2) = [assign tg X.env] := by rfl) : PS X (.Assign [tg] e pos) (tAsg te g) := by
  intro pins s σ H D I h
  refine wpAny_Assign_stores (thn (he pins s σ H _ I h) fun v s1 ⟨x, H1, I1, r1, q1⟩ => ?_) hs hw
  rw [h1]
  exact thn (hg pins s1 σ H1 x v _ I1 r1 q1) fun _ s2 q => q
theorem ps_set {i : Nat} {x : Str} {e : Expr} {te : TE} {pos' : Pos} (hN : X.N.Nodup) (hi : X.N[i]? = some x) (hx : Loc X.env.scope x) (he : PE X e te) (hs : swapsWith e (some (.Name x pos')) pos.line X.env = pure false := by rfl) (hf : X.fn x = true ∨ X.env.scope.names.lookup x = some .local := by first | exact .inl rfl | exact .inr rfl | assumption) :
    PS X (.Assign [.Name x pos'] e pos) (tAsg te (gName i)) := by
  intro pins s σ H D I h
  refine wpAny_Assign_Name (thn (he pins s σ H _ I h) fun v s1 ⟨y, H1, I1, r1, q1⟩ => ?_) hs
  exact store_ok I1 hN hi hx r1 (fun s2 I2 => ⟨_, H1, I2, q1⟩) hf
end

section
variable {X : Cx} {pos : Pos}
noncomputable def tWhile (c : TT) (tb : TS) : TS := fun D σ H => ∃ W : Nat → St → Hp → Prop, (∃ m, W m σ H) ∧ ∀ m σ H, W m σ H →
  c σ H fun b H1 => if b = true then ∃ N : St → Hp → Prop, (∀ σ' H', N σ' H' → ∃ m', m' < m ∧ W m' σ' H') ∧ tb { D with nx := N, ct := N, bk := D.nx } σ H1 else D.nx σ H1
theorem ps_while {c : Expr} {body : List Stmt} {tc : TT} {tb : TS} (hp : PassesOwn (model X.prog X.w) X.A X.env X.xe) (hc : PT X c tc) (hb : PSs X body tb) : PS X (.While c body [] pos) (tWhile tc tb) := by
  intro pins s σ H D I h
  obtain ⟨W, ⟨m0, w0⟩, turn⟩ := h
  refine wpAny_While (codeAny_whileLoop (fun n s' => ∃ σ' H', Inv X pins σ' H' s' ∧ W n σ' H') ?_ m0 ⟨σ, H, I, w0⟩)
  rintro n s1 ⟨σ1, H1, I1, w1⟩
  refine wpAny_passesOwn hp (thn (hc pins s1 σ1 H1 _ I1 (turn n σ1 H1 w1)) fun b s2 ⟨H2, I2, q2⟩ => ?_)
  cases b with
  | true =>
    obtain ⟨N, hN, q2⟩ := q2
    rw [if_pos rfl]
    refine wpAny_passesOwn hp (thn (hb pins s2 σ1 H2 _ I2 q2) fun f s3 q3 => ?_)
    cases f with
    | next =>
      obtain ⟨σ3, H3, I3, n3⟩ := q3
      obtain ⟨m', hm, w3⟩ := hN σ3 H3 n3
      exact ⟨m', hm, σ3, H3, I3, w3⟩
    | cont =>
      obtain ⟨σ3, H3, I3, n3⟩ := q3
      obtain ⟨m', hm, w3⟩ := hN σ3 H3 n3
      exact ⟨m', hm, σ3, H3, I3, w3⟩
    | brk => exact q3
    | ret v => exact q3
  | false =>
    rw [if_neg Bool.false_ne_true]
    exact wpAny_execs_nil ⟨σ1, H2, I2, q2⟩
end

set_option genInjectivity false in
structure It where
  go : Nat → Hp → Prop
  yld : Nat → Hp → V → Hp → Prop
  stop : Nat → Hp → Prop
noncomputable def FpOk (X : Cx) (pins : List (Addr × Obj)) (H : Hp) (b : Addr) : Prop :=
  H b = none ∧ b ≠ X.env.locals ∧ b ∉ X.fs ∧ (b ∈ X.ex ∨ X.s₀.heap.objs.size ≤ b) ∧ (∀ x c, X.env.cells.lookup x = some c → c ≠ b) ∧ ∀ p ∈ X.pn ++ pins, p.1 ≠ b
theorem Inv.fpOk {X : Cx} {pins : List (Addr × Obj)} {σ : St} {H H' : Hp} {s : Shared} {b : Addr} (I : Inv X pins σ H s) (hb : s.heap.objs.size ≤ b) (hn : H' b = none) : FpOk X pins H' b := by
  refine ⟨hn, Nat.ne_of_gt (Nat.lt_of_lt_of_le I.lt hb), I.nofs hb, .inr (Nat.le_trans I.sz hb), fun x c e z => ?_, fun p hp z => ?_⟩
  · obtain ⟨v, q⟩ := I.cell x c e
    exact absurd (Nat.lt_of_lt_of_le q.lt (by rw [z]; exact hb)) (Nat.lt_irrefl _)
  · exact absurd (Nat.lt_of_lt_of_le (Heap.lt_size (I.pin p hp).1) (by rw [z]; exact hb)) (Nat.lt_irrefl _)
set_option genInjectivity false in
structure Turn (P : Program) (w : World) (K : PySem.W.Frag) (tg : Expr) (J : It) (fp : List Addr) (it : Addr) (tn : Nat → Heap → Prop) : Prop where
  mem : it ∈ fp
  obj : ∀ i h, tn i h → ∀ b ∈ fp, ∃ o, h.get? b = some o ∧ ∀ v, o.data ≠ .cell v
  keep : ∀ i h h', tn i h → (∀ b ∈ fp, ∀ o, h.get? b = some o → h'.get? b = some o) → tn i h'
  item : ∀ (X : Cx), X.prog = P → X.w = w → X.K = K → X.calm = true → ∀ (i : Nat) (pins : List (Addr × Obj)) (s : Shared) (σ : St) (H : Hp) (E : Value → Shared → Prop), Inv X pins σ H s → (∀ b ∈ fp, FpOk X pins H b) → tn i s.heap → J.go i H →
    wpAny (model P w) X.A (pyNext (.ref it)) (fun r s1 => ∃ u, r = some u ∧
      wpAny (model P w) X.A (letOwnedTupleGo tg (.ref it) u) (fun _ s2 => ∃ x H', Inv X pins σ H' s2 ∧ RelV x u ∧ J.yld i H x H' ∧ tn (i + 1) s2.heap ∧ ∀ b ∈ fp, H' b = none) E s1) E s
  done : ∀ (X : Cx), X.prog = P → X.w = w → X.K = K → X.calm = true → ∀ (i : Nat) (pins : List (Addr × Obj)) (s : Shared) (σ : St) (H : Hp) (E : Value → Shared → Prop), Inv X pins σ H s → (∀ b ∈ fp, FpOk X pins H b) → tn i s.heap → J.stop i H →
    wpAny (model P w) X.A (pyNext (.ref it)) (fun r s1 => r = none ∧ Inv X pins σ H s1) E s
  self : ∀ (A : Around) (i : Nat) (s : Shared) (Q : Value → Shared → Prop) (E : Value → Shared → Prop), tn i s.heap → Q (.ref it) s → wpAny (model P w) A (pyIter (.ref it)) Q E s
noncomputable abbrev TI := St → Hp → (It → Hp → Prop) → Prop
noncomputable def PIE (X : Cx) (pins : List (Addr × Obj)) (σ : St) (tg : Expr) (R : It → Hp → Prop) (itv : Value) (s2 : Shared) : Prop :=
  ∃ (it : Addr) (fp : List Addr) (tn : Nat → Heap → Prop) (J : It) (H' : Hp), itv = .ref it ∧ Inv X pins σ H' s2 ∧ Turn X.prog X.w X.K tg J fp it tn ∧ tn 0 s2.heap ∧ (∀ b ∈ fp, FpOk X pins H' b) ∧ R J H'
noncomputable def PI (X : Cx) (tg iter : Expr) (wi : TI) : Prop :=
  ∀ (pins : List (Addr × Obj)) (s : Shared) (σ : St) (H : Hp) (R : It → Hp → Prop), Inv X pins σ H s → wi σ H R →
    wpAny (model X.prog X.w) X.A (eval iter X.env) (fun v s1 => wpAny (model X.prog X.w) X.A (pyIter v) (PIE X pins σ tg R) X.xe s1) X.xe s

theorem go_of {M : Model} {A : Around} {E : Value → Shared → Prop} {s : Shared} {tg : Expr} {it : Addr} {u : Value} {o : Obj} {n : String} {vs : Array Value} {Q : Unit → Shared → Prop} (ho : s.heap.get? it = some o) (hc : o.cls = .type n) (hd : o.data = .fields vs)
    (hn : ["enumerate", "zip", "dict_itemiterator", "dict_reverseitemiterator", "odict_iterator", "itertools.zip_longest", "itertools.pairwise"].contains n = false) (hQ : Q () s) : wpAny M A (letOwnedTupleGo tg (.ref it) u) Q E s := by
  unfold letOwnedTupleGo
  cases tg <;> first
    | exact wpAny_pure hQ
    | (cases u <;> first
        | exact wpAny_pure hQ
        | (refine wpAny_bind (wpAny_load ho ?_)
           rw [hc, hd]
           show wpAny M A (if (["enumerate", "zip", "dict_itemiterator", "dict_reverseitemiterator", "odict_iterator", "itertools.zip_longest", "itertools.pairwise"].contains n && vs[0]? == some (rawInt _)) = true then _ else _) Q E s
           rw [if_neg (by intro h; rw [hn, Bool.false_and] at h; cases h)]
           exact wpAny_pure hQ))

noncomputable def Itl (K : PySem.W.Frag) (a : Addr) : It :=
  ⟨fun i H => ∃ xs x, SqL K H a xs ∧ xs[i]? = some x, fun i H x H' => H' = H ∧ ∀ xs, SqL K H a xs → xs[i]? = some x, fun i H => ∃ xs, SqL K H a xs ∧ xs.length ≤ i⟩
noncomputable def Itr (lo : Int) (n : Nat) : It := ⟨fun i _ => i < n, fun i H x H' => H' = H ∧ x = .int (lo + i), fun i _ => n ≤ i⟩
theorem turn_list {P : Program} {w : World} {K : PySem.W.Frag} {tg : Expr} (a it : Addr) : Turn P w K tg (Itl K a) [it] it (fun i h => h.IsListIter it a i) where
  mem := by simp
  obj := fun i h st b hb => by
    have e : b = it := by simpa using hb
    subst e
    obtain ⟨o, e, c, d⟩ := st
    exact ⟨o, e, fun v z => by rw [d] at z; cases z⟩
  keep := fun i h h' st k => st.at fun o e => k it (by simp) o e
  item := by
    intro X hP hw hK hc i pins s σ H E I hf st hg
    subst hP hw hK
    obtain ⟨xs, x, hq, hx⟩ := hg
    obtain ⟨its, rv, p, hz⟩ := I.list hq
    obtain ⟨u, hu, ru⟩ := rv.get hx
    obtain ⟨f0, f1, f2, f3, f4, f5⟩ := hf it (by simp)
    refine wpAny_pyNext_list_item st p.isList (x := u) (by simpa using hu) fun h' st' sb => ?_
    have I1 : Inv X pins σ H { s with heap := h' } := I.turned (t' := s.toks) (fun b o hb e => (sb.2 b hb).trans e) f0 f1 f3 f4 f5
    obtain ⟨o, e, c, d⟩ := id st'
    exact ⟨u, rfl, go_of (s := { s with heap := h' }) e c d (by decide) ⟨x, H, I1, ru, ⟨rfl, fun ys hy => by rw [I.list_inj hy hq]; exact hx⟩, st', fun b hb => (hf b hb).1⟩⟩
  done := by
    intro X hP hw hK hc i pins s σ H E I hf st hg
    subst hP hw hK
    obtain ⟨xs, hq, hx⟩ := hg
    obtain ⟨its, rv, p, hz⟩ := I.list hq
    obtain ⟨f0, f1, f2, f3, f4, f5⟩ := hf it (by simp)
    have hl := rv.length
    exact wpAny_pyNext_list_end (I.ok.hd hc) st p.isList (by simp; omega) fun h' eb => ⟨rfl, I.turned (t' := s.toks) (fun b o hb e => eb b o hb e) f0 f1 f3 f4 f5⟩
  self := fun _ _ _ _ _ st h => wpAny_pyIter_listiter st h
theorem turn_range {P : Program} {w : World} {K : PySem.W.Frag} {tg : Expr} (it : Addr) (lo : Int) (n : Nat) : Turn P w K tg (Itr lo n) [it] it (fun i h => IsRangeIter h it (lo + (i : Nat) * 1) ((n : Int) - (i : Nat)) 1) where
  mem := by simp
  obj := fun i h st b hb => by
    have e : b = it := by simpa using hb
    subst e
    exact ⟨_, st, fun v z => by
      have z' : Data.fields _ = Data.cell v := z
      cases z'⟩
  keep := fun i h h' st k => k it (by simp) _ st
  item := by
    intro X hP hw hK hc i pins s σ H E I hf st hg
    subst hP hw hK
    obtain ⟨f0, f1, f2, f3, f4, f5⟩ := hf it (by simp)
    have W := Walks.range (prog := X.prog) (w := X.w) (I.ok.hd hc) it lo 1 n
    refine W.item i s _ _ hg st fun v h' tk hv st' kk => ?_
    obtain ⟨t, rfl⟩ := hv
    have I1 : Inv X pins σ H { s with heap := h', toks := tk } := I.turned (fun b o hb e => kk b o (by simpa using hb) e) f0 f1 f3 f4 f5
    refine ⟨_, rfl, go_of (s := { s with heap := h', toks := tk }) (n := "range_iterator") st' rfl rfl (by decide) ⟨.int (lo + i), H, I1, ⟨t, ?_⟩, ⟨rfl, rfl⟩, st', fun b hb => (hf b hb).1⟩⟩
    rw [Int.mul_one]
  done := by
    intro X hP hw hK hc i pins s σ H E I hf st hg
    subst hP hw hK
    obtain ⟨f0, f1, f2, f3, f4, f5⟩ := hf it (by simp)
    exact wpAny_pyNext_range_end (I.ok.hd hc) st (by have : n ≤ i := hg; omega) fun h' eb => ⟨rfl, I.turned (t' := s.toks) (fun b o hb e => eb b o hb e) f0 f1 f3 f4 f5⟩
  self := fun _ _ _ _ _ st h => wpAny_pyIter_rangeiter st h
end L2

namespace L2
open PySem PySem.Spec PyProof.Rows
section
variable {X : Cx} {tg : Expr}
noncomputable def iList (K : PySem.W.Frag) (tl : TE) : TI := fun σ H R => tl σ H fun x H1 => ∃ a, x = .ref a ∧ (∃ xs, SqL K H1 a xs) ∧ R (Itl K a) H1
theorem pi_list {l : Expr} {tl : TE} (hl : PE X l tl) : PI X tg l (iList X.K tl) := by
  intro pins s σ H R I h
  refine thn (hl pins s σ H _ I h) fun v s1 ⟨x, H1, I1, r1, q1⟩ => ?_
  obtain ⟨a, e, ⟨xs, hq⟩, q⟩ := q1
  subst e
  cases r1
  obtain ⟨its, rv, p, hz⟩ := I1.list hq
  refine wpAny_pyIter_list p.isList ?_
  refine ⟨s1.heap.objs.size, [s1.heap.objs.size], _, _, H1, rfl, I1.kept (t' := s1.toks) fun b o e => Heap.get?_push_of_some _ e, turn_list a _, ⟨_, Heap.get?_push_size _ rfl, rfl, rfl⟩, fun b hb => ?_, q⟩
  have e : b = s1.heap.objs.size := by simpa using hb
  subst e
  exact I1.fpOk (Nat.le_refl _) (I1.hok.fresh (Nat.le_refl _))
theorem range_it {pins : List (Addr × Obj)} {σ : St} {H : Hp} {s : Shared} {R : It → Hp → Prop} {E : Value → Shared → Prop} {lo hi : Int} {t u v : Tok} {tk : Nat} (I : Inv X pins σ H s) (h1 : -(2 ^ 62) ≤ lo) (h2 : lo < 2 ^ 62) (h3 : -(2 ^ 62) ≤ hi) (h4 : hi < 2 ^ 62)
    (q : R (Itr lo (hi - lo).toNat) H) : wpAny (model X.prog X.w) X.A (pyIter (.ref s.heap.objs.size)) (PIE X pins σ tg R) E { s with heap := s.heap.push { cls := .type "range", data := .fields #[.int lo t, .int hi u, .int 1 v] }, toks := tk } := by
  refine wpAny_pyIter_range (IsRange.new ..) (small_one h1 h2 h3 h4) ?_
  have I1 : Inv X pins σ H { s with heap := s.heap.push { cls := .type "range", data := .fields #[.int lo t, .int hi u, .int 1 v] }, toks := tk } := I.kept fun b o e => Heap.get?_push_of_some _ e
  refine ⟨(s.heap.push { cls := .type "range", data := .fields #[.int lo t, .int hi u, .int 1 v] }).objs.size, [(s.heap.push { cls := .type "range", data := .fields #[.int lo t, .int hi u, .int 1 v] }).objs.size], _, _, H, rfl,
    I1.kept (t' := tk) fun b o e => Heap.get?_push_of_some _ e, turn_range _ lo (hi - lo).toNat, ?_, fun b hb => ?_, q⟩
  · have e1 : lo + ((0 : Nat) : Int) * 1 = lo := by simp
    have e2 : (((hi - lo).toNat : Nat) : Int) - ((0 : Nat) : Int) = Builtin.Range.rangeSize lo hi 1 := by rw [rangeSize_one]; split <;> omega
    show IsRangeIter _ _ (lo + ((0 : Nat) : Int) * 1) ((((hi - lo).toNat : Nat) : Int) - ((0 : Nat) : Int)) 1
    rw [e1, e2]
    exact Heap.get?_push_size _ rfl
  · have e : b = (s.heap.push { cls := .type "range", data := .fields #[.int lo t, .int hi u, .int 1 v] }).objs.size := by simpa using hb
    subst e
    exact I1.fpOk (Nat.le_refl _) (I1.hok.fresh (Nat.le_refl _))
noncomputable def iRng1 (ta : TA) : TI := fun σ H R => ta σ H fun vs H1 => ∃ j : Int, vs = [.int j] ∧ -(2 ^ 62) ≤ j ∧ j < 2 ^ 62 ∧ R (Itr 0 j.toNat) H1
theorem pi_range1 {a : Expr} {ta : TA} {p pos : Pos} (hg : Gl X "range") (hm : X.mg "range" = none) (ha : PA X [a] ta) (hs : starEach [a] X.env = [(false, eval a X.env)] := by rfl) : PI X tg (.Call (.Name "range" p) [a] [] pos) (iRng1 ta) := by
  intro pins s σ H R I h
  refine Call_ (ld_blt I hg hm boot_range (PyProof.Rows.callWith_type1 (thn (ha pos pins s σ H _ I h) fun us s1 ⟨vs, H1, I1, r1, q1⟩ => ?_) hs rfl))
  obtain ⟨j, e, q1, q2, q⟩ := q1
  subst e
  cases r1 with
  | cons r rr =>
    cases rr
    obtain ⟨t, rfl⟩ := r
    exact call_range_1 (range_it I1 (by omega) (by omega) q1 q2 (by simpa using q))
noncomputable def tFor (wi : TI) (g : TG) (tb : TS) : TS := fun D σ H => wi σ H fun J H1 => ∃ W : Nat → Nat → St → Hp → Prop, (∃ m, W 0 m σ H1) ∧ ∀ i m σ H, W i m σ H →
  (J.stop i H ∧ D.nx σ H) ∨ (J.go i H ∧ ∃ N : St → Hp → Prop, (∀ σ' H', N σ' H' → ∃ m', m' < m ∧ W (i + 1) m' σ' H') ∧ ∀ x H', J.yld i H x H' → g x σ H' fun σ2 H2 => tb { D with nx := N, ct := N, bk := D.nx } σ2 H2)
noncomputable def pinsAt (fp : List Addr) (h : Heap) : List (Addr × Obj) := fp.filterMap fun b => (h.get? b).map fun o => (b, o)
theorem mem_pinsAt {fp : List Addr} {h : Heap} {b : Addr} {o : Obj} (hb : b ∈ fp) (e : h.get? b = some o) : (b, o) ∈ pinsAt fp h := List.mem_filterMap.mpr ⟨b, hb, by rw [e]; rfl⟩
theorem of_pinsAt {fp : List Addr} {h : Heap} {p : Addr × Obj} (hp : p ∈ pinsAt fp h) : p.1 ∈ fp ∧ h.get? p.1 = some p.2 := by
  obtain ⟨b, hb, e⟩ := List.mem_filterMap.mp hp
  cases q : h.get? b with
  | none => rw [q] at e; cases e
  | some o =>
    rw [q] at e
    have e' : (b, o) = p := Option.some.inj e
    subst e'
    exact ⟨hb, q⟩
theorem Inv.pinned {pins : List (Addr × Obj)} {σ : St} {H : Hp} {s : Shared} {fp : List Addr} (I : Inv X pins σ H s) (hf : ∀ b ∈ fp, FpOk X pins H b) (ho : ∀ b ∈ fp, ∃ o, s.heap.get? b = some o ∧ ∀ v, o.data ≠ .cell v) : Inv X (pins ++ pinsAt fp s.heap) σ H s :=
  I.pins_of fun p hp => (List.mem_append.mp hp).elim (fun z => I.pin p (List.mem_append_right _ z)) fun z => by
    obtain ⟨hb, e⟩ := of_pinsAt z
    obtain ⟨f0, f1, f2, _⟩ := hf p.1 hb
    obtain ⟨o, e', d⟩ := ho p.1 hb
    rw [e] at e'; cases e'
    exact ⟨e, f0, f1, f2, d⟩
theorem Inv.unpinned {pins pl : List (Addr × Obj)} {σ : St} {H : Hp} {s : Shared} (I : Inv X (pins ++ pl) σ H s) : Inv X pins σ H s := I.pins_of fun p hp => I.pin p (List.mem_append_right _ (List.mem_append_left _ hp))
theorem ps_for {iter : Expr} {body : List Stmt} {wi : TI} {g : TG} {tb : TS} {pos : Pos} (hp : PassesOwn (model X.prog X.w) X.A X.env X.xe) (hc : X.calm = true) (hi : PI X tg iter wi) (hg : PG X tg g) (hb : PSs X body tb)
    (hs : ∀ x, foldedSetIterable iter X.env x = pure x := by intro _; rfl) : PS X (.For tg iter body [] pos) (tFor wi g tb) := by
  intro pins s σ H D I h
  refine wpAny_For (thn (hi pins s σ H _ I h) fun v s1 h1 => thn h1 fun itv s2 h2 => ?_) hs
  obtain ⟨it, fp, tn, J, H2, e, I2, T, st2, f2, W, ⟨m0, w0⟩, turn⟩ := h2
  subst e

  have stat : ∀ {H' : Hp}, (∀ b ∈ fp, H' b = none) → ∀ b ∈ fp, FpOk X pins H' b := fun hn b hb => ⟨hn b hb, (f2 b hb).2⟩
  refine codeAny_forLoop_any (fun n s' => ∃ i σ' H', Inv X pins σ' H' s' ∧ tn i s'.heap ∧ (∀ b ∈ fp, H' b = none) ∧ W i n σ' H') ?_ m0 ⟨0, σ, H2, I2, st2, fun b hb => (f2 b hb).1, w0⟩
  rintro n s3 ⟨i, σ3, H3, I3, st3, fr3, w3⟩
  rcases turn i n σ3 H3 w3 with ⟨stop, qn⟩ | ⟨go, N, hN, step⟩
  · refine wpAny_passesOwn hp (thn (T.done X rfl rfl rfl hc i pins s3 σ3 H3 X.xe I3 (stat fr3) st3 stop) fun r s4 ⟨hr, I4⟩ => ?_)
    subst hr
    exact wpAny_execs_nil ⟨σ3, H3, I4, qn⟩
  · refine wpAny_passesOwn hp (thn (T.item X rfl rfl rfl hc i pins s3 σ3 H3 X.xe I3 (stat fr3) st3 go) fun r s4 ⟨u, hr, h4⟩ => ?_)
    subst hr
    refine wpAny_passesOwn hp (thn h4 fun _ s5 ⟨x, H5, I5, r5, y5, st5, fr5⟩ => ?_)
    have I5' := I5.pinned (stat fr5) (T.obj _ _ st5)
    refine wpAny_passesOwn hp (thn (hg _ s5 σ3 H5 x u _ I5' r5 (step x H5 y5)) fun _ s6 ⟨σ6, H6, I6, q6⟩ => ?_)
    refine wpAny_passesOwn hp (thn (hb _ s6 σ6 H6 _ I6 q6) fun f s7 q7 => ?_)
    have again : ∀ {σ7 : St} {H7 : Hp}, Inv X (pins ++ pinsAt fp s5.heap) σ7 H7 s7 → N σ7 H7 → ∃ m, m < n ∧ ∃ i σ' H', Inv X pins σ' H' s7 ∧ tn i s7.heap ∧ (∀ b ∈ fp, H' b = none) ∧ W i m σ' H' := fun {σ7 H7} I7 n7 => by
      obtain ⟨m', hm, w7⟩ := hN σ7 H7 n7
      refine ⟨m', hm, i + 1, σ7, H7, I7.unpinned, T.keep _ _ _ st5 fun b hb o e => (I7.pin (b, o) (List.mem_append_right _ (List.mem_append_right _ (mem_pinsAt hb e)))).1, fun b hb => ?_, w7⟩
      obtain ⟨o, e, d⟩ := T.obj _ _ st5 b hb
      exact (I7.pin (b, o) (List.mem_append_right _ (List.mem_append_right _ (mem_pinsAt hb e)))).2.1
    cases f with
    | next => obtain ⟨σ7, H7, I7, n7⟩ := q7; exact again I7 n7
    | cont => obtain ⟨σ7, H7, I7, n7⟩ := q7; exact again I7 n7
    | brk => obtain ⟨σ7, H7, I7, q7⟩ := q7; exact ⟨σ7, H7, I7.unpinned, q7⟩
    | ret v => obtain ⟨x7, σ7, H7, I7, r7, q7⟩ := q7; exact ⟨x7, σ7, H7, I7.unpinned, r7, q7⟩
end

theorem for_list {K : PySem.W.Frag} {a : Addr} {xs : List V} {g : TG} {tb : TS} {D : Ends} {σ : St} {H : Hp} (Pv : Nat → St → Hp → Prop) (h0 : Pv 0 σ H) (hl : ∀ i σ H, i ≤ xs.length → Pv i σ H → SqL K H a xs)
    (hs : ∀ i x σ H, xs[i]? = some x → Pv i σ H → g x σ H fun σ2 H2 => tb { D with nx := Pv (i + 1), ct := Pv (i + 1), bk := D.nx } σ2 H2) (hd : ∀ σ H, Pv xs.length σ H → D.nx σ H) :
    ∃ W : Nat → Nat → St → Hp → Prop, (∃ m, W 0 m σ H) ∧ ∀ i m σ H, W i m σ H →
      ((Itl K a).stop i H ∧ D.nx σ H) ∨ ((Itl K a).go i H ∧ ∃ N : St → Hp → Prop, (∀ σ' H', N σ' H' → ∃ m', m' < m ∧ W (i + 1) m' σ' H') ∧ ∀ x H', (Itl K a).yld i H x H' → g x σ H' fun σ2 H2 => tb { D with nx := N, ct := N, bk := D.nx } σ2 H2) := by
  refine ⟨fun i m σ H => m = xs.length - i ∧ i ≤ xs.length ∧ Pv i σ H, ⟨xs.length, by simp, Nat.zero_le _, h0⟩, ?_⟩
  rintro i m σ H ⟨rfl, hi, p⟩
  have q := hl i σ H hi p
  by_cases hlt : i < xs.length
  · refine .inr ⟨⟨xs, xs[i], q, by simp [hlt]⟩, Pv (i + 1), fun σ' H' p' => ⟨xs.length - (i + 1), by omega, rfl, hlt, p'⟩, fun x H' y => ?_⟩
    obtain ⟨e, y⟩ := y
    subst e
    exact hs i x σ _ (y xs q) p
  · have e : i = xs.length := by omega
    subst e
    exact .inl ⟨⟨xs, q, Nat.le_refl _⟩, hd σ H p⟩
theorem for_range {lo : Int} {n : Nat} {g : TG} {tb : TS} {D : Ends} {σ : St} {H : Hp} (Pv : Nat → St → Hp → Prop) (h0 : Pv 0 σ H)
    (hs : ∀ i σ H, i < n → Pv i σ H → g (.int (lo + i)) σ H fun σ2 H2 => tb { D with nx := Pv (i + 1), ct := Pv (i + 1), bk := D.nx } σ2 H2) (hd : ∀ σ H, Pv n σ H → D.nx σ H) :
    ∃ W : Nat → Nat → St → Hp → Prop, (∃ m, W 0 m σ H) ∧ ∀ i m σ H, W i m σ H →
      ((Itr lo n).stop i H ∧ D.nx σ H) ∨ ((Itr lo n).go i H ∧ ∃ N : St → Hp → Prop, (∀ σ' H', N σ' H' → ∃ m', m' < m ∧ W (i + 1) m' σ' H') ∧ ∀ x H', (Itr lo n).yld i H x H' → g x σ H' fun σ2 H2 => tb { D with nx := N, ct := N, bk := D.nx } σ2 H2) := by
  refine ⟨fun i m σ H => m = n - i ∧ i ≤ n ∧ Pv i σ H, ⟨n, by simp, Nat.zero_le _, h0⟩, ?_⟩
  rintro i m σ H ⟨rfl, hi, p⟩
  by_cases hlt : i < n
  · refine .inr ⟨hlt, Pv (i + 1), fun σ' H' p' => ⟨n - (i + 1), by omega, rfl, hlt, p'⟩, fun x H' y => ?_⟩
    obtain ⟨e, y⟩ := y
    subst e y
    exact hs i σ _ hlt p
  · have e : i = n := by omega
    subst e
    exact .inl ⟨Nat.le_refl _, hd σ H p⟩
end L2

namespace L2
open PySem PySem.Spec PyProof.Rows

noncomputable abbrev R2 := V → V → Hp → VK → Prop
noncomputable def OpR (X : Cx) (f : Value → Value → Sem Value) (r : R2) : Prop :=
  ∀ (pins : List (Addr × Obj)) (s : Shared) (σ : St) (H : Hp) (x y : V) (v u : Value) (Q : VK), Inv X pins σ H s → RelV x v → RelV y u → r x y H Q →
    wpAny (model X.prog X.w) X.A (f v u) (EP X pins σ Q) X.xe s
noncomputable def UnR (X : Cx) (f : Value → Sem Value) (r : V → Hp → VK → Prop) : Prop :=
  ∀ (pins : List (Addr × Obj)) (s : Shared) (σ : St) (H : Hp) (x : V) (v : Value) (Q : VK), Inv X pins σ H s → RelV x v → r x H Q →
    wpAny (model X.prog X.w) X.A (f v) (EP X pins σ Q) X.xe s
noncomputable def CallR (X : Cx) (f : Value) (r : List V → Hp → VK → Prop) : Prop :=
  ∀ (pins : List (Addr × Obj)) (s : Shared) (σ : St) (H : Hp) (xs : List V) (us : List Value) (Q : VK), Inv X pins σ H s → Vals xs us → r xs H Q →
    wpAny (model X.prog X.w) X.A (call f us) (EP X pins σ Q) X.xe s
noncomputable def tOp (r : R2) (ta tb : TE) : TE := fun σ H Q => ta σ H fun x H1 => tb σ H1 fun y H2 => r x y H2 Q
noncomputable def rI (C : Int → Int → Prop) (g : Int → Int → V) : R2 := fun x y H Q => ∃ i j, x = .int i ∧ y = .int j ∧ C i j ∧ Q (g i j) H
noncomputable def rI0 (g : Int → Int → V) : R2 := fun x y H Q => ∃ i j, x = .int i ∧ y = .int j ∧ Q (g i j) H
section
variable {X : Cx} {a b c : Expr} {ta tb tc : TE} {pos : Pos}

theorem binT (ha : PE X a ta) (hb : PE X b tb) {pins : List (Addr × Obj)} {s : Shared} {σ : St} {H : Hp} {R : V → V → Hp → Prop} (I : Inv X pins σ H s)
    (h : ta σ H fun x H1 => tb σ H1 fun y H2 => R x y H2) {Q : Value → Shared → Prop} {f : Value → Value → Sem Value}
    (hf : ∀ v u s2 x y H2, Inv X pins σ H2 s2 → RelV x v → RelV y u → R x y H2 → wpAny (model X.prog X.w) X.A (f v u) Q X.xe s2) :
    wpAny (model X.prog X.w) X.A (eval a X.env) (fun v s₁ => wpAny (model X.prog X.w) X.A (eval b X.env) (fun u s₂ => wpAny (model X.prog X.w) X.A (f v u) Q X.xe s₂) X.xe s₁) X.xe s := by
  refine thn (ha pins s σ H _ I h) fun v s1 ⟨x, H1, I1, r1, q1⟩ => ?_
  refine thn (hb pins s1 σ H1 _ I1 q1) fun u s2 ⟨y, H2, I2, r2, q2⟩ => ?_
  exact hf v u s2 x y H2 I2 r1 r2 q2

theorem pe_op {op : Operator} {r : R2} (ho : OpR X (binaryOp op) r) (ha : PE X a ta) (hb : PE X b tb) : PE X (.BinOp a op b pos) (tOp r ta tb) := by
  intro pins s σ H Q I h
  exact wpAny_BinOp (binT ha hb I h fun v u s2 x y H2 I2 rx ry q => ho pins s2 σ H2 x y v u Q I2 rx ry q)
theorem opI {f : Value → Value → Sem Value} {C : Int → Int → Prop} {g : Int → Int → Int}
    (rule : ∀ (i j : Int) (t u : Tok) (s : Shared) (Q : Value → Shared → Prop) (E : Value → Shared → Prop), C i j → Q (.int (g i j) s.toks) { s with toks := s.toks + 1 } → wpAny (model X.prog X.w) X.A (f (.int i t) (.int j u)) Q E s) :
    OpR X f (rI C fun i j => .int (g i j)) := by
  intro pins s σ H x y v u Q I rx ry h
  obtain ⟨i, j, rfl, rfl, hc, q⟩ := h
  obtain ⟨t, rfl⟩ := rx
  obtain ⟨t', rfl⟩ := ry
  exact rule i j t t' s _ _ hc ⟨.int (g i j), H, I.tok _, ⟨_, rfl⟩, q⟩
theorem opI0 {f : Value → Value → Sem Value} {g : Int → Int → Int}
    (rule : ∀ (i j : Int) (t u : Tok) (s : Shared) (Q : Value → Shared → Prop) (E : Value → Shared → Prop), Q (.int (g i j) s.toks) { s with toks := s.toks + 1 } → wpAny (model X.prog X.w) X.A (f (.int i t) (.int j u)) Q E s) :
    OpR X f (rI0 fun i j => .int (g i j)) := by
  intro pins s σ H x y v u Q I rx ry h
  obtain ⟨i, j, rfl, rfl, q⟩ := h
  obtain ⟨t, rfl⟩ := rx
  obtain ⟨t', rfl⟩ := ry
  exact rule i j t t' s _ _ ⟨.int (g i j), H, I.tok _, ⟨_, rfl⟩, q⟩
theorem opB0 {f : Value → Value → Sem Value} {g : Int → Int → Bool}
    (rule : ∀ (i j : Int) (t u : Tok) (s : Shared) (Q : Value → Shared → Prop) (E : Value → Shared → Prop), Q (.bool (g i j)) s → wpAny (model X.prog X.w) X.A (f (.int i t) (.int j u)) Q E s) :
    OpR X f (rI0 fun i j => .bl (g i j)) := by
  intro pins s σ H x y v u Q I rx ry h
  obtain ⟨i, j, rfl, rfl, q⟩ := h
  obtain ⟨t, rfl⟩ := rx
  obtain ⟨t', rfl⟩ := ry
  exact rule i j t t' s _ _ ⟨.bl (g i j), H, I, rfl, q⟩

noncomputable def CDiv (i j : Int) : Prop := 0 < j ∧ j < 1073741824
noncomputable def CPow (i j : Int) : Prop := 0 ≤ j ∧ j ≤ 1000000 ∧ i.natAbs < 2 ^ 64
noncomputable def CMul (i j : Int) : Prop := (-(2 ^ 64) < i ∧ i < 2 ^ 64) ∨ (-(2 ^ 64) < j ∧ j < 2 ^ 64)
theorem CMul.ok {i j : Int} (h : CMul i j) : IntMulOk i j := by
  rcases h with ⟨h1, h2⟩ | ⟨h1, h2⟩
  · exact .of_left (intBits_le_64 h1 h2)
  · exact .of_right (intBits_le_64 h1 h2)
theorem op_add : OpR X (binaryOp .Add) (rI0 fun i j => .int (i + j)) := opI0 fun _ _ _ _ _ _ _ q => add_int q
theorem op_sub : OpR X (binaryOp .Sub) (rI0 fun i j => .int (i - j)) := opI0 fun _ _ _ _ _ _ _ q => sub_int q
theorem op_mul : OpR X (binaryOp .Mult) (rI CMul fun i j => .int (i * j)) := opI fun _ _ _ _ _ _ _ hc q => mul_int q hc.ok
theorem op_fdiv : OpR X (binaryOp .FloorDiv) (rI CDiv fun i j => .int (i / j)) := opI fun i j _ _ _ _ _ hc q => by
  have h1 : (0 : Int) < j := hc.1
  have h2 : j < 1073741824 := hc.2
  exact floordiv_int (by omega) (by rw [Int.fdiv_eq_ediv_of_nonneg i (by omega)]; exact q) (.inl (PyProof.noPylong_small (by omega)))
theorem op_mod : OpR X (binaryOp .Mod) (rI (fun _ j => 0 < j) fun i j => .int (i % j)) := opI fun i j _ _ _ _ _ hc q => by
  have h1 : (0 : Int) < j := hc
  exact mod_int' (by omega) (by rw [Int.fmod_eq_emod_of_nonneg i (by omega)]; exact q)
theorem op_pow : OpR X (binaryOp .Pow) (rI CPow fun i j => .int (i ^ j.toNat)) := opI fun _ _ _ _ _ _ _ hc q => pow_int_small hc.1 hc.2.1 hc.2.2 q
end

noncomputable def scal : V → V → Bool
  | .non, .non => true | .non, .int _ => true | .int _, .non => true | .non, .bl _ => true | .bl _, .non => true | .non, .str _ => true | .str _, .non => true
  | .int _, .int _ => true | .bl _, .bl _ => true | .str _, .str _ => true | .byt _, .byt _ => true
  | .int _, .str _ => true | .str _, .int _ => true | .bl _, .str _ => true | .str _, .bl _ => true
  | _, _ => false
noncomputable def rEq : R2 := fun x y H Q => scal x y = true ∧ Q (.bl (decide (x = y))) H
noncomputable def rNe : R2 := fun x y H Q => scal x y = true ∧ Q (.bl (!decide (x = y))) H

theorem dec_int {i j : Int} : decide (V.int i = V.int j) = (i == j) := by
  rw [Bool.eq_iff_iff]
  simp
theorem dec_bl {i j : Bool} : decide (V.bl i = V.bl j) = (i == j) := by
  rw [Bool.eq_iff_iff]
  simp
theorem dec_str {i j : Str} : decide (V.str i = V.str j) = (i == j) := by
  rw [Bool.eq_iff_iff]
  simp
theorem dec_byt {i j : Array UInt8} : decide (V.byt i = V.byt j) = (i.toList == j.toList) := by
  rw [Bool.eq_iff_iff]
  cases i
  cases j
  simp

section
variable {X : Cx} {a b c : Expr} {ta tb tc : TE} {pos : Pos}
theorem fin_bl {pins : List (Addr × Obj)} {σ : St} {H : Hp} {s : Shared} {Q : VK} {k k' : Bool} (I : Inv X pins σ H s) (q : Q (.bl k) H) (e : k = k') : EP X pins σ Q (.bool k') s := by
  subst e
  exact ⟨.bl k, H, I, rfl, q⟩
theorem op_eq : OpR X (compareOp .Eq) rEq := by
  intro pins s σ H x y v u Q I rx ry h
  obtain ⟨hs, q⟩ := h
  cases x with
  | non =>
    cases rx
    cases y with
    | non => cases ry; exact PySem.EqNone.eq_none_none (fin_bl I q (by simp))
    | bl j => cases ry; exact PySem.EqNone.eq_none_bool (fin_bl I q (by simp))
    | int j => obtain ⟨t', rfl⟩ := ry; exact PySem.EqNone.eq_none_int (fin_bl I q (by simp))
    | str j => obtain ⟨t', rfl⟩ := ry; exact PySem.EqNone.eq_none_str (fin_bl I q (by simp))
    | _ => exact absurd (show false = true from hs) Bool.false_ne_true
  | bl i =>
    cases rx
    cases y with
    | non => cases ry; exact PySem.EqNone.eq_bool_none (fin_bl I q (by simp))
    | bl j => cases ry; exact eq_bool (fin_bl I q dec_bl)
    | str j => obtain ⟨t', rfl⟩ := ry; exact PySem.EqMixed.eq_bool_str (fin_bl I q (by simp))
    | _ => exact absurd (show false = true from hs) Bool.false_ne_true
  | int i =>
    obtain ⟨t, rfl⟩ := rx
    cases y with
    | non => cases ry; exact PySem.EqNone.eq_int_none (fin_bl I q (by simp))
    | int j => obtain ⟨t', rfl⟩ := ry; exact eq_int (fin_bl I q dec_int)
    | str j => obtain ⟨t', rfl⟩ := ry; exact PySem.EqMixed.eq_int_str (fin_bl I q (by simp))
    | _ => exact absurd (show false = true from hs) Bool.false_ne_true
  | str i =>
    obtain ⟨t, rfl⟩ := rx
    cases y with
    | non => cases ry; exact PySem.EqNone.eq_str_none (fin_bl I q (by simp))
    | bl j => cases ry; exact PySem.EqMixed.eq_str_bool (fin_bl I q (by simp))
    | int j => obtain ⟨t', rfl⟩ := ry; exact PySem.EqMixed.eq_str_int (fin_bl I q (by simp))
    | str j => obtain ⟨t', rfl⟩ := ry; exact eq_str (fin_bl I q dec_str)
    | _ => exact absurd (show false = true from hs) Bool.false_ne_true
  | byt i =>
    obtain ⟨t, rfl⟩ := rx
    cases y with
    | byt j => obtain ⟨t', rfl⟩ := ry; exact PySem.W.eq_bytes (fin_bl I q dec_byt)
    | _ => exact absurd (show false = true from hs) Bool.false_ne_true
  | _ => cases y <;> exact absurd (show false = true from hs) Bool.false_ne_true
theorem op_ne : OpR X (compareOp .NotEq) rNe := by
  intro pins s σ H x y v u Q I rx ry h
  obtain ⟨hs, q⟩ := h
  cases x with
  | non =>
    cases rx
    cases y with
    | non => cases ry; exact PySem.EqNone.ne_none_none (fin_bl I q (by simp))
    | bl j => cases ry; exact PySem.EqNone.ne_none_bool (fin_bl I q (by simp))
    | int j => obtain ⟨t', rfl⟩ := ry; exact PySem.EqNone.ne_none_int (fin_bl I q (by simp))
    | str j => obtain ⟨t', rfl⟩ := ry; exact PySem.EqNone.ne_none_str (fin_bl I q (by simp))
    | _ => exact absurd (show false = true from hs) Bool.false_ne_true
  | bl i =>
    cases rx
    cases y with
    | non => cases ry; exact PySem.EqNone.ne_bool_none (fin_bl I q (by simp))
    | bl j => cases ry; exact ne_bool (fin_bl I q (congrArg not dec_bl))
    | str j => obtain ⟨t', rfl⟩ := ry; exact PySem.EqMixed.ne_bool_str (fin_bl I q (by simp))
    | _ => exact absurd (show false = true from hs) Bool.false_ne_true
  | int i =>
    obtain ⟨t, rfl⟩ := rx
    cases y with
    | non => cases ry; exact PySem.EqNone.ne_int_none (fin_bl I q (by simp))
    | int j => obtain ⟨t', rfl⟩ := ry; exact ne_int (fin_bl I q (congrArg not dec_int))
    | str j => obtain ⟨t', rfl⟩ := ry; exact PySem.EqMixed.ne_int_str (fin_bl I q (by simp))
    | _ => exact absurd (show false = true from hs) Bool.false_ne_true
  | str i =>
    obtain ⟨t, rfl⟩ := rx
    cases y with
    | non => cases ry; exact PySem.EqNone.ne_str_none (fin_bl I q (by simp))
    | bl j => cases ry; exact PySem.EqMixed.ne_str_bool (fin_bl I q (by simp))
    | int j => obtain ⟨t', rfl⟩ := ry; exact PySem.EqMixed.ne_str_int (fin_bl I q (by simp))
    | str j => obtain ⟨t', rfl⟩ := ry; exact ne_str (fin_bl I q (congrArg not dec_str))
    | _ => exact absurd (show false = true from hs) Bool.false_ne_true
  | byt i =>
    obtain ⟨t, rfl⟩ := rx
    cases y with
    | byt j => obtain ⟨t', rfl⟩ := ry; exact PySem.W.ne_bytes (fin_bl I q (congrArg not dec_byt))
    | _ => exact absurd (show false = true from hs) Bool.false_ne_true
  | _ => cases y <;> exact absurd (show false = true from hs) Bool.false_ne_true

theorem op_lt : OpR X (compareOp .Lt) (rI0 fun i j => .bl (decide (i < j))) := opB0 fun _ _ _ _ _ _ _ q => lt_int q
theorem op_le : OpR X (compareOp .LtE) (rI0 fun i j => .bl (decide (i ≤ j))) := opB0 fun _ _ _ _ _ _ _ q => le_int q
theorem op_gt : OpR X (compareOp .Gt) (rI0 fun i j => .bl (decide (j < i))) := opB0 fun _ _ _ _ _ _ _ q => gt_int q
theorem op_ge : OpR X (compareOp .GtE) (rI0 fun i j => .bl (decide (j ≤ i))) := opB0 fun _ _ _ _ _ _ _ q => ge_int q
theorem nomark (b : Expr) {op : CmpOp} (h : op ≠ .In := by decide) (h2 : op ≠ .NotIn := by decide) : behindInMarks op b = false := by
  have e1 : (op == CmpOp.In) = false := by cases op <;> first | rfl | exact absurd rfl h
  have e2 : (op == CmpOp.NotIn) = false := by cases op <;> first | rfl | exact absurd rfl h2
  cases b <;> simp [behindInMarks, e1, e2]
theorem pe_cmpR {op : CmpOp} {r : R2} (ho : OpR X (compareOp op) r) (ha : PE X a ta) (hb : PE X b tb) (hm : behindInMarks op b = false) : PE X (.Compare a [op] [b] pos) (tOp r ta tb) := by
  intro pins s σ H Q I h
  exact wpAny_Compare1 (binT ha hb I h fun v u s2 x y H2 I2 rx ry q => ho pins s2 σ H2 x y v u Q I2 rx ry q) hm
noncomputable def tTest (t : TE) : TT := fun σ H Q => t σ H fun x H' => ∃ k, x = .bl k ∧ Q k H'
theorem pt_cmpR {op : CmpOp} {r : R2} (ho : OpR X (compareOp op) r) (ha : PE X a ta) (hb : PE X b tb) (hm : behindInMarks op b = false) : PT X (.Compare a [op] [b] pos) (tTest (tOp r ta tb)) := by
  intro pins s σ H Q I h
  refine wpAny_isTrue_Compare1 (thn (ha pins s σ H _ I h) fun v s1 ⟨x, H1, I1, r1, q1⟩ => thn (hb pins s1 σ H1 _ I1 q1) fun u s2 ⟨y, H2, I2, r2, q2⟩ =>
    thn (ho pins s2 σ H2 x y v u _ I2 r1 r2 q2) fun c s3 ⟨z, H3, I3, r3, k, e, q3⟩ => ?_) hm
  subst e
  cases r3
  exact wpAny_truthy_bool ⟨H3, I3, q3⟩
theorem line63 : (sizeLine : Nat) < 2 ^ 63 := by rw [sizeLine_eq]; decide
theorem vals1 {x : V} {us : List Value} (r : Vals [x] us) : ∃ u, us = [u] ∧ RelV x u := by
  cases r with
  | cons r1 r2 => cases r2; exact ⟨_, rfl, r1⟩
theorem vals2 {x y : V} {us : List Value} (r : Vals [x, y] us) : ∃ u w', us = [u, w'] ∧ RelV x u ∧ RelV y w' := by
  cases r with
  | cons r1 r2 =>
    cases r2 with
    | cons r3 r4 => cases r4; exact ⟨_, _, rfl, r1, r3⟩
theorem call_abs : CallR X (.builtin "abs") (fun xs H Q => ∃ i, xs = [.int i] ∧ Q (.int (if i < 0 then -i else i)) H) := by
  intro pins s σ H xs us Q I r h
  obtain ⟨i, rfl, q⟩ := h
  obtain ⟨u, rfl, t, rfl⟩ := vals1 r
  exact call_abs_int fun u tk => ⟨.int (if i < 0 then -i else i), H, I.tok _, ⟨_, rfl⟩, q⟩
end
end L2

namespace L2
open PySem PySem.Spec PyProof.Rows

set_option genInjectivity false in
structure ObjM (h : Heap) (x dx C : Addr) (mA : Str → Option Value) : Prop where
  obj : h.get? x = some (PySem.W.instObj C dx)
  ns : h.Ns1 dx mA
  ne : dx ≠ x

theorem lookIn_ns {h : Heap} {dx : Addr} {mA : Str → Option Value} (n : h.Ns1 dx mA) : ∃ od, h.get? dx = some od ∧ ∀ name, PySem.W.lookIn name od = some (mA name) := by
  obtain ⟨o, es, ep, ho, hd, hk, _, hm⟩ := n
  refine ⟨o, ho, fun name => ?_⟩
  have e := hm name
  unfold nsFind findBy at e
  rw [← Array.find?_toList] at e
  unfold PySem.W.lookIn
  rw [hd]
  dsimp only
  split
  · rename_i y q
    rw [q] at e
    exact congrArg some e
  · rename_i q
    rw [q] at e
    have a : es.toList.any (·.refKey) = false := by
      rw [List.any_eq_false]
      intro y hy
      obtain ⟨z, t, hkey⟩ := hk y (Array.mem_toList_iff.mp hy)
      simp [DictEntry.refKey, hkey]
    have a' : ¬ es.toList.any (·.refKey) = true := by rw [a]; exact Bool.false_ne_true
    rw [if_neg a']
    exact congrArg some e

theorem ObjM.look {h : Heap} {x dx C : Addr} {mA : Str → Option Value} (I : ObjM h x dx C mA) : ∃ od, PySem.W.InstAt h x (PySem.W.instObj C dx) C (some od) ∧ ∀ name, PySem.W.lookIn name od = some (mA name) :=
  let ⟨od, ho, hl⟩ := lookIn_ns I.ns
  ⟨od, ⟨I.obj, rfl, rfl, ho⟩, hl⟩

section
variable {prog : Program} {w : World} {A : Around} {E : Value → Shared → Prop} {s : Shared} {K : PySem.W.Frag} {x dx C f : Addr} {mA : Str → Option Value} {name : Str} {v : Value}

end

section
variable {P : Program} {w : World} {H H' : Hp} {h h' : Heap} {a C dx : Addr} {fs fs' : List (Str × V)}
theorem ins_get (hok : HOk P w H h) (e : H a = some (.ins C dx fs)) : ∃ mA, ObjM h a dx C mA ∧ (∀ f, RelO (fs.lookup f) (mA f)) ∧ PySem.Within mA (fs.map (·.1)) ∧ fs.length ≤ 1000 ∧ H dx = some (.own a) := by
  obtain ⟨d, z, ne, ob, mA, n, r, q⟩ := (show ObjOk P w H h a (.ins C dx fs) from hok a _ e)
  exact ⟨mA, ⟨ob, n, ne⟩, r, q, z, d⟩
end

set_option genInjectivity false in
structure Cls (K : PySem.W.Frag) (C : Addr) : Prop where
  pg : PySem.W.plainGet K C Str.empty = true
  hd : PySem.W.hasDictIn K C = true
  po : PySem.W.plainOver K C = true
  sa : PySem.W.findIn K (.ref C) "__setattr__" = some (some (.builtin "object.__setattr__"))
theorem Cls.get {K : PySem.W.Frag} {C : Addr} (c : Cls K C) (f : Str) : PySem.W.plainGet K C f = true := c.pg
section
variable {X : Cx} {pins : List (Addr × Obj)} {σ : St} {H : Hp} {s : Shared} {a C dx : Addr} {fs : List (Str × V)} {f : Str} {v : V} {A : Around} {E : Value → Shared → Prop}

end

section
variable {X : Cx} {o e value : Expr} {f : Str} {pos pos' tpos : Pos} {ta tv : TE}
end

section
variable {X : Cx} {pins : List (Addr × Obj)} {σ : St} {H : Hp} {s : Shared} {A : Around} {E : Value → Shared → Prop} {Q : Value → Shared → Prop} {c : Value} {b : Bool}
inductive TyOf (K : PySem.W.Frag) (H : Hp) : V → Value → Prop where
  | non : TyOf K H .non (.type "NoneType")
  | bl (x : Bool) : TyOf K H (.bl x) (.type "bool")
  | int (i : Int) : TyOf K H (.int i) (.type "int")
  | str (x : Str) : TyOf K H (.str x) (.type "str")
  | flt (x : UInt64) : TyOf K H (.flt x) (.type "float")
  | lst {a : Addr} {xs : List V} (e : H a = some (.lst xs)) : TyOf K H (.ref a) (.type "list")
  | frz {a : Addr} {o : Obj} {xs : List V} (e : H a = some (.frz o (.lst xs))) : TyOf K H (.ref a) (.type "list")
  | tup {a : Addr} {xs : List V} (e : H a = some (.tup xs)) : TyOf K H (.ref a) (.type "tuple")
  | dK {a : Addr} {kvs : List (Key × V)} (e : H a = some (.dK kvs)) : TyOf K H (.ref a) (.type "dict")
  | dT {a : Addr} {kvs : List (List Key × V)} (e : H a = some (.dT kvs)) : TyOf K H (.ref a) (.type "dict")
  | ins {a C dx : Addr} {fs : List (Str × V)} (e : H a = some (.ins C dx fs)) (cl : Cls K C) (ha : PySem.W.findIn K (.ref C) "__class__" = some (some (.builtin "object.__class__")))
      (hn : PySem.W.specialIn K (.builtin "object.__class__") "__get__" = some (some (.builtin "getset_descriptor.__get__"))) (htk : PySem.W.takesIn K (.builtin "object.__class__") = some true)
      (hm : PySem.W.mroIn K C (.type "object") = some true) : TyOf K H (.ref a) (.ref C)
theorem isinst_ok {x : V} {u t : Value} (I : Inv X pins σ H s) (rx : RelV x u) (ty : TyOf X.K H x t) (e : PySem.W.kitOne X.K t c = some b) (h : ∀ tk, Q (.bool b) { s with toks := tk }) :
    wpAny (model X.prog X.w) A (call (.builtin "isinstance") [u, c]) Q E s := by
  cases ty with
  | non => cases (show u = Value.none from rx); exact PySem.W.kia_one PySem.W.kitx_none I.kIn True.intro e (fun z => nomatch z) h
  | bl y => cases (show u = Value.bool y from rx); exact PySem.W.kia_one PySem.W.kitx_bool I.kIn True.intro e (fun z => nomatch z) h
  | int i => obtain ⟨t, q⟩ := (show ∃ t, u = Value.int i t from rx); cases q; exact PySem.W.kia_one PySem.W.kitx_int I.kIn True.intro e (fun z => nomatch z) h
  | str y => obtain ⟨t, q⟩ := (show ∃ t, u = Value.str y t from rx); cases q; exact PySem.W.kia_one PySem.W.kitx_str I.kIn True.intro e (fun z => nomatch z) h
  | flt y => obtain ⟨t, q⟩ := (show ∃ t, u = Value.float y t from rx); cases q; exact PySem.W.kia_one PySem.W.kitx_float I.kIn True.intro e (fun z => nomatch z) h
  | @lst a xs ea =>
    cases (show u = Value.ref a from rx)
    obtain ⟨_, _, n, _, h1⟩ := (show ObjOk X.prog X.w H s.heap a (.lst xs) from I.hok a _ ea)
    exact PySem.W.kia_one PySem.W.kitx_list I.kIn ⟨_, h1, rfl⟩ e (fun z => nomatch z) h
  | @frz a ob xs ea =>
    cases (show u = Value.ref a from rx)
    obtain ⟨_, _, _, n, _, h1⟩ := (show ObjOk X.prog X.w H s.heap a (.frz ob (.lst xs)) from I.hok a _ ea)
    exact PySem.W.kia_one PySem.W.kitx_list I.kIn ⟨_, h1, rfl⟩ e (fun z => nomatch z) h
  | @tup a xs ea =>
    cases (show u = Value.ref a from rx)
    obtain ⟨_, _, _, p⟩ := (show ObjOk X.prog X.w H s.heap a (.tup xs) from I.hok a _ ea)
    obtain ⟨o, h1, h2, _⟩ := p
    exact PySem.W.kia_one PySem.W.kitx_tuple I.kIn ⟨o, h1, h2⟩ e (fun z => nomatch z) h
  | @dK a kvs ea =>
    cases (show u = Value.ref a from rx)
    obtain ⟨_, _, vs, _, p⟩ := (show ObjOk X.prog X.w H s.heap a (.dK kvs) from I.hok a _ ea)
    obtain ⟨o, es, ep, h1, h2, _⟩ := p
    exact PySem.W.kia_one PySem.W.kitx_dict I.kIn ⟨o, h1, h2.1⟩ e (fun z => nomatch z) h
  | @dT a kvs ea =>
    cases (show u = Value.ref a from rx)
    obtain ⟨_, _, xs, _, o, es, ep, h1, h2, _⟩ := (show ObjOk X.prog X.w H s.heap a (.dT kvs) from I.hok a _ ea)
    exact PySem.W.kia_one PySem.W.kitx_dict I.kIn ⟨o, h1, h2.1⟩ e (fun z => nomatch z) h
  | @ins a C dx fs ea cl ha hn htk hm =>
    cases (show u = Value.ref a from rx)
    obtain ⟨mA, O, _⟩ := ins_get I.hok ea
    obtain ⟨od, J, _⟩ := O.look
    exact PySem.W.kia_one (PySem.W.kitx_own (cl.get _) cl.hd ha hn htk hm) I.kIn J e (fun z => nomatch z) h
end
end L2

namespace L2
open PySem PySem.Spec PyProof.Rows

set_option genInjectivity false in
structure Room (k : Nat) (A : Around) : Prop where
  hd : A.handled = none
  dp : A.depth + 3 * k + 5 < recursionLimit
  un : A.units + 16 * k + 200 < cLine
theorem Room.mono {j k : Nat} {A : Around} (r : Room k A) (h : j ≤ k) : Room j A := ⟨r.hd, by have := r.dp; omega, by have := r.un; omega⟩
theorem Room.deeper {k : Nat} {A : Around} (r : Room (k + 1) A) (env : Env) : Room k (A.deeper env) :=
  ⟨r.hd, by have := r.dp; show A.depth + 1 + 3 * k + 5 < _; omega, by have := r.un; show A.units + 3 + 16 * k + 200 < _; omega⟩
theorem Room.depth {k : Nat} {A : Around} (r : Room k A) : A.depth < recursionLimit := by have := r.dp; omega
theorem Room.units {k : Nat} {A : Around} (r : Room k A) : A.units + 64 < cLine := by have := r.un; omega
noncomputable def tNil : TA := fun _ H Q => Q [] H
noncomputable def tCons (ta : TE) (tr : TA) : TA := fun σ H Q => ta σ H fun x H1 => tr σ H1 fun xs H2 => Q (x :: xs) H2
section
variable {X : Cx} {e : Expr} {es : List Expr} {te : TE} {t : TA} {pos : Pos}
theorem pa_nil : PA X [] tNil := fun _ _ _ _ H Q I h => Calls.spliced_nil ⟨[], H, I, .nil, h⟩
theorem pa_cons (ha : PE X e te) (hr : PA X es t) (hs : starEach (e :: es) X.env = (false, eval e X.env) :: starEach es X.env := by rfl) : PA X (e :: es) (tCons te t) := by
  intro pos pins s σ H Q I h
  rw [hs]
  show wpAny _ _ (spliced ((false, eval e X.env) :: backTo pos (starEach es X.env))) _ _ s
  refine Calls.spliced_cons (thn (ha pins s σ H _ I h) fun u s1 ⟨x, H1, I1, r1, q1⟩ => ?_)
  exact thn (hr pos pins s1 σ H1 _ I1 q1) fun us s2 ⟨xs, H2, I2, r2, q2⟩ => ⟨x :: xs, H2, I2, .cons r1 r2, q2⟩

noncomputable def tTup (t : TA) : TE := fun σ H Q => t σ H fun xs H1 => xs.length ≤ sizeLine ∧ ∀ p, H1 p = none → Q (.ref p) (upd H1 p (.tup xs))
noncomputable def tLst (t : TA) : TE := fun σ H Q => t σ H fun xs H1 => xs.length ≤ sizeLine ∧ ∀ p, H1 p = none → Q (.ref p) (upd H1 p (.lst xs))
theorem pe_tup {x1} (h : PA X es t) : PE X (.Tuple es x1 pos) (tTup t) := by
  intro pins s σ H Q I hq
  refine wpAny_Tuple_spliced (thn (h pos pins s σ H _ I hq) fun us s1 ⟨xs, H1, I1, r, z, q⟩ => ⟨by rw [← r.length]; exact z, ?_⟩)
  have hf : H1 s1.heap.objs.size = none := I1.hok.fresh (Nat.le_refl _)
  refine ⟨.ref s1.heap.objs.size, upd H1 s1.heap.objs.size (.tup xs), I1.laid (t' := s1.toks) (fun b u e => Heap.get?_push_of_some _ e) (Nat.le_refl _) ?_, rfl, q _ hf⟩
  exact ⟨z, us, r, ⟨_, Heap.get?_push_size _ rfl, rfl, _, rfl⟩⟩
theorem pe_lst (h : PA X es t) : PE X (.List es pos) (tLst t) := by
  intro pins s σ H Q I hq
  refine wpAny_List_spliced (thn (h pos pins s σ H _ I hq) fun us s1 ⟨xs, H1, I1, r, z, q⟩ => ⟨by rw [← r.length]; exact z, ?_⟩)
  have hf : H1 s1.heap.objs.size = none := I1.hok.fresh (Nat.le_refl _)
  refine ⟨.ref s1.heap.objs.size, upd H1 s1.heap.objs.size (.lst xs), I1.laid (t' := s1.toks) (fun b u e => Heap.get?_push_of_some _ e) (Nat.le_refl _) ?_, rfl, q _ hf⟩
  exact ⟨z, us, 0, r, Heap.get?_push_size _ rfl⟩
end

noncomputable abbrev Sp := List V → Hp → VK → XK → Prop
noncomputable abbrev CXT := List Env → Hp → Shared → XK → Value → Shared → Prop

set_option genInjectivity false in
structure Env0 (P : Program) (w : World) (K : PySem.W.Frag) (mg : Str → Option Value) (base : Heap) (A : Around) (outer : List Env) (s : Shared) (H : Hp) : Prop where
  frames : A.frames = some outer
  mod : Mod K mg base
  bs : ∀ b o, base.get? b = some o → s.heap.get? b = some o ∧ H b = none
  bsz : base.objs.size ≤ s.heap.objs.size
  funs : s.heap.FunFrames base outer
  frf : ∀ b ∈ frs outer, H b = none
  hok : HOk P w H s.heap
  bare : AllBare s.gens
noncomputable def CE (outer : List Env) (P : Program) (w : World) (H : Hp) (s : Shared) (Q : VK) (u : Value) (s' : Shared) : Prop :=
  ∃ v H', s'.os = s.os ∧ AllBare s'.gens ∧ Un (frs outer) [] H H' s.heap s'.heap ∧ HOk P w H' s'.heap ∧ RelV v u ∧ Q v H'
noncomputable def CR (CX : CXT) (outer : List Env) (P : Program) (w : World) (H : Hp) (s : Shared) (Q : VK) (E : XK) (r : Result) (s' : Shared) : Prop :=
  match r with
  | .ok (.ret u) => CE outer P w H s Q u s'
  | .ok _ => False
  | .error e => CX outer H s E e s'
set_option genInjectivity false in
structure FnOk (P : Program) (w : World) (K : PySem.W.Frag) (mg : Str → Option Value) (base : Heap) (CX : CXT) (k : Nat) (f : Addr) (fd : FuncData) (ps : List Str) (sp : Sp) : Prop where
  len : ∀ vs H Q E, sp vs H Q E → vs.length = ps.length
  run : ∀ (A : Around) (outer : List Env) (s : Shared) (H : Hp) (args : Args) (us : List Value) (vs : List V) (Q : VK) (E : XK), Room k A → Env0 P w K mg base A outer s H → BindsTo s fd args (ps.zip us) → Vals vs us → sp vs H Q E →
    codeAny (model P w) A (.call (.ref f) args) (CR CX outer P w H s Q E) s
section
variable {X : Cx} {pins : List (Addr × Obj)} {σ : St} {H : Hp} {s s' : Shared}
theorem Inv.env0 (I : Inv X pins σ H s) : Env0 X.prog X.w X.K X.mg X.base X.A X.stack s H :=
  ⟨I.ok.frames, I.ok.mod, I.bs, Nat.le_trans I.ok.bsz I.sz, I.stack, I.stkFree, I.hok, I.bare⟩
theorem Inv.after {Q : VK} {u : Value} (I : Inv X pins σ H s) (h : CE X.stack X.prog X.w H s Q u s') : EP X pins σ Q u s' := by
  obtain ⟨v, H', os, bare, un, hok, r, q⟩ := h
  obtain ⟨hh, g, d, t, os'⟩ := s'
  obtain rfl : os' = s.os := os
  exact ⟨v, H', I.call (h' := hh) (g' := g) (d' := d) (t' := t) (ch := []) un hok bare (fun b z => absurd z (by simp)), r, q⟩
end

noncomputable def tCall (sp : Sp) (dvs : List V) (E : XK) (t : TA) : TE := fun σ H Q => t σ H fun vs H1 => sp (vs ++ dvs) H1 Q E
noncomputable def Binds (K : PySem.W.Frag) (fd : FuncData) (ps : List Str) (ds : List Value) : Prop :=
  ∀ (s : Shared) (us : List Value), K.In s.heap → (us ++ ds).length = ps.length → BindsTo s fd ⟨us, []⟩ (ps.zip (us ++ ds))
theorem Binds.all {K : PySem.W.Frag} {fd : FuncData} {ps : List Str} (h : ∀ us : List Value, us.length = ps.length → bindArgs fd ⟨us, []⟩ = pure (ps.zip us)) : Binds K fd ps [] := fun s us _ hl => by
  rw [List.append_nil] at hl ⊢
  exact .of_eq (h us hl)

noncomputable def Passes (CX : CXT) (X : Cx) (E : XK) : Prop := ∀ (pins : List (Addr × Obj)) (σ : St) (H : Hp) (s : Shared) (e : Value) (s' : Shared), Inv X pins σ H s → CX X.stack H s E e s' → X.xe e s'

section
variable {X : Cx} {CX : CXT} {k : Nat} {f C : Addr} {fd : FuncData} {ps : List Str} {sp : Sp} {dvs : List V} {ds : List Value} {E : XK} {x m : Str} {p pos apos : Pos} {e o : Expr} {es : List Expr} {ta : TE} {t : TA}

theorem run_fn {pins : List (Addr × Obj)} {σ : St} {H : Hp} {s : Shared} {Q : VK} {us : List Value} {vs : List V} (F : FnOk X.prog X.w X.K X.mg X.base CX k f fd ps sp) (hr : Room k X.A) (hb : Binds X.K fd ps ds) (hd : Vals dvs ds) (hx : Passes CX X E)
    (I : Inv X pins σ H s) (r : Vals vs us) (h : sp (vs ++ dvs) H Q E) : wpAny (model X.prog X.w) X.A (call (.ref f) us) (EP X pins σ Q) X.xe s := by
  have r2 : Vals (vs ++ dvs) (us ++ ds) := r.append hd
  have hl : (us ++ ds).length = ps.length := by rw [← r2.length]; exact F.len _ _ _ _ h
  refine wpAny_call (codeAny_mono (F.run X.A X.stack s H ⟨us, []⟩ (us ++ ds) (vs ++ dvs) Q E hr I.env0 (hb s us I.kIn hl) r2 h) fun r s' hq => ?_)
  cases r with
  | error e => exact hx pins σ H s e s' I hq
  | ok fl =>
    cases fl with
    | ret u => exact I.after hq
    | next => exact False.elim hq
    | brk => exact False.elim hq
    | cont => exact False.elim hq

theorem pe_call (F : FnOk X.prog X.w X.K X.mg X.base CX k f fd ps sp) (hr : Room k X.A) (hg : Gl X x) (hm : X.mg x = some (.ref f)) (hk : PySem.W.keepIn X.K (.ref f) = true) (hb : Binds X.K fd ps ds) (hd : Vals dvs ds) (hx : Passes CX X E)
    (ha : PA X (e :: es) t) (hdb : (x == ("__debug__" : Str)) = false := by decide) (he : starEach (e :: es) X.env = (false, eval e X.env) :: starEach es X.env := by rfl) (hpl : (backTo pos (starEach es X.env)).any (·.1) = false := by rfl) :
    PE X (.Call (.Name x p) (e :: es) [] pos) (tCall sp dvs E t) := by
  intro pins s σ H Q I h
  refine wpAny_Call_Name_kw (ld_glob I hg hm ?_ hdb)
  refine PySem.W.callWith_K (h₀ := X.base) I.ok.mod.kin hk (thn (ha pos pins s σ H _ I h) fun us s1 ⟨vs, H1, I1, r, q⟩ => ⟨I1.kIn, ?_⟩) he hpl
  exact run_fn F hr hb hd hx I1 r q
end

section
variable {X : Cx} {CX : CXT} {k : Nat} {f C : Addr} {fd : FuncData} {ps ks : List Str} {sp : Sp} {E : XK} {x m : Str} {p pos apos kpos : Pos} {e o : Expr} {es : List Expr} {kws : List Keyword} {te ta : TE} {t tk : TA} {nm : Option Str}
variable {g : List Value → List Value → List Value} {gV : List V → List V → List V}
end

set_option genInjectivity false in
structure FnScope (N P : List Str) (sc : Scope) : Prop where
  kind : sc.kind = .function
  co : sc.isCoroutine = false
  gen : sc.isGenerator = false
  nd : N.Nodup
  pre : N.take P.length = P
  par : ∀ x ∈ P, sc.names.lookup x = some .local ∨ sc.names.lookup x = some .cell
  nofree : ∀ y ∈ sc.names, y.2 ≠ .free

theorem bindL_out {kindOf : Str → Option NameKind} {x : Str} : ∀ {binds : List (Str × Value)} {m : Str → Option Value}, (∀ v, (x, v) ∉ binds) → bindL kindOf binds m x = m x
  | [], _, _ => rfl
  | (n, v) :: r, m, h => by
    unfold bindL
    rw [bindL_out fun w hw => h w (List.mem_cons_of_mem _ hw)]
    split
    · have : x ≠ n := by rintro rfl; exact h v List.mem_cons_self
      simp [this]
    · rfl
theorem bindC_out {kindOf : Str → Option NameKind} {x : Str} : ∀ {binds : List (Str × Value)} {m : Str → Option Value}, (∀ v, (x, v) ∉ binds) → bindC kindOf binds m x = m x
  | [], _, _ => rfl
  | (n, v) :: r, m, h => by
    unfold bindC
    rw [bindC_out fun w hw => h w (List.mem_cons_of_mem _ hw)]
    split
    · rfl
    · have : x ≠ n := by rintro rfl; exact h v List.mem_cons_self
      simp [this]
theorem bindL_get {kindOf : Str → Option NameKind} {x : Str} {v : Value} : ∀ {P : List Str} {vs : List Value} {i : Nat} {m : Str → Option Value}, P.Nodup → P[i]? = some x → vs[i]? = some v → kindOf x = some .local →
    bindL kindOf (P.zip vs) m x = some v
  | [], _, _, _, _, h, _, _ => by simp at h
  | _ :: _, [], _, _, _, _, h, _ => by simp at h
  | p :: P, w :: vs, 0, m, nd, h1, h2, hk => by
    simp at h1 h2; subst h1; subst h2
    show bindL kindOf ((p, w) :: P.zip vs) m p = _
    unfold bindL
    rw [bindL_out fun v hv => (List.nodup_cons.mp nd).1 (List.of_mem_zip hv).1, if_pos hk]
    simp
  | p :: P, w :: vs, i + 1, m, nd, h1, h2, hk => by
    show bindL kindOf ((p, w) :: P.zip vs) m x = _
    unfold bindL
    exact bindL_get (i := i) (List.nodup_cons.mp nd).2 (by simpa using h1) (by simpa using h2) hk
theorem bindC_get {kindOf : Str → Option NameKind} {x : Str} {v : Value} : ∀ {P : List Str} {vs : List Value} {i : Nat} {m : Str → Option Value}, P.Nodup → P[i]? = some x → vs[i]? = some v → kindOf x ≠ some .local →
    bindC kindOf (P.zip vs) m x = some v
  | [], _, _, _, _, h, _, _ => by simp at h
  | _ :: _, [], _, _, _, _, h, _ => by simp at h
  | p :: P, w :: vs, 0, m, nd, h1, h2, hk => by
    simp at h1 h2; subst h1; subst h2
    show bindC kindOf ((p, w) :: P.zip vs) m p = _
    unfold bindC
    rw [bindC_out fun v hv => (List.nodup_cons.mp nd).1 (List.of_mem_zip hv).1, if_neg hk]
    simp
  | p :: P, w :: vs, i + 1, m, nd, h1, h2, hk => by
    show bindC kindOf ((p, w) :: P.zip vs) m x = _
    unfold bindC
    exact bindC_get (i := i) (List.nodup_cons.mp nd).2 (by simpa using h1) (by simpa using h2) hk

noncomputable def start (N : List Str) (vs : List V) : St := vs.map some ++ List.replicate (N.length - vs.length) none

noncomputable def cxOf (CX : CXT) (P : Program) (w : World) (K : PySem.W.Frag) (mg : Str → Option Value) (base : Heap) (N : List Str) (qual : Str) (scope : Scope) (f : Addr) (cd : Value) (A : Around) (outer : List Env) (s : Shared) (H : Hp) (E : XK) : Cx where
  prog := P
  w := w
  K := K
  mg := mg
  base := base
  A := A.deeper (envOfC qual scope s.heap.objs.size f cd)
  N := N
  s₀ := s
  H₀ := H
  env := envOfC qual scope s.heap.objs.size f cd
  outer := outer
  stack := envOfC qual scope s.heap.objs.size f cd :: outer
  ex := []
  calm := true
  fn := fun _ => true
  pn := []
  xe := fun e s' => wpAny (model P w) (A.deeper (envOfC qual scope s.heap.objs.size f cd)) (leaving (envOfC qual scope s.heap.objs.size f cd) e) (fun _ s'' => CX outer H s E e s'') (fun e' s'' => CX outer H s E e' s'') s'

theorem cell_has {sc : Scope} {n : Nat} {x : Str} (h : sc.names.lookup x = some .cell) : ∃ c, (cellsFrom n sc.names []).lookup x = some c := by
  have q := PySem.W.cellsFrom_some sc.names n [] (.inl h)
  exact Option.isSome_iff_exists.mp q

theorem inv_start {CX : CXT} {P : Program} {w : World} {K : PySem.W.Frag} {mg : Str → Option Value} {base : Heap} {N ps : List Str} {qual : Str} {scope : Scope} {f : Addr} {cd : Value} {A : Around} {outer : List Env} {s s1 : Shared} {H : Hp} {E : XK} {us : List Value} {vs : List V}
    (S : FnScope N ps scope) (hd : A.handled = none) (e0 : Env0 P w K mg base A outer s H) (hl : vs.length = ps.length) (r : Vals vs us)
    (x : InCallC s s.heap.objs.size (bindL (envOfC qual scope s.heap.objs.size f cd).kindOf (ps.zip us) fun _ => none) (cellsFrom (s.heap.objs.size + 1) scope.names []) (bindC (envOfC qual scope s.heap.objs.size f cd).kindOf (ps.zip us) fun _ => none) s1) :
    Inv (cxOf CX P w K mg base N qual scope f cd A outer s H E) [] (start N vs) H s1 := by
  have hpl : ps.length ≤ N.length := by have := congrArg List.length S.pre; rw [List.length_take] at this; omega
  obtain ⟨h1, tk, rfl, hk⟩ := x.done
  have noA : ∀ b : Addr, b ∉ (cxOf CX P w K mg base N qual scope f cd A outer s H E).ex := fun b z => absurd (show b ∈ ([] : List Addr) from z) (by simp)
  refine ⟨⟨e0.mod, S.kind, rfl, rfl, Nat.le_refl _, fun y z c h1 h2 => ?_, fun y hy => ?_, fun y c _ h => ?_, fun _ => hd, Around.frames_deeper e0.frames, .inr ⟨rfl, rfl⟩, fun b z => absurd z (noA b), e0.bs, e0.bsz, fun b _ _ => noA b, fun b z => absurd z (noA b), e0.funs, e0.frf⟩,
    rfl, e0.bare, Un.kept hk, ⟨_, x.toInCall.ns, fun i y v h1 h2 h3 => ?_⟩, fun y c h => ⟨_, x.cell y c h⟩, e0.hok.fresh (Nat.le_refl _), fun y c h => ?_, fun p hp => absurd (show p ∈ ([] : List (Addr × Obj)) from hp) (by simp), e0.hok.kept hk, ?_⟩
  · exact name_of_addr x.apart (PySem.mem_of_lookup h1) (PySem.mem_of_lookup h2)
  · have hy : scope.names.lookup y = some .cell ∨ scope.names.lookup y = some .free := hy
    rcases hy with hy | hy
    · exact cell_has hy
    · exact absurd rfl (S.nofree _ (PySem.mem_of_lookup hy))
  · exact Nat.le_of_lt (x.above y c (PySem.mem_of_lookup h))
  · have hi : i < vs.length := by
      unfold start at h2
      by_cases hi : i < vs.length
      · exact hi
      · rw [List.getElem?_append_right (by simpa using hi)] at h2
        rw [List.getElem?_replicate] at h2
        split at h2 <;> cases h2
    have ha : vs[i]? = some v := by
      unfold start at h2
      rw [List.getElem?_append_left (by simpa using hi), List.getElem?_map] at h2
      cases e : vs[i]? with
      | none => rw [e] at h2; cases h2
      | some a => rw [e] at h2; cases h2; rfl
    obtain ⟨u, hu, rv⟩ := r.get ha
    have hp : ps[i]? = some y := by
      rw [← S.pre, List.getElem?_take_of_lt (by omega)]; exact h1
    have ndP : ps.Nodup := by rw [← S.pre]; exact S.nd.sublist (List.take_sublist _ _)
    refine ⟨u, rv, ?_⟩
    rcases S.par y (List.mem_of_getElem? hp) with k | k
    · exact .inl ⟨k, bindL_get ndP hp hu k⟩
    · obtain ⟨c, e⟩ := cell_has (n := s.heap.objs.size + 1) k
      refine .inr ⟨.inl k, c, e, ?_⟩
      have q := x.cell y c e
      rw [bindC_get ndP hp hu (by show scope.names.lookup y ≠ _; rw [k]; decide)] at q
      exact q
  · exact e0.hok.fresh (Nat.le_of_lt (x.above y c (PySem.mem_of_lookup h)))
  · unfold start
    show _ = N.length
    rw [List.length_append, List.length_map, List.length_replicate]
    omega

theorem fn_of {CX : CXT} {P : Program} {w : World} {K : PySem.W.Frag} {mg : Str → Option Value} {base : Heap} {k : Nat} {f : Addr} {name qual : Str} {params : Arguments} {body : List Stmt} {scope : Scope} {dV kV doc pm cdv ct oc : Value} {an od : Option Addr}
    {osl : Array (Option Value)} {N ps : List Str} {sp : Sp} (lk : K.lookup f = some ⟨oc, od, .func (PySem.W.fnOf name qual params body scope dV kV doc pm an cdv ct), osl⟩) (hcd : PySem.W.codeIn K cdv qual = true) (S : FnScope N ps scope)
    (len : ∀ vs H Q E, sp vs H Q E → vs.length = ps.length)
    (hbody : ∀ (A : Around) (outer : List Env) (s : Shared) (H : Hp) (vs : List V) (Q : VK) (E : XK), Room k (A.deeper (envOfC qual scope s.heap.objs.size f cdv)) → sp vs H Q E →
      ∃ t, PSs (cxOf CX P w K mg base N qual scope f cdv A outer s H E) body t ∧ t { nx := fun _ H' => Q .non H', rt := Q } (start N vs) H) :
    FnOk P w K mg base CX (k + 1) f (PySem.W.fnOf name qual params body scope dV kV doc pm an cdv ct) ps sp := by
  refine ⟨len, fun A outer s H args us vs Q E hr e0 hb r hsp => ?_⟩
  have hl := len _ _ _ _ hsp
  have KX : K.In s.heap := e0.mod.kin.keeps fun b o e => (e0.bs b o e).1
  have lim : s.heap.NoLimit := e0.mod.nolimit.keeps fun b o e => (e0.bs b o e).1
  have hkind : ∀ y ∈ ps.zip us, scope.names.lookup y.1 = some .local ∨ (scope.names.lookup y.1 = some .cell ∧ ((cellsFrom (s.heap.objs.size + 1) scope.names []).lookup y.1).isSome = true) := fun ⟨n, v⟩ hy => by
    rcases S.par n (List.of_mem_zip hy).1 with q | q
    · exact .inl q
    · exact .inr ⟨q, PySem.W.cellsFrom_some _ _ _ (.inl q)⟩
  refine codeAny_call_function hr.depth (KX _ _ lk) rfl S.co S.gen rfl (PySem.W.codeRec_of KX hcd) (hb _ _ _ _ ?_)
  refine wpAny_newFunctionEnv_cells S.kind hkind fun env he s1 x => ?_
  subst he
  refine ⟨lim.keeps x.toInCall.keep, codeAny_func ?_⟩
  obtain ⟨t, ht, hq⟩ := hbody A outer s H vs Q E (hr.deeper _) hsp
  have I : Inv (cxOf CX P w K mg base N qual scope f cdv A outer s H E) [] (start N vs) H s1 := inv_start S hr.hd e0 hl r x
  refine wpAny_mono (ht [] s1 (start N vs) H _ I hq) (fun fl s' hs => ?_) fun e s' hs => hs
  have fin : ∀ {σ' : St} {H' : Hp} {v : V} {u : Value}, Inv (cxOf CX P w K mg base N qual scope f cdv A outer s H E) [] σ' H' s' → RelV v u → Q v H' → CE outer P w H s Q u s' :=
    fun {σ' H' v u} J rv q => ⟨v, H', J.os, J.bare, J.base, J.hok, rv, q⟩
  cases fl with
  | ret u =>
    obtain ⟨v, σ', H', J, rv, q⟩ := hs
    exact fin J rv q
  | next =>
    obtain ⟨σ', H', J, q⟩ := hs
    exact fin (v := V.non) (u := Value.none) J rfl q
  | brk =>
    obtain ⟨_, _, _, q⟩ := hs
    exact False.elim q
  | cont =>
    obtain ⟨_, _, _, q⟩ := hs
    exact False.elim q
end L2

namespace L2
open PySem PySem.Spec PyProof.Rows
section
variable {X : Cx} {x : Str} {p pos : Pos} {e : Expr} {es : List Expr} {t : TA} {id T : String} {r : List V → Hp → VK → Prop}

noncomputable def tCB (r : List V → Hp → VK → Prop) (t : TA) : TE := fun σ H Q => t σ H fun vs H1 => r vs H1 Q
theorem pe_callB (hc : CallR X (.builtin id) r) (hg : Gl X x) (hm : X.mg x = none) (hv : bootBuiltins x = some (.builtin id)) (ha : PA X (e :: es) t) (hn : x ≠ "__name__" := by decide) (hdb : (x == ("__debug__" : Str)) = false := by decide)
    (he : starEach (e :: es) X.env = (false, eval e X.env) :: starEach es X.env := by rfl) (hpl : (backTo pos (starEach es X.env)).any (·.1) = false := by rfl) : PE X (.Call (.Name x p) (e :: es) [] pos) (tCB r t) := by
  intro pins s σ H Q I h
  refine wpAny_Call_Name_kw (ld_blt I hg hm hv ?_ hn hdb)
  exact PyProof.Rows.callWith_builtin1 (thn (ha pos pins s σ H _ I h) fun us s1 ⟨vs, H1, I1, r1, q1⟩ => hc pins s1 σ H1 vs us Q I1 r1 q1) he hpl
theorem pe_callTy (hc : CallR X (.type T) r) (hg : Gl X x) (hm : X.mg x = none) (hv : bootBuiltins x = some (.type T)) (ha : PA X (e :: es) t) (hn : x ≠ "__name__" := by decide) (hdb : (x == ("__debug__" : Str)) = false := by decide)
    (he : starEach (e :: es) X.env = (false, eval e X.env) :: starEach es X.env := by rfl) (hpl : (backTo pos (starEach es X.env)).any (·.1) = false := by rfl) : PE X (.Call (.Name x p) (e :: es) [] pos) (tCB r t) := by
  intro pins s σ H Q I h
  refine wpAny_Call_Name_kw (ld_blt I hg hm hv ?_ hn hdb)
  exact PyProof.Rows.callWith_type1 (thn (ha pos pins s σ H _ I h) fun us s1 ⟨vs, H1, I1, r1, q1⟩ => hc pins s1 σ H1 vs us Q I1 r1 q1) he hpl
end
end L2

namespace HT
open PySem PyProof.Rows

section
open PySem.SeqAt
open PySem.AutoSeq1 (wpAny_loadPart')
open PySem.MeetsSeq PySem.MeetsSeq2 PySem.MeetsSeq3

end

section
variable {prog : Program} {w : World} {A : Around} {E : Value → Shared → Prop} {s : Shared}

noncomputable def sIx (n d : Nat) : Option Int → Nat
  | none => d
  | some v => if v < 0 then (v + (n : Int)).toNat else min v.toNat n
theorem sIx_none (n d : Nat) : sIx n d none = d := rfl
theorem sIx_nat (n d k : Nat) : sIx n d (some (k : Int)) = min k n := by
  show (if (k : Int) < 0 then ((k : Int) + (n : Int)).toNat else min (k : Int).toNat n) = min k n
  rw [if_neg (by omega), Int.toNat_natCast]
end
end HT

namespace L2
open PySem PySem.Spec PyProof.Rows

noncomputable abbrev TO := St → Hp → (Option Int → Hp → Prop) → Prop
noncomputable def PO (X : Cx) (e : Option Expr) (t : TO) : Prop :=
  ∀ (pins : List (Addr × Obj)) (s : Shared) (σ : St) (H : Hp) (Q : Option Int → Hp → Prop), Inv X pins σ H s → t σ H Q →
    wpAny (model X.prog X.w) X.A (evalPart e X.env) (fun u s' => ∃ o H', Inv X pins σ H' s' ∧ IsPart u o ∧ Q o H') X.xe s
noncomputable def tNoPart : TO := fun _ H Q => Q none H
noncomputable def tPart (t : TE) : TO := fun σ H Q => t σ H fun x H1 => ∃ i, x = .int i ∧ Q (some i) H1

theorem intsAre_of {ns : List Int} : ∀ {us : List Value}, Vals (ns.map V.int) us → IntsAre us ns := by
  induction ns with
  | nil => intro us r; rw [List.map_nil] at r; cases r; exact .nil
  | cons n ns ih =>
    intro us r
    rw [List.map_cons] at r
    cases r with
    | cons r1 r2 =>
      obtain ⟨t, e⟩ := r1
      subst e
      exact .cons n t (ih r2)

section
variable {X : Cx} {e : Expr} {te : TE} {lo hi : Option Expr} {tl th : TO} {pos p2 : Pos}

theorem po_none : PO X none tNoPart := by
  intro pins s σ H Q I h
  rw [evalPart_none]
  exact wpAny_pure ⟨none, H, I, .none, h⟩
theorem po_some (h : PE X e te) : PO X (some e) (tPart te) := by
  intro pins s σ H Q I hw
  rw [evalPart_some]
  refine thn (h pins s σ H _ I hw) fun u s1 ⟨x, H1, I1, r1, q1⟩ => ?_
  obtain ⟨i, rfl, q⟩ := q1
  obtain ⟨t, rfl⟩ := r1
  exact ⟨some i, H1, I1, .int i t, q⟩

noncomputable def SlR (X : Cx) (r : V → Option Int → Option Int → Hp → VK → Prop) : Prop :=
  ∀ (pins : List (Addr × Obj)) (s : Shared) (σ : St) (H : Hp) (x : V) (v vl vu : Value) (lo hi : Option Int) (sl : Addr) (Q : VK), Inv X pins σ H s → RelV x v → s.heap.IsSliceOf sl vl vu .none → IsPart vl lo → IsPart vu hi → r x lo hi H Q →
    ∃ T id, typeLookup (.type T) "__getitem__" = pure (some (.builtin id)) ∧ s.TypeIs v T ∧ wpAny (model X.prog X.w) X.A (getItem v (.ref sl)) (EP X pins σ Q) X.xe s
noncomputable def tSl (r : V → Option Int → Option Int → Hp → VK → Prop) (te : TE) (tl th : TO) : TE := fun σ H Q => te σ H fun x H1 => tl σ H1 fun l H2 => th σ H2 fun u H3 => r x l u H3 Q
theorem pe_slice {r : V → Option Int → Option Int → Hp → VK → Prop} (hr : SlR X r) (he : PE X e te) (hl : PO X lo tl) (hu : PO X hi th) : PE X (.Subscript e (.Slice lo hi none p2) pos) (tSl r te tl th) := by
  intro pins s σ H Q I h
  refine Subscript_ (thn (he pins s σ H _ I h) fun v s1 ⟨x, H1, I1, r1, q1⟩ => ?_)
  refine wpAny_Slice (thn (hl pins s1 σ H1 _ I1 q1) fun vl s2 ⟨l, H2, I2, pl, q2⟩ => thn (hu pins s2 σ H2 _ I2 q2) fun vu s3 ⟨u, H3, I3, pu, q3⟩ => ?_)
  rw [evalPart_none]
  refine wpAny_pure ?_
  have I4 : Inv X pins σ H3 { s3 with heap := s3.heap.push { cls := .type "slice", data := .fields #[vl, vu, .none] } } := I3.kept (t' := s3.toks) fun b ob q => Heap.get?_push_of_some _ q
  obtain ⟨T, id, hT, ht, hg⟩ := hr pins { s3 with heap := s3.heap.push { cls := .type "slice", data := .fields #[vl, vu, .none] } } σ H3 x v vl vu l u s3.heap.objs.size Q I4 r1 (Heap.IsSliceOf.new ..) pl pu q3
  show wpAny (model X.prog X.w) X.A (subscriptTail e (.Slice lo hi none p2) v (.ref s3.heap.objs.size)) (EP X pins σ Q) X.xe { s3 with heap := s3.heap.push { cls := .type "slice", data := .fields #[vl, vu, .none] } }
  exact tail_any (ops := [.ref s3.heap.objs.size, v]) ht hT hg (by with_unfolding_all rfl)

noncomputable def cutV (xs : List V) (lo hi : Option Int) : List V := (xs.drop (HT.sIx xs.length 0 lo)).take (HT.sIx xs.length xs.length hi - HT.sIx xs.length 0 lo)
theorem cutV_length (xs : List V) (lo hi : Option Int) : (cutV xs lo hi).length ≤ xs.length := by
  unfold cutV
  rw [List.length_take, List.length_drop]
  omega
end
end L2

namespace L2
open PySem PySem.Spec PyProof.Rows

noncomputable def ixN (n : Nat) (i : Int) : Option Nat := if 0 ≤ i then (if i < n then some i.toNat else none) else if -(n : Int) ≤ i then some (i + n).toNat else none
noncomputable def atI {α : Type} (xs : List α) (i : Int) : Option α := (ixN xs.length i).bind fun j => xs[j]?
theorem ixN_seq {n : Nat} {i : Int} {j : Nat} (h : ixN n i = some j) : seqIndex? i n = some j ∧ j < n ∧ -(n : Int) ≤ i ∧ i < n := by
  unfold ixN at h
  by_cases h0 : 0 ≤ i
  · rw [if_pos h0] at h
    by_cases h1 : i < n
    · rw [if_pos h1] at h
      have e : i.toNat = j := Option.some.inj h
      exact ⟨by rw [seqIndex_of h0 h1, e], by omega, by omega, h1⟩
    · rw [if_neg h1] at h; cases h
  · rw [if_neg h0] at h
    by_cases h1 : -(n : Int) ≤ i
    · rw [if_pos h1] at h
      have e : (i + n).toNat = j := Option.some.inj h
      exact ⟨by rw [seqIndex_neg (by omega) h1, e], by omega, h1, by omega⟩
    · rw [if_neg h1] at h; cases h
theorem atI_get {α : Type} {xs : List α} {i : Int} {v : α} (h : atI xs i = some v) : ∃ j, seqIndex? i xs.length = some j ∧ xs[j]? = some v ∧ j < xs.length ∧ -(xs.length : Int) ≤ i ∧ i < xs.length := by
  unfold atI at h
  cases e : ixN xs.length i with
  | none => rw [e] at h; cases h
  | some j =>
    rw [e] at h
    obtain ⟨h1, h2, h3, h4⟩ := ixN_seq e
    exact ⟨j, h1, h, h2, h3, h4⟩
theorem atI_nat {α : Type} {xs : List α} {j : Nat} {v : α} (h : xs[j]? = some v) : atI xs (j : Int) = some v := by
  have hj : j < xs.length := (List.getElem?_eq_some_iff.mp h).1
  have e : ixN xs.length (j : Int) = some j := by
    unfold ixN
    rw [if_pos (by omega), if_pos (by omega)]; simp
  unfold atI; rw [e]; exact h
noncomputable def PlainIx (b : Expr) : Prop := ∀ o i, subscripted b false o i = operate [o, i] (getItem o i)
noncomputable def IxR (X : Cx) (r : R2) : Prop :=
  ∀ (value slice : Expr) (pins : List (Addr × Obj)) (s : Shared) (σ : St) (H : Hp) (x y : V) (v u : Value) (Q : VK), Inv X pins σ H s → RelV x v → RelV y u → r x y H Q →
    subscripted slice false v u = operate [v, u] (getItem v u) → wpAny (model X.prog X.w) X.A (subscriptTail value slice v u) (EP X pins σ Q) X.xe s
noncomputable def MtR (X : Cx) (id : String) (r : V → List V → Hp → VK → Prop) : Prop :=
  ∀ (pins : List (Addr × Obj)) (s : Shared) (σ : St) (H : Hp) (x : V) (xs : List V) (v : Value) (us : List Value) (Q : VK), Inv X pins σ H s → RelV x v → Vals xs us → r x xs H Q →
    wpAny (model X.prog X.w) X.A (call (.builtin id) (v :: us)) (EP X pins σ Q) X.xe s
section
variable {X : Cx} {a b : Expr} {ta tb : TE} {pos : Pos}
theorem pe_ix {r : R2} (hr : IxR X r) (ha : PE X a ta) (hb : PE X b tb) (hs : PlainIx b) : PE X (.Subscript a b pos) (tOp r ta tb) := by
  intro pins s σ H Q I h
  exact Subscript_ (binT ha hb I h fun v u s2 x y H2 I2 rx ry q => hr a b pins s2 σ H2 x y v u Q I2 rx ry q (hs _ _))

noncomputable def rIxL (K : PySem.W.Frag) : R2 := fun x y H Q => ∃ p xs i v, x = .ref p ∧ y = .int i ∧ SqL K H p xs ∧ atI xs i = some v ∧ Q v H
noncomputable def rIxT (K : PySem.W.Frag) : R2 := fun x y H Q => ∃ p xs i v, x = .ref p ∧ y = .int i ∧ SqT K H p xs ∧ atI xs i = some v ∧ Q v H
theorem ix_list : IxR X (rIxL X.K) := by
  intro value slice pins s σ H x y v u Q I rx ry h hs
  obtain ⟨p, xs, i, z, rfl, rfl, hq, he, q⟩ := h
  cases rx
  obtain ⟨t, rfl⟩ := ry
  obtain ⟨its, r, pl, hz⟩ := I.list hq
  obtain ⟨j, h1, h2, h3, h4, h5⟩ := atI_get he
  obtain ⟨w, ew, rw'⟩ := r.get h2
  have hl := r.length
  have hn := line63
  have fin : EP X pins σ Q w s := ⟨z, H, I, rw', q⟩
  by_cases h0 : 0 ≤ i
  · have hj : i.toNat = j := by
      rw [seqIndex_of h0 h5] at h1
      exact Option.some.inj h1
    exact item_listR pl.isList h0 (by omega) (by rw [hj]; simpa using ew) fin hs
  · have hj : (i + (its.toArray.size : Int)).toNat = j := by
      rw [seqIndex_neg (by omega) h4] at h1
      rw [List.size_toArray, ← hl]
      exact Option.some.inj h1
    exact subscriptTail_builtinR (x := w) pl.isList.typeIs slot_list_getitem.lookup
      (wpAny_getItem_list_neg (Q := fun r s' => r = w ∧ EP X pins σ Q r s') pl.isList (by omega) (by rw [List.size_toArray] <;> omega) (by omega) (by rw [hj]; simpa using ew) ⟨rfl, fin⟩) hs
theorem ix_tup : IxR X (rIxT X.K) := by
  intro value slice pins s σ H x y v u Q I rx ry h hs
  obtain ⟨p, xs, i, z, rfl, rfl, hq, he, q⟩ := h
  cases rx
  obtain ⟨t, rfl⟩ := ry
  obtain ⟨its, r, pl, hz⟩ := I.tuple hq
  obtain ⟨j, h1, h2, h3, h4, h5⟩ := atI_get he
  obtain ⟨w, ew, rw'⟩ := r.get h2
  have hl := r.length
  have hn := line63
  have fin : EP X pins σ Q w s := ⟨z, H, I, rw', q⟩
  exact subscriptTail_builtinR (x := w) pl.typeIs slot_tuple_getitem.lookup
    (getItem_tuple (j := j) (Q := fun r s' => r = w ∧ EP X pins σ Q r s') pl (by omega) (by omega) (by rw [List.size_toArray, ← hl]; exact h1) (by simpa using ew) ⟨rfl, fin⟩) hs
theorem mapSeq_set (its : List Value) (n j : Nat) (u : Value) : Obj.mapSeq (·.setIfInBounds j u) { cls := .type "list", data := .seq its.toArray n } = { cls := .type "list", data := .seq (its.set j u).toArray n } := by
  simp [Obj.mapSeq]
theorem Inv.lst {pins : List (Addr × Obj)} {σ : St} {H : Hp} {s : Shared} {p : Addr} {xs : List V} (I : Inv X pins σ H s) (h : H p = some (.lst xs)) :
    ∃ (its : List Value) (n : Nat), Vals xs its ∧ s.heap.get? p = some { cls := .type "list", data := .seq its.toArray n } ∧ xs.length ≤ sizeLine := by
  obtain ⟨z, its, n, r, e⟩ := I.hok p _ h
  exact ⟨its, n, r, e, z⟩
theorem Inv.lstUpd {pins : List (Addr × Obj)} {σ : St} {H : Hp} {s : Shared} {p : Addr} {xs ys : List V} {its its' : List Value} {n n' : Nat} {f : Obj → Obj} (I : Inv X pins σ H s) (h : H p = some (.lst xs))
    (ho : s.heap.get? p = some { cls := .type "list", data := .seq its.toArray n }) (hf : f { cls := .type "list", data := .seq its.toArray n } = { cls := .type "list", data := .seq its'.toArray n' }) (r : Vals ys its') (hz : ys.length ≤ sizeLine) (t : Nat) :
    Inv X pins σ (upd H p (.lst ys)) { s with heap := s.heap.update p f, toks := t } := by
  have e : (s.heap.update p f).get? p = some { cls := .type "list", data := .seq its'.toArray n' } := by
    rw [Heap.get?_update_self f ho (by rw [hf] <;> rfl), hf]
  refine I.write (x := p) (e := p) (by rw [h]; trivial) (.inl rfl) (fun b u hb q => (Heap.get?_update_other _ _ (Ne.symm hb)).trans q) ⟨_, e⟩ ?_
  exact ⟨hz, its', n', r, e⟩
noncomputable def rSetL : V → V → V → Hp → (Hp → Prop) → Prop := fun o i v H Q => ∃ p xs k j, o = .ref p ∧ i = .int k ∧ H p = some (.lst xs) ∧ ixN xs.length k = some j ∧ Q (upd H p (.lst (xs.set j v)))
theorem set_list : PSet X rSetL := by
  intro pins s σ H o i v ov iv u Q I ro ri rv h
  obtain ⟨p, xs, k, j, rfl, rfl, hp, hj, q⟩ := h
  cases ro
  obtain ⟨t, rfl⟩ := ri
  obtain ⟨its, n, r, ho, hz⟩ := I.lst hp
  obtain ⟨h1, h2, h3, h4⟩ := ixN_seq hj
  have hl := r.length
  have hn := line63
  have I' : Inv X pins σ (upd H p (.lst (xs.set j v))) { s with heap := s.heap.update p (Obj.mapSeq (·.setIfInBounds j u)) } :=
    I.lstUpd hp ho (mapSeq_set its n j u) (r.set rv j) (by rw [List.length_set]; exact hz) s.toks
  by_cases h0 : 0 ≤ k
  · have hk : k.toNat = j := by
      rw [seqIndex_of h0 h4] at h1
      exact Option.some.inj h1
    exact PySem.W.ki_setAt ho h0 (by omega) (by rw [List.size_toArray, ← hl]; exact h4) (by rw [hk]; exact ⟨_, I', q⟩)
  · have hk : (k + (its.toArray.size : Int)).toNat = j := by
      rw [seqIndex_neg (by omega) h3] at h1
      rw [List.size_toArray, ← hl]
      exact Option.some.inj h1
    exact PySem.W.ki_setBack ho (by omega) (by rw [List.size_toArray, ← hl]; exact h3) (by omega) (by rw [hk]; exact ⟨_, I', q⟩)

theorem slice_bounds (lo hi : Option Int) (n : Nat) : (sliceBounds lo hi none n).1 = ((HT.sIx n 0 lo : Nat) : Int) ∧ (sliceBounds lo hi none n).2.1 = ((HT.sIx n n hi : Nat) : Int) ∧ (sliceBounds lo hi none n).2.2 = 1 := by
  refine ⟨?_, ?_, rfl⟩
  · cases lo with
    | none => simp [sliceBounds, HT.sIx]
    | some i =>
      simp only [sliceBounds, HT.sIx, Option.getD_none, show (1 : Int) > 0 by decide, if_true]
      by_cases h : i < 0
      · simp only [h, if_true] <;> omega
      · simp only [h, if_false] <;> omega
  · cases hi with
    | none => simp [sliceBounds, HT.sIx]
    | some i =>
      simp only [sliceBounds, HT.sIx, Option.getD_none, show (1 : Int) > 0 by decide, if_true]
      by_cases h : i < 0
      · simp only [h, if_true] <;> omega
      · simp only [h, if_false] <;> omega
theorem slicePick_cut (its : List Value) (lo hi : Option Int) : slicePick its.toArray lo hi none = ((its.drop (HT.sIx its.length 0 lo)).take (HT.sIx its.length its.length hi - HT.sIx its.length 0 lo)).toArray := by
  obtain ⟨h1, h2, h3⟩ := slice_bounds lo hi its.toArray.size
  unfold slicePick
  rw [h1, h2, h3]
  simp only [sliceRange_one, pick_run, List.size_toArray] <;> rfl
noncomputable def rSlL (K : PySem.W.Frag) : V → Option Int → Option Int → Hp → VK → Prop := fun x lo hi H Q => ∃ a xs, x = .ref a ∧ SqL K H a xs ∧ ∀ p, H p = none → Q (.ref p) (upd H p (.lst (cutV xs lo hi)))
theorem sl_list : SlR X (rSlL X.K) := by
  intro pins s σ H x v vl vu lo hi sl Q I rx hs pl pu h
  obtain ⟨a, xs, rfl, hx, q⟩ := h
  cases rx
  obtain ⟨its, r, ht, hz⟩ := I.list hx
  have hlen := r.length
  refine ⟨"list", _, slot_list_getitem.lookup, ht.isList.typeIs, ?_⟩
  refine wpAny_getItem_list_slice ht.isList hs pl pu .none (by simp) ?_ (by rw [List.size_toArray] <;> omega)
  rw [slicePick_cut, ← hlen]
  refine ⟨.ref s.heap.objs.size, _, I.laid (t' := s.toks) (o := .lst (cutV xs lo hi)) (fun b ob q => Heap.get?_push_of_some _ q) (Nat.le_refl _) ?_, rfl, q _ (I.hok.fresh (Nat.le_refl _))⟩
  exact ⟨Nat.le_trans (cutV_length xs lo hi) hz, _, 0, (r.drop (HT.sIx xs.length 0 lo)).take (HT.sIx xs.length xs.length hi - HT.sIx xs.length 0 lo), Heap.get?_push_size _ rfl⟩

theorem call_len_seq : CallR X (.builtin "len") (fun xs H Q => ∃ p ys, xs = [.ref p] ∧ (SqL X.K H p ys ∨ SqT X.K H p ys) ∧ Q (.int ys.length) H) := by
  intro pins s σ H xs us Q I r h
  obtain ⟨p, ys, rfl, hq, q⟩ := h
  obtain ⟨u, rfl, rx⟩ := vals1 r
  cases rx
  have hn := line63
  rcases hq with hq | hq
  · obtain ⟨its, r', pl, hz⟩ := I.list hq
    have hlen := r'.length
    exact Calls.call_len_list pl.isList (by simp only [List.size_toArray] <;> omega) ⟨.int ys.length, H, I.tok _, ⟨s.toks + 1, by rw [List.size_toArray, hlen]⟩, q⟩
  · obtain ⟨its, r', pl, hz⟩ := I.tuple hq
    have hlen := r'.length
    exact len_tuple pl (by simp only [List.size_toArray] <;> omega) ⟨.int ys.length, H, I.tok _, ⟨s.toks + 1, by rw [List.size_toArray, hlen]⟩, q⟩
theorem call_list_of : CallR X (.type "list") (fun xs H Q => ∃ p ys, xs = [.ref p] ∧ (SqL X.K H p ys ∨ SqT X.K H p ys) ∧ ∀ l, H l = none → Q (.ref l) (upd H l (.lst ys))) := by
  intro pins s σ H xs us Q I r h
  obtain ⟨p, ys, rfl, hq, q⟩ := h
  obtain ⟨u, rfl, rx⟩ := vals1 r
  cases rx
  have fin : ∀ (its : List Value), Vals ys its → ys.length ≤ sizeLine → ∀ (h' : Heap) (c' : Nat), (∀ b o', s.heap.get? b = some o' → h'.get? b = some o') →
      h'.get? s.heap.objs.size = some { cls := .type "list", dict := none, data := .seq its.toArray c', slots := #[] } → EP X pins σ Q (.ref s.heap.objs.size) { s with heap := h' } := fun its r' hz h' c' kp e =>
    ⟨.ref s.heap.objs.size, _, I.laid (t' := s.toks) kp (Nat.le_refl _) (show ObjOk X.prog X.w _ h' _ (.lst ys) from ⟨hz, its, c', r', e⟩), rfl, q _ (I.hok.fresh (Nat.le_refl _))⟩
  rcases hq with hq | hq
  · obtain ⟨its, r', pl, hz⟩ := I.list hq
    have hlen := r'.length
    obtain ⟨o, ho, hc, n, hd⟩ := pl.isList
    exact call_list_seq p (.inl rfl) ho hc hd (fun h' c' kp e => fin its r' hz h' c' kp e) (by simp only [List.size_toArray] <;> omega)
  · obtain ⟨its, r', pl, hz⟩ := I.tuple hq
    have hlen := r'.length
    obtain ⟨o, ho, hc, n, hd⟩ := pl
    exact call_list_seq p (.inr rfl) ho hc hd (fun h' c' kp e => fin its r' hz h' c' kp e) (by simp only [List.size_toArray] <;> omega)
noncomputable def tyV (K : PySem.W.Frag) (T : String) (x : V) (H : Hp) : Prop := match x with
  | .str _ => T = "str"
  | .int _ => T = "int"
  | .ref p => (T = "list" ∧ ∃ xs, SqL K H p xs) ∨ (T = "tuple" ∧ ∃ o, K.lookup p = some o ∧ o.cls = .type "tuple" ∧ o.dict = none) ∨
      (T = "dict" ∧ ((∃ kvs, H p = some (.dK kvs)) ∨ ∃ kvs, H p = some (.dT kvs))) ∨ (T = "set" ∧ ∃ S n, H p = some (.set S n))
  | _ => False
theorem tyV_is {pins : List (Addr × Obj)} {σ : St} {H : Hp} {s : Shared} {T : String} {x : V} {v : Value} (I : Inv X pins σ H s) (r : RelV x v) (ty : tyV X.K T x H) :
    s.TypeIs v T ∧ ∀ a, v = .ref a → ∃ ob, s.heap.get? a = some ob ∧ ob.dict = none := by
  cases x with
  | str z =>
    obtain ⟨t, rfl⟩ := r
    cases (show T = "str" from ty)
    exact ⟨typeIs_str s z t, fun _ e => nomatch e⟩
  | int i =>
    obtain ⟨t, rfl⟩ := r
    cases (show T = "int" from ty)
    exact ⟨typeIs_int s i t, fun _ e => nomatch e⟩
  | ref p =>
    cases r
    rcases ty with ⟨rfl, xs, hq⟩ | ⟨rfl, o, hk, hc, hd⟩ | ⟨rfl, hk⟩ | ⟨rfl, S, n, hk⟩
    · obtain ⟨its, _, pl, _⟩ := I.list hq
      refine ⟨pl.isList.typeIs, fun a e => ?_⟩
      cases e
      obtain ⟨o, n, e, c, hd, _⟩ := pl
      exact ⟨o, e, hd⟩
    · refine ⟨⟨o, I.kIn p o hk, hc⟩, fun a e => ?_⟩
      cases e
      exact ⟨o, I.kIn _ o hk, hd⟩
    · have z : ∃ o, s.heap.get? p = some o ∧ o.ExactDict := by
        rcases hk with ⟨kvs, hk⟩ | ⟨kvs, hk⟩
        · obtain ⟨_, _, _, _, o, _, _, e, ex, _⟩ := I.hok p _ hk
          exact ⟨o, e, ex⟩
        · obtain ⟨_, _, _, _, o, _, _, e, ex, _⟩ := I.hok p _ hk
          exact ⟨o, e, ex⟩
      obtain ⟨o, e, ex⟩ := z
      refine ⟨⟨o, e, ex.1⟩, fun a e2 => ?_⟩
      cases e2
      exact ⟨o, e, ex.2.1⟩
    · obtain ⟨o, _, _, _, e, ex, _⟩ := I.hok p _ hk
      refine ⟨⟨o, e, ex.1⟩, fun a e2 => ?_⟩
      cases e2
      exact ⟨o, e, ex.2.1⟩
  | _ => exact False.elim ty
noncomputable def tBM (K : PySem.W.Frag) (T : String) (r : V → List V → Hp → VK → Prop) (to : TE) (t : TA) : TE := fun σ H Q => to σ H fun x H1 => tyV K T x H1 ∧ t σ H1 fun xs H2 => r x xs H2 Q
variable {o e : Expr} {es : List Expr} {to : TE} {t : TA} {name : Str} {apos cpos : Pos} {T id : String} {r : V → List V → Hp → VK → Prop}
theorem pe_bm (pa : PlainAttrs T) (slot : Slot T name id) (hty : typeOf (.builtin id) = pure (.type "method_descriptor")) (hm : MtR X id r) (ho : PE X o to) (ha : PA X (e :: es) t)
    (hbase : attributeBase o name X.env (eval o X.env) = eval o X.env := by rfl)
    (hfew : ((backTo cpos (starEach (e :: es) X.env)).all (fun x => !x.1) && (backToKw cpos (keywordEach [] X.env)).all (fun x => x.1.isSome)
      && decide ((e :: es).length + ([] : List Keyword).length + (if ([] : List Keyword).isEmpty then 0 else 1) < 30)) = true := by rfl)
    (hline : (apos.endLine == cpos.line) = true := by rfl) (hs : starEach (e :: es) X.env = (false, eval e X.env) :: starEach es X.env := by rfl) (hplain : (backTo cpos (starEach es X.env)).any (·.1) = false := by rfl) :
    PE X (.Call (.Attribute o name apos) (e :: es) [] cpos) (tBM X.K T r to t) := by
  intro pins s σ H Q I h
  refine wpAny_Call_method_late hbase hfew hline rfl (thn (ho pins s σ H _ I h) fun v s1 ⟨x, H1, I1, r1, ty, q1⟩ => ?_)
  obtain ⟨h1, h2⟩ := tyV_is I1 r1 ty
  refine ⟨T, id, pa, slot, hty, h1, h2, ?_⟩
  have hA := ha cpos pins s1 σ H1 _ I1 q1
  rw [hs] at hA ⊢
  refine Calls.callWith_builtin (by show (false || (backTo cpos (starEach es X.env)).any (·.1)) = false; rw [hplain] <;> rfl) (Calls.evalArgs_plain ?_)
  exact thn hA fun us s2 ⟨vs, H2, I2, r2, q2⟩ => hm pins s2 σ H2 x vs v us Q I2 r1 r2 q2
end
end L2

namespace L2
open PySem PySem.Spec PyProof.Rows

noncomputable def MtM (X : Cx) (id : String) (r : V → List V → Hp → VK → Prop) : Prop :=
  ∀ (pins : List (Addr × Obj)) (s : Shared) (σ : St) (H : Hp) (x : V) (xs : List V) (v : Value) (us : List Value) (Q : VK), Inv X pins σ H s → RelV x v → Vals xs us → r x xs H Q →
    wpAny (model X.prog X.w) X.A (call (.builtin id) (v :: us)) (EP X pins σ Q) X.xe s

theorem Vals.one : ∀ {x : V} {us : List Value}, Vals [x] us → ∃ u, us = [u] ∧ RelV x u
  | _, _, .cons r .nil => ⟨_, rfl, r⟩
section
variable {X : Cx} {pins : List (Addr × Obj)} {σ : St} {H : Hp} {s : Shared} {l b : Addr} {xs ys zs : List V}

theorem Inv.lset {its its' : List Value} {n : Nat} {f : Array Value → Array Value} {t' : Nat} (I : Inv X pins σ H s) (hH : H l = some (.lst xs))
    (e : s.heap.get? l = some { cls := .type "list", data := .seq its.toArray n }) (hf : f its.toArray = its'.toArray) (hv : Vals ys its') (hz : ys.length ≤ sizeLine) :
    Inv X pins σ (upd H l (.lst ys)) { s with heap := s.heap.update l (Obj.mapSeq f), toks := t' } := by
  have q := PySem.IsL.update e f
  rw [hf] at q
  refine I.write (x := l) (e := l) (by rw [hH]; exact trivial) (.inl rfl) (fun b' u hb hu => (Heap.get?_update_other s.heap (Obj.mapSeq f) (Ne.symm hb)).trans hu) ⟨_, q⟩ ?_
  exact ⟨hz, its', _, hv, q⟩
theorem Inv.lnew {its : List Value} {t' : Nat} (I : Inv X pins σ H s) (hv : Vals ys its) (hz : ys.length ≤ sizeLine) :
    Inv X pins σ (upd H s.heap.objs.size (.lst ys)) { s with heap := s.heap.push { cls := .type "list", data := .seq its.toArray }, toks := t' } :=
  I.laid (fun _ _ q => Heap.get?_push_of_some _ q) (Nat.le_refl _) ⟨hz, its, 0, hv, Heap.get?_push_size _ rfl⟩
theorem Inv.fresh (I : Inv X pins σ H s) : H s.heap.objs.size = none := I.hok.fresh (Nat.le_refl _)
theorem Inv.lstM (I : Inv X pins σ H s) (hH : H l = some (.lst xs)) : xs.length ≤ sizeLine ∧ ∃ (its : List Value) (n : Nat), Vals xs its ∧ xs.length = its.length ∧ s.heap.get? l = some { cls := .type "list", data := .seq its.toArray n } := by
  obtain ⟨z, its, n, r, e⟩ := I.hok l _ hH
  exact ⟨z, its, n, r, r.length, e⟩

end

section
variable {X : Cx}

noncomputable def rAppend : V → List V → Hp → VK → Prop := fun x vs H Q => ∃ l xs y, x = .ref l ∧ vs = [y] ∧ H l = some (.lst xs) ∧ xs.length < sizeLine ∧ Q .non (upd H l (.lst (xs ++ [y])))
theorem mt_append : MtM X "list.append" rAppend := by
  intro pins s σ H x vs v us Q I rx rv h
  obtain ⟨l, xs, y, rfl, rfl, hH, hz, q⟩ := h
  cases rx
  obtain ⟨u, rfl, ru⟩ := rv.one
  obtain ⟨z, its, n, r, hl, e⟩ := I.lstM hH
  refine call_meets F.slot_list_append ⟨_, e, rfl⟩ F.entry_list_append (F.args_list_append_2 _ _) (PySem.list_append l its.toArray n u (by rw [List.size_toArray]; omega)) ⟨e, ?_⟩
  refine ⟨.non, _, I.lset (its' := its ++ [u]) hH e (by simp) (r.append (.cons ru .nil)) ?_, rfl, q⟩
  rw [List.length_append, List.length_singleton]
  omega

end

section
variable {prog : Program} {w : World} {A : Around} {E : Value → Shared → Prop} {s : Shared}
end

section
variable {X : Cx}
end
end L2

namespace Att
open PySem PySem.W PySem.Calls PyProof.Rows

theorem ints_of_wellAll {P : Params} {h : Heap} : ∀ (ns : List Int) (vs : List Value), WellAll P h vs (ns.map WData.int) → IntsAre vs ns := by
  intro ns
  induction ns with
  | nil =>
    intro vs w
    rw [List.map_nil] at w
    cases w
    exact .nil
  | cons n ns ih =>
    intro vs w
    rw [List.map_cons] at w
    cases w with
    | cons a b =>
      cases a
      exact .cons _ _ (ih _ b)

theorem script_of {l : OpenLaw} {n : Nat} (hn : l.most = some n) {P : Params} {h : Heap} {args : List WData} {vals : List Value}
    (hpre : l.row.toRowW.claim.pre args = true) (hwl : WellAll P h vals args) :
    ∃ a vs ns, vals = [Value.ref a] ∧ args = [WData.list (ns.map WData.int)] ∧ h.get? a = some { cls := .type "list", data := .seq vs.toArray } ∧ IntsAre vs ns ∧ ns.length ≤ n := by
  have hsh : WShape.hasAll [] args [.list .int] = true := (pre_splitW hpre).1
  have hc : l.pre.holds [] { args := args } = true := (pre_splitW hpre).2
  obtain ⟨d, r, rfl, h1, h2⟩ := hasAllW_cons hsh
  obtain rfl := hasAllW_nil h2
  obtain ⟨xs, rfl, h3⟩ := hasW_list h1
  obtain ⟨ns, rfl⟩ := items_int h3
  have hlen : ns.length ≤ n := by
    unfold OpenLaw.pre at hc
    have h4 : (WTm.not (.lt (.lit (.int (n : Int))) (.len (.arg 0)))).holds [] { args := [.list (ns.map .int)] } = true := by
      have h4 := (holds_andW hc).1
      rw [hn] at h4
      exact h4
    have h5 := condW_of h4 (w_not (w_lt w_lit (w_len_list (w_arg rfl))))
    rw [List.length_map] at h5
    refine Nat.le_of_not_lt fun q => ?_
    have q' : (n : Int) < ((ns.length : Nat) : Int) := by omega
    first
      | (rw [decide_eq_true q'] at h5; exact absurd h5 (by decide))
      | (simp at h5; omega)
  cases hwl with
  | cons w1 w2 =>
    cases w2
    cases w1 with
    | list ho hall => exact ⟨_, _, ns, rfl, rfl, ho, ints_of_wellAll ns _ hall, hlen⟩

theorem post_true (l : OpenLaw) (args : List WData) : l.row.toRowW.claim.post args (.bool true) args = true :=
  postW_of (r := l.row.toRowW) (X := (true == true))
    (show WShape.has [] (.bool true) .bool = true by first | rfl | decide | simp [WShape.has, WShape.arms, WShape.armsAll])
    (show (WTm.eq .res (.lit (.bool true))).value [] { args := args, res := some (.bool true), after := args } = some (.bool (true == true)) from w_eq_bool (w_res rfl) w_lit) rfl

theorem attach_call {l : OpenLaw} {n : Nat} {q : Program} {loose : List Str} {XP : (Str → Option Value) → Heap → Prop} {YP : World → Heap → Prop} {d : DefRec}
    (hn : l.most = some n) (hdf : d.params.defaults = [])
    (call : ∀ (w : World) (s₀ s₁ : Shared) (mg mb : Str → Option Value) (fa : Addr) (o : Obj) (pm cd doc : Value) (a : Addr) (vs : List Value) (ns : List Int),
      Ground q loose [] XP w s₀ mg mb s₁.heap → YP w s₁.heap →
      s₁.heap.get? fa = some o → o.data = .func (docDef d.name d.params d.body d.scope pm cd doc) → s₁.heap.CodeRec cd d.name → mg d.name = some (.ref fa) →
      s₁.heap.get? a = some { cls := .type "list", data := .seq vs.toArray } → IntsAre vs ns → ns.length ≤ n → s₁.gens = #[] →
      codeAny (model l.prog w) callerA (.call (.ref fa) ⟨[.ref a], []⟩) (fun r s' => r = .ok (.ret (.bool true)) ∧ OldK s₁.heap s'.heap ∧ s'.os = s₁.os ∧ AllBare s'.gens) s₁) :
    WalkO q loose XP YP l.row.toRowW d [] (fun f vs => PySem.call f vs) := by
  intro w s₀ s₁ mg mb G Y fa o pm cd doc dV kV ho hd hcd hD hmg hg args vals as hpre hlay hrd hwl hlo
  obtain rfl : dV = .none := Dflts.none hD hdf
  obtain rfl : kV = .none := Dflts.noKw hD
  obtain ⟨a, vs, ns, rfl, rfl, hobj, hints, hlen⟩ := script_of hn hpre hwl
  refine enter_call (codeAny_mono (call w s₀ s₁ mg mb fa o pm cd doc a vs ns G Y ho (fd_plain hd) hcd hmg hobj hints hlen hg) fun r s' hq => ?_)
  obtain ⟨rfl, h2, h3, h4⟩ := hq
  exact ⟨.inl ⟨.bool true, .bool true, [], rfl, fun _ => rfl, .bool true, post_true l _, fun _ => ⟨List.Pairwise.nil, fun _ hm => (nomatch hm)⟩⟩, h2, h3, h4⟩

section
variable {prog : Program} {w : World} {A : Around} {E : Value → Shared → Prop} {s : Shared} {K : Frag}

end
end Att

namespace L2
open PySem PySem.Spec PyProof.Rows

theorem vals_ints : ∀ {vs : List Value} {ns : List Int}, IntsAre vs ns → Vals (ns.map V.int) vs
  | _, _, .nil => .nil
  | _, _, .cons n t h => .cons ⟨t, rfl⟩ (vals_ints h)

noncomputable def Only (H : Hp) : Prop := ∀ b, H b = none ∨ ∃ o xs, H b = some (.frz o (.lst xs))

theorem law_call {P : Program} {w : World} {K : PySem.W.Frag} {mg mb : Str → Option Value} {CX : CXT} {k : Nat} {fa a : Addr} {fd : FuncData} {x : Str} {sp : Sp} {s₁ : Shared} {vs : List Value} {ns : List Int}
    (KX : K.In s₁.heap) (hns : s₁.heap.Ns mainGlobals mg) (hb : s₁.heap.Ns builtinsNs mb) (hbb : ∀ x : Str, x ≠ "__name__" → mb x = bootBuiltins x) (hlim : s₁.heap.NoLimit) (hg : s₁.gens = #[])
    (ha : s₁.heap.get? a = some { cls := .type "list", data := .seq vs.toArray }) (hi : IntsAre vs ns) (hl : ns.length ≤ sizeLine) (hr : Room k callerA)
    (F : ∀ base : Heap, K.In base → base.Ns mainGlobals mg → FnOk P w K mg base CX k fa fd [x] sp) (hbind : ∀ (s : Shared) (u : Value), BindsTo s fd ⟨[u], []⟩ [(x, u)])
    (hsp : ∀ H : Hp, Only H → SqL K H a (ns.map V.int) → sp [.ref a] H (fun v _ => v = .bl true) fun _ _ _ => False)
    (hCX : ∀ H e s', CX [] H s₁ (fun _ _ _ => False) e s' → False) :
    codeAny (model P w) callerA (.call (.ref fa) ⟨[.ref a], []⟩) (fun r s' => r = .ok (.ret (.bool true)) ∧ OldK s₁.heap s'.heap ∧ s'.os = s₁.os ∧ AllBare s'.gens) s₁ := by
  have rv := vals_ints hi
  have lenV := hi.length

  have core : ∀ H : Hp, Only H → SqL K H a (ns.map V.int) → HOk P w H s₁.heap → (∀ b, H b ≠ none → b = a) → (H a ≠ none → K.lookup a = none) →
      codeAny (model P w) callerA (.call (.ref fa) ⟨[.ref a], []⟩) (fun r s' => r = .ok (.ret (.bool true)) ∧ OldK s₁.heap s'.heap ∧ s'.os = s₁.os ∧ AllBare s'.gens) s₁ := by
    intro H hO hS hok hA hK
    have base_of : ∀ {b : Addr} {o : Obj}, s₁.heap.get? b = some o → H b = none → (hidT s₁.heap H).get? b = some o := fun e n => hidT_get e n
    have noA : ∀ {b : Addr} {o : Obj} {es : Array DictEntry} {ep : Nat}, s₁.heap.get? b = some o → o.data = .dict es ep → H b = none := fun {b o es ep} e d => by
      cases q : H b with
      | none => rfl
      | some u =>
        have e' : b = a := hA b (by rw [q]; simp)
        subst e'
        rw [ha] at e; cases e
        have d' : Data.seq vs.toArray _ = Data.dict es ep := d
        cases d'
    have nsK : ∀ {b : Addr} {m : Str → Option Value}, s₁.heap.Ns b m → (hidT s₁.heap H).Ns b m := fun {b m} ⟨o, es, ep, e, d, r⟩ => ⟨o, es, ep, base_of e (noA e d), d, r⟩
    have hKb : K.In (hidT s₁.heap H) := fun b o e => base_of (KX b o e) (by
      cases q : H b with
      | none => rfl
      | some u =>
        have e' : b = a := hA b (by rw [q]; simp)
        subst e'
        rw [hK (by rw [q]; simp)] at e; cases e)
    have hM : Mod K mg (hidT s₁.heap H) := ⟨hKb, nsK hns, ⟨mb, nsK hb, hbb⟩, let ⟨mc, h1, h2⟩ := hlim; ⟨mc, nsK h1, h2⟩⟩
    have e0 : Env0 P w K mg (hidT s₁.heap H) callerA [] s₁ H := ⟨rfl, hM, fun b o e => of_hidT e, Nat.le_of_eq (hidT_size _ _), trivial, fun b hb => absurd (show b ∈ ([] : List Addr) from hb) (by simp), hok, .of_eq hg⟩
    refine codeAny_mono ((F _ hKb (nsK hns)).run callerA [] s₁ H ⟨[.ref a], []⟩ [.ref a] [.ref a] _ _ hr e0 (hbind s₁ (.ref a)) (.cons rfl .nil) (hsp H hO hS)) fun r s' h => ?_
    cases r with
    | error e => exact (hCX H e s' h).elim
    | ok fl =>
      cases fl with
      | next => exact False.elim h
      | brk => exact False.elim h
      | cont => exact False.elim h
      | ret u =>
        obtain ⟨v, H', os, bare, un, hok', r', q⟩ := h
        have q' : v = .bl true := q
        subst q'
        obtain rfl : u = Value.bool true := r'
        refine ⟨rfl, OldK.of_keep fun b o e => ?_, os, bare⟩
        cases q : H b with
        | none => exact un.keep b o e q (by intro z; exact absurd (show b ∈ ([] : List Addr) from z) (by simp)) (by simp)
        | some u =>
          rcases hO b with z | ⟨ob, xs, z⟩
          · rw [q] at z; cases z
          · have z2 := un.frzs b ob _ z
            obtain ⟨e1, _⟩ := hok b _ z
            obtain ⟨e2, _⟩ := hok' b _ z2
            rw [e] at e1; cases e1
            exact e2
  cases hk : K.lookup a with
  | some o =>
  
    have e := KX a o hk
    rw [ha] at e
    cases e
    refine core (fun _ => none) (fun _ => .inl rfl) (.inr ⟨_, vs.toArray, _, hk, rfl, rfl, rfl, by rw [List.size_toArray, lenV]; exact hl, by simpa using rv⟩) (fun b u z => by have z' : (none : Option HO) = some u := z; cases z') (fun b z => absurd rfl z) fun z => absurd rfl z
  | none =>
    refine core (fun b => if b = a then some (.frz { cls := .type "list", data := .seq vs.toArray } (.lst (ns.map V.int))) else none) (fun b => ?_) (.inl (.inr ⟨{ cls := .type "list", data := .seq vs.toArray }, if_pos rfl⟩)) (fun b u z => ?_) (fun b z => ?_) fun _ => hk
    · by_cases hb : b = a
      · exact .inr ⟨_, _, if_pos hb⟩
      · exact .inl (if_neg hb)
    · by_cases hb : b = a
      · have z' := (if_pos hb).symm.trans z
        cases z'
        subst hb
        exact ⟨ha, by rw [List.length_map]; exact hl, vs, _, rv, ha⟩
      · have z' := (if_neg hb).symm.trans z
        cases z'
    · by_cases hb : b = a
      · exact hb
      · exact absurd (if_neg hb) z
end L2

namespace L2
open PySem PySem.Spec PyProof.Rows

theorem walk_of {l : PySem.W.OpenLaw} {n k : Nat} {q : Program} {loose : List Str} {XP : (Str → Option Value) → Heap → Prop} {YP : World → Heap → Prop} {d : DefRec} {K : Params → PySem.W.Frag} {CX : World → CXT} {sp : World → Sp} {x : Str}
    (hn : l.most = some n) (hn2 : n ≤ sizeLine) (hdf : d.params.defaults = []) (hr : Room k callerA)
    (hY : ∀ (w : World) (h : Heap), YP w h → (K w.params).In h)
    (F : ∀ (w : World) (mg : Str → Option Value) (fa : Addr) (h : Heap), (K w.params).In h → h.Ns mainGlobals mg → mg d.name = some (.ref fa) →
      ∃ fd : FuncData, (∀ (s : Shared) (u : Value), BindsTo s fd ⟨[u], []⟩ [(x, u)]) ∧
        ∀ base : Heap, (K w.params).In base → base.Ns mainGlobals mg → FnOk l.prog w (K w.params) mg base (CX w) k fa fd [x] (sp w))
    (hsp : ∀ (w : World) (H : Hp) (a : Addr) (ns : List Int), ns.length ≤ n → Only H → SqL (K w.params) H a (ns.map V.int) → sp w [.ref a] H (fun v _ => v = .bl true) fun _ _ _ => False)
    (hCX : ∀ (w : World) (H : Hp) (s : Shared) (e : Value) (s' : Shared), CX w [] H s (fun _ _ _ => False) e s' → False) :
    PySem.W.WalkO q loose XP YP l.row.toRowW d [] (fun f vs => PySem.call f vs) := by
  refine Att.attach_call hn hdf fun w s₀ s₁ mg mb fa o pm cd doc a vs ns G Y ho hd hcd hmg hobj hints hlen hg => ?_
  have KX := hY w _ Y
  obtain ⟨fd, hb, hF⟩ := F w mg fa _ KX G.T.g hmg
  exact law_call KX G.T.g G.T.b G.T.builtins G.T.nolimit hg hobj hints (Nat.le_trans hlen hn2) hr hF hb (fun H hO hS => hsp w H a ns hlen hO hS) fun H e s' => hCX w H s₁ e s'
end L2


namespace L2
open PySem PySem.Spec PyProof.Rows

noncomputable def defArgs (s : Stmt) : Arguments := match s with
  | .FunctionDef _ a _ _ _ _ _ _ _ _ => a
  | _ => { posonlyargs := [], args := [], vararg := none, kwonlyargs := [], kw_defaults := [], kwarg := none, defaults := [] }
noncomputable def defBody (s : Stmt) : List Stmt := match s with
  | .FunctionDef _ _ b _ _ _ _ _ _ _ => b
  | _ => []
noncomputable def defScope (s : Stmt) : Scope := match s with
  | .FunctionDef _ _ _ _ _ _ sc _ _ _ => sc
  | _ => { kind := .function, names := [], isGenerator := false, isCoroutine := false }

noncomputable abbrev E0 : XK := fun _ _ _ => False
set_option genInjectivity false in
structure Fun (K : PySem.W.Frag) (x qual : Str) (st : Stmt) (f : Addr) (fd : FuncData) : Prop where
  ex : ∃ (oc : Value) (od : Option Addr) (kV doc pm : Value) (an : Option Addr) (cdv ct : Value) (osl : Array (Option Value)),
    fd = PySem.W.fnOf x qual (defArgs st) (defBody st) (defScope st) .none kV doc pm an cdv ct ∧ K.lookup f = some ⟨oc, od, .func fd, osl⟩ ∧ PySem.W.codeIn K cdv qual = true
  kp : PySem.W.keepIn K (.ref f) = true
section
variable {P : Program} {w : World} {K : PySem.W.Frag} {mg : Str → Option Value} {base : Heap}
theorem Fun.binds {x qual : Str} {st : Stmt} {f : Addr} {fd : FuncData} {ps : List Str} (F : Fun K x qual st f fd)
    (h : ∀ (kV doc pm : Value) (an : Option Addr) (cdv ct : Value) (us : List Value), us.length = ps.length → bindArgs (PySem.W.fnOf x qual (defArgs st) (defBody st) (defScope st) .none kV doc pm an cdv ct) ⟨us, []⟩ = pure (ps.zip us)) : Binds K fd ps [] := by
  obtain ⟨oc, od, kV, doc, pm, an, cdv, ct, osl, rfl, lk, hcd⟩ := F.ex
  exact .all (h kV doc pm an cdv ct)
theorem fun_mk {x qual : Str} {st : Stmt} {f : Addr} {oc : Value} {od an : Option Addr} {osl : Array (Option Value)} {kV doc pm cdv ct : Value} (l : K.lookup f = some ⟨oc, od, .func (PySem.W.fnOf x qual (defArgs st) (defBody st) (defScope st) .none kV doc pm an cdv ct), osl⟩)
    (c : PySem.W.codeIn K cdv qual = true) (k : PySem.W.keepIn K (.ref f) = true) : Fun K x qual st f (PySem.W.fnOf x qual (defArgs st) (defBody st) (defScope st) .none kV doc pm an cdv ct) := ⟨⟨oc, od, kV, doc, pm, an, cdv, ct, osl, rfl, l, c⟩, k⟩
end
theorem hu_of {A : Around} {k : Nat} (hr : Room k A) : A.units + 1 < cLine := Nat.lt_of_le_of_lt (Nat.add_le_add_left (by decide : 1 ≤ 64) _) hr.units
section
variable {X : Cx}
theorem pv (i : Nat) {x : Str} {pos : Pos} (hN : X.N[i]? = some x := by rfl) (hv : Vis X.env.scope x := by first | exact Or.inl rfl | exact Or.inr (Or.inl rfl) | exact Or.inr (Or.inr rfl)) (hd : (x == ("__debug__" : Str)) = false := by decide)
    (hcd : (x == ("__classdict__" : Str)) = false := by decide) : PE X (.Name x pos) (tVar i) := pe_var hN hv hd hcd
end

theorem iteF {A B : Prop} (h : B) : if false = true then A else B := by
  rw [if_neg Bool.false_ne_true]
  exact h
theorem iteT {A B : Prop} (h : A) : if true = true then A else B := by
  rw [if_pos rfl]
  exact h
theorem ite2 {c A B : Prop} [Decidable c] (h1 : c → A) (h2 : ¬ c → B) : if c then A else B := by
  by_cases h : c
  · rw [if_pos h]
    exact h1 h
  · rw [if_neg h]
    exact h2 h
noncomputable def Same (H H' : Hp) : Prop := ∀ b o, H b = some o → H' b = some o
theorem Same.refl (H : Hp) : Same H H := fun _ _ h => h
theorem Same.trans {H H1 H2 : Hp} (a : Same H H1) (b : Same H1 H2) : Same H H2 := fun c o h => b c o (a c o h)
theorem Same.seq {K : PySem.W.Frag} {H H' : Hp} {a : Addr} {xs : List V} (e : Same H H') (h : SqL K H a xs) : SqL K H' a xs := by
  rcases h with (h | ⟨o, h⟩) | h
  · exact .inl (.inl (e _ _ h))
  · exact .inl (.inr ⟨o, e _ _ h⟩)
  · exact .inr h

end L2

namespace Wd
noncomputable abbrev W := List Nat
end Wd

namespace Wd
end Wd

namespace Wd
end Wd
namespace Wd
end Wd

namespace Wd
end Wd

set_option linter.all false
namespace Dt
noncomputable abbrev Mx := Nat → Nat → Int
noncomputable def sumN : Nat → (Nat → Int) → Int
  | 0, _ => 0
  | n + 1, f => sumN n f + f n
noncomputable def sk (j k : Nat) : Nat := if k < j then k else k + 1
noncomputable def sg (j : Nat) : Int := if j % 2 = 0 then 1 else -1
noncomputable def det : Nat → Mx → Int
  | 0, _ => 1
  | n + 1, A => sumN (n + 1) fun j => sg j * (A 0 j * det n fun i k => A (i + 1) (sk j k))
section
variable {n N p q i j k l : Nat} {A B : Mx} {f g : Nat → Int} {c m : Int}
theorem sum_congr : ∀ {n : Nat}, (∀ j, j < n → f j = g j) → sumN n f = sumN n g
  | 0, _ => rfl
  | n + 1, h => by
    show sumN n f + f n = sumN n g + g n
    rw [sum_congr (n := n) fun j hj => h j (by omega), h n (by omega)]
theorem sum_lin : ∀ {n : Nat}, sumN n (fun j => f j + c * g j) = sumN n f + c * sumN n g
  | 0 => by show (0 : Int) = 0 + c * 0; omega
  | n + 1 => by
    show sumN n (fun j => f j + c * g j) + (f n + c * g n) = (sumN n f + f n) + c * (sumN n g + g n)
    rw [sum_lin (n := n), Int.mul_add]
    omega
theorem sum_zero : ∀ {n : Nat}, (∀ j, j < n → f j = 0) → sumN n f = 0
  | 0, _ => rfl
  | n + 1, h => by
    show sumN n f + f n = 0
    rw [sum_zero (n := n) fun j hj => h j (by omega), h n (by omega)]
    rfl
theorem sum_mul {n : Nat} : sumN n (fun j => c * g j) = c * sumN n g := by
  have h := sum_lin (n := n) (f := fun _ => 0) (c := c) (g := g)
  rw [sum_zero (fun _ _ => rfl)] at h
  rw [sum_congr (g := fun j => 0 + c * g j) fun j _ => by omega, h]
  omega
theorem sum_first : ∀ {n : Nat}, (∀ j, 0 < j → j < n + 1 → f j = 0) → sumN (n + 1) f = f 0
  | 0, _ => by show (0 : Int) + f 0 = f 0; omega
  | n + 1, h => by
    show sumN (n + 1) f + f (n + 1) = f 0
    rw [sum_first (n := n) fun j h0 hj => h j h0 (by omega), h (n + 1) (by omega) (by omega)]
    omega
theorem sk_lt (h : k < n) : sk j k < n + 1 := by unfold sk; split <;> omega
theorem det_congr : ∀ {n : Nat} {A B : Mx}, (∀ i k, i < n → k < n → A i k = B i k) → det n A = det n B
  | 0, _, _, _ => rfl
  | n + 1, A, B, h => by
    refine sum_congr fun j hj => ?_
    rw [h 0 j (by omega) hj, det_congr (n := n) fun i k hi hk => h (i + 1) (sk j k) (by omega) (sk_lt hk)]
noncomputable def setR (A : Mx) (i : Nat) (u : Nat → Int) : Mx := fun a k => if a = i then u k else A a k
theorem setR_at {u : Nat → Int} : setR A i u i = u := by
  funext k
  exact if_pos rfl
theorem setR_ne {u : Nat → Int} {a : Nat} (h : a ≠ i) : setR A i u a = A a := by
  funext k
  exact if_neg h
theorem setR_minor {u : Nat → Int} : (fun a k => setR A (i + 1) u (a + 1) (sk j k)) = setR (fun a k => A (a + 1) (sk j k)) i fun k => u (sk j k) := by
  funext a k
  unfold setR
  by_cases h : a = i
  · rw [if_pos h, if_pos (by omega)]
  · rw [if_neg h, if_neg (by omega)]
theorem det_lin : ∀ {n : Nat} {A : Mx} {i : Nat} {u v : Nat → Int}, i < n → det n (setR A i fun k => u k + c * v k) = det n (setR A i u) + c * det n (setR A i v)
  | n + 1, A, 0, u, v, _ => by
    have e : ∀ w : Nat → Int, det (n + 1) (setR A 0 w) = sumN (n + 1) fun j => sg j * (w j * det n fun i k => A (i + 1) (sk j k)) := fun w => by
      refine sum_congr fun j _ => ?_
      rw [setR_at, det_congr (n := n) (A := fun i k => setR A 0 w (i + 1) (sk j k)) (B := fun i k => A (i + 1) (sk j k)) fun a k _ _ => by rw [setR_ne (by omega)]]
    rw [e, e, e, ← sum_lin]
    refine sum_congr fun j _ => ?_
    rw [Int.add_mul, Int.mul_add]
    congr 1
    rw [Int.mul_assoc c, ← Int.mul_assoc (sg j) c, Int.mul_comm (sg j) c, Int.mul_assoc c]
  | n + 1, A, i + 1, u, v, h => by
    have e : ∀ w : Nat → Int, det (n + 1) (setR A (i + 1) w) = sumN (n + 1) fun j => sg j * (A 0 j * det n (setR (fun a k => A (a + 1) (sk j k)) i fun k => w (sk j k))) := fun w => by
      refine sum_congr fun j _ => ?_
      rw [setR_minor, setR_ne (by omega)]
    rw [e, e, e, ← sum_lin]
    refine sum_congr fun j _ => ?_
    rw [det_lin (n := n) (i := i) (u := fun k => u (sk j k)) (v := fun k => v (sk j k)) (by omega), Int.mul_add, Int.mul_add]
    congr 1
    rw [← Int.mul_assoc (A 0 j) c, Int.mul_comm (A 0 j) c, Int.mul_assoc c, ← Int.mul_assoc (sg j) c, Int.mul_comm (sg j) c, Int.mul_assoc c]
theorem sg_succ : sg (j + 1) = - sg j := by
  unfold sg
  by_cases h : j % 2 = 0
  · rw [if_pos h, if_neg (by omega)]
  · rw [if_neg h, if_pos (by omega)]; rfl
theorem sg_sq : sg j * sg j = 1 := by
  unfold sg
  split <;> rfl
theorem dbl {F : Nat → Nat → Int} : ∀ {N : Nat}, (∀ j l, l < j → j ≤ N → F j l + F l (j - 1) = 0) → sumN (N + 1) (fun j => sumN N (F j)) = 0
  | 0, _ => rfl
  | N + 1, h => by
    have ih := dbl (N := N) fun j l hl hj => h j l hl (by omega)
    have e1 : sumN (N + 1) (fun j => sumN (N + 1) (F j)) = sumN (N + 1) (fun j => sumN N (F j) + 1 * F j N) := sum_congr fun j _ => by
      show sumN N (F j) + F j N = _
      omega
    have e2 : sumN (N + 1) (fun l => F l N + 1 * F (N + 1) l) = 0 := sum_zero fun l hl => by
      have := h (N + 1) l (by omega) (by omega)
      rw [Nat.add_sub_cancel] at this
      omega
    rw [sum_lin] at e1 e2
    show sumN (N + 1) (fun j => sumN (N + 1) (F j)) + sumN (N + 1) (F (N + 1)) = 0
    have e3 : sumN (N + 1) (F (N + 1)) = sumN (N + 1) fun l => F (N + 1) l := rfl
    rw [e1, ih]
    omega
theorem sk_sk (h : l < j) : sk j (sk l k) = sk l (sk (j - 1) k) := by
  have a : ∀ x y : Nat, sk x y = if y < x then y else y + 1 := fun _ _ => rfl
  by_cases h1 : k < l
  · rw [a l k, if_pos h1, a j k, if_pos (by omega), a (j - 1) k, if_pos (by omega), a l k, if_pos h1]
  · rw [a l k, if_neg h1]
    by_cases h2 : k + 1 < j
    · rw [a j, if_pos h2, a (j - 1) k, if_pos (by omega), a l k, if_neg h1]
    · rw [a j, if_neg h2, a (j - 1) k, if_neg (by omega), a l, if_neg (by omega)]
theorem alt0 (h : ∀ k, k < n + 2 → A 0 k = A 1 k) : det (n + 2) A = 0 := by
  have e : det (n + 2) A = sumN (n + 2) fun j => sumN (n + 1) fun l => sg j * (A 0 j * (sg l * (A 1 (sk j l) * det n fun i k => A (i + 2) (sk j (sk l k))))) := by
    refine sum_congr fun j _ => ?_
    show sg j * (A 0 j * sumN (n + 1) fun l => sg l * (A 1 (sk j l) * det n fun i k => A (i + 2) (sk j (sk l k)))) = _
    rw [← sum_mul, ← sum_mul]
  rw [e]
  refine dbl fun j l hl hj => ?_
  have s1 : sk j l = l := by unfold sk; rw [if_pos hl]
  have s2 : sk l (j - 1) = j := by unfold sk; rw [if_neg (by omega)]; omega
  have s3 : (fun i k => A (i + 2) (sk l (sk (j - 1) k))) = fun i k => A (i + 2) (sk j (sk l k)) := by
    funext i k
    rw [sk_sk hl]
  rw [s1, s2, s3, ← h j (by omega), ← h l (by omega)]
  have s4 : sg j = - sg (j - 1) := by rw [← sg_succ, Nat.sub_add_cancel (by omega)]
  rw [s4]
  generalize det n (fun i k => A (i + 2) (sk j (sk l k))) = d
  grind
theorem alt : ∀ {n i : Nat} {A : Mx}, i + 1 < n → (∀ k, k < n → A i k = A (i + 1) k) → det n A = 0
  | n + 2, 0, A, _, h => alt0 h
  | n + 1, i + 1, A, hi, h => by
    refine sum_zero fun j _ => ?_
    rw [alt (n := n) (i := i) (A := fun a k => A (a + 1) (sk j k)) (by omega) fun k hk => h (sk j k) (sk_lt hk), Int.mul_zero, Int.mul_zero]
noncomputable def tr (p i : Nat) : Nat := if i = p then p + 1 else if i = p + 1 then p else i
theorem setR_comm {u v : Nat → Int} (h : i ≠ j) : setR (setR A i u) j v = setR (setR A j v) i u := by
  funext a k
  unfold setR
  by_cases h1 : a = i
  · rw [if_neg (by omega), if_pos h1, if_pos h1]
  · by_cases h2 : a = j
    · rw [if_pos h2, if_neg h1, if_pos h2]
    · rw [if_neg h2, if_neg h1, if_neg h1, if_neg h2]
theorem det_add {u v : Nat → Int} (h : i < n) : det n (setR A i fun k => u k + v k) = det n (setR A i u) + det n (setR A i v) := by
  have := det_lin (c := 1) (A := A) (u := u) (v := v) h
  rw [Int.one_mul] at this
  rw [← this]
  congr 2
  funext k
  omega
theorem det_self (u : Nat → Int) (h : ∀ k, u k = A i k) : det n (setR A i u) = det n A := det_congr fun a k _ _ => by
  unfold setR
  by_cases e : a = i
  · rw [if_pos e, h, e]
  · rw [if_neg e]
theorem swap (h : p + 1 < n) : det n (fun i k => A (tr p i) k) = - det n A := by
  have D : ∀ x y : Nat → Int, ∃ d, det n (setR (setR A p x) (p + 1) y) = d := fun _ _ => ⟨_, rfl⟩
  have z : ∀ w : Nat → Int, det n (setR (setR A p w) (p + 1) w) = 0 := fun w => alt h fun k _ => by rw [setR_ne (by omega), setR_at, setR_at]
  have l2 : ∀ x y y' : Nat → Int, det n (setR (setR A p x) (p + 1) fun k => y k + y' k) = det n (setR (setR A p x) (p + 1) y) + det n (setR (setR A p x) (p + 1) y') := fun x y y' => det_add h
  have l1 : ∀ x x' y : Nat → Int, det n (setR (setR A p fun k => x k + x' k) (p + 1) y) = det n (setR (setR A p x) (p + 1) y) + det n (setR (setR A p x') (p + 1) y) := fun x x' y => by
    rw [setR_comm (by omega), setR_comm (u := x) (by omega), setR_comm (u := x') (by omega)]
    exact det_add (by omega)
  have e0 := z fun k => A p k + A (p + 1) k
  rw [l2, l1, l1, z, z] at e0
  have e1 : det n (setR (setR A p (A p)) (p + 1) (A (p + 1))) = det n A := by
    rw [det_self _ (fun k => by rw [setR_ne (by omega)]), det_self _ (fun k => rfl)]
  have e2 : det n (setR (setR A p (A (p + 1))) (p + 1) (A p)) = det n fun i k => A (tr p i) k := by
    refine det_congr fun a k _ _ => ?_
    unfold setR tr
    by_cases h1 : a = p + 1
    · rw [if_pos h1, if_neg (by omega), if_pos h1]
    · rw [if_neg h1]
      by_cases h2 : a = p
      · rw [if_pos h2, if_pos h2]
      · rw [if_neg h2, if_neg h2, if_neg h1]
  rw [e1, e2] at e0
  omega
theorem alt_far : ∀ (d : Nat) {i : Nat} {A : Mx}, i + 1 + d < n → (∀ k, k < n → A i k = A (i + 1 + d) k) → det n A = 0
  | 0, i, A, hi, h => alt hi h
  | d + 1, i, A, hi, h => by
    have h2 := alt_far d (i := i) (A := fun a k => A (tr (i + 1 + d) a) k) (by omega) fun k hk => by
      show A (tr (i + 1 + d) i) k = A (tr (i + 1 + d) (i + 1 + d)) k
      unfold tr
      rw [if_neg (by omega), if_neg (by omega), if_pos rfl]
      exact h k hk
    rw [swap (by omega)] at h2
    omega
theorem lower1 {t : Int} (h0 : 0 < i) (h : i < n) : det n (setR A i fun k => A i k - t * A 0 k) = det n A := by
  have e := det_lin (c := -t) (A := A) (u := A i) (v := A 0) h
  rw [det_self (A i) fun _ => rfl, alt_far (i - 1) (i := 0) (A := setR A i (A 0)) (by omega) fun k _ => ?_, Int.mul_zero, Int.add_zero] at e
  · rw [← e]
    congr 2
    funext k
    rw [Int.neg_mul]
    omega
  · rw [setR_ne (by omega), show 0 + 1 + (i - 1) = i by omega, setR_at]
theorem lowAll {t : Nat → Int} : ∀ {m : Nat}, m ≤ n → det n (fun i k => if 0 < i ∧ i < m then A i k - t i * A 0 k else A i k) = det n A
  | 0, _ => det_congr fun i k _ _ => if_neg (by omega)
  | m + 1, hm => by
    rw [← lowAll (m := m) (by omega)]
    by_cases h0 : m = 0
    · subst h0
      exact det_congr fun i k _ _ => by rw [if_neg (by omega), if_neg (by omega)]
    · rw [← lower1 (A := fun i k => if 0 < i ∧ i < m then A i k - t i * A 0 k else A i k) (i := m) (t := t m) (by omega) (by omega)]
      refine det_congr fun i k _ _ => ?_
      unfold setR
      dsimp only
      by_cases h1 : i = m
      · subst h1
        rw [if_pos rfl, if_pos (by omega), if_neg (by omega), if_neg (by omega)]
      · rw [if_neg h1]
        by_cases h2 : 0 < i ∧ i < m
        · rw [if_pos h2, if_pos (by omega)]
        · rw [if_neg h2, if_neg (by omega)]
theorem zcol : ∀ {n : Nat} {A : Mx}, (∀ i, i < n + 1 → A i 0 = 0) → det (n + 1) A = 0
  | n, A, h => by
    refine sum_zero fun j hj => ?_
    cases j with
    | zero => rw [h 0 (by omega), Int.zero_mul, Int.mul_zero]
    | succ j =>
      cases n with
      | zero => omega
      | succ n => rw [zcol (n := n) (A := fun i k => A (i + 1) (sk (j + 1) k)) fun i hi => h (i + 1) (by omega), Int.mul_zero, Int.mul_zero]
theorem col0 (h : ∀ i, i < n → A (i + 1) 0 = 0) : det (n + 1) A = A 0 0 * det n fun i k => A (i + 1) (k + 1) := by
  show sumN (n + 1) _ = _
  rw [sum_first fun j h0 hj => ?_]
  · show sg 0 * (A 0 0 * det n fun i k => A (i + 1) (sk 0 k)) = _
    rw [show sg 0 = 1 from rfl, Int.one_mul]
    rfl
  · cases n with
    | zero => omega
    | succ n =>
      rw [zcol (A := fun i k => A (i + 1) (sk j k)) fun i hi => by
        show A (i + 1) (sk j 0) = 0
        rw [show sk j 0 = 0 by unfold sk; rw [if_pos h0]]
        exact h i hi, Int.mul_zero, Int.mul_zero]
noncomputable def Cg (m a b : Int) : Prop := m ∣ a - b
theorem Cg.refl (a : Int) : Cg m a a := by unfold Cg; rw [Int.sub_self]; exact Int.dvd_zero m
theorem Cg.symm {a b : Int} (h : Cg m a b) : Cg m b a := by
  unfold Cg at *
  rw [← Int.neg_sub]
  exact Int.dvd_neg.mpr h
theorem Cg.trans {a b d : Int} (h : Cg m a b) (g : Cg m b d) : Cg m a d := by
  unfold Cg at *
  rw [show a - d = (a - b) + (b - d) by omega]
  exact Int.dvd_add h g
theorem Cg.add {a b a' b' : Int} (h : Cg m a b) (g : Cg m a' b') : Cg m (a + a') (b + b') := by
  unfold Cg at *
  rw [show a + a' - (b + b') = (a - b) + (a' - b') by omega]
  exact Int.dvd_add h g
theorem Cg.mul {a b a' b' : Int} (h : Cg m a b) (g : Cg m a' b') : Cg m (a * a') (b * b') := by
  unfold Cg at *
  rw [show a * a' - b * b' = (a - b) * a' + b * (a' - b') by rw [Int.sub_mul, Int.mul_sub]; omega]
  exact Int.dvd_add (Int.dvd_mul_of_dvd_left h) (Int.dvd_mul_of_dvd_right g)
theorem Cg.sub {a b a' b' : Int} (h : Cg m a b) (g : Cg m a' b') : Cg m (a - a') (b - b') := by
  unfold Cg at *
  rw [show a - a' - (b - b') = (a - b) - (a' - b') by omega]
  exact Int.dvd_sub h g
theorem Cg.neg {a b : Int} (h : Cg m a b) : Cg m (-a) (-b) := by
  have := (Cg.refl (m := m) 0).sub h
  rwa [Int.zero_sub, Int.zero_sub] at this
theorem cg_mod (a : Int) : Cg m (a % m) a := by
  unfold Cg
  rw [Int.emod_def]
  rw [show a - m * (a / m) - a = -(m * (a / m)) by omega]
  exact Int.dvd_neg.mpr (Int.dvd_mul_right ..)
theorem cg_sum : ∀ {n : Nat}, (∀ j, j < n → Cg m (f j) (g j)) → Cg m (sumN n f) (sumN n g)
  | 0, _ => Cg.refl _
  | n + 1, h => (cg_sum (n := n) fun j hj => h j (by omega)).add (h n (by omega))
theorem det_cg : ∀ {n : Nat} {A B : Mx}, (∀ i k, i < n → k < n → Cg m (A i k) (B i k)) → Cg m (det n A) (det n B)
  | 0, _, _, _ => Cg.refl _
  | n + 1, A, B, h => cg_sum fun j hj => (Cg.refl _).mul ((h 0 j (by omega) hj).mul (det_cg fun i k hi hk => h (i + 1) (sk j k) (by omega) (sk_lt hk)))
theorem det_step {t : Nat → Int} (h : ∀ i, i < n → m ∣ A (i + 1) 0 - t i * A 0 0) : Cg m (det (n + 1) A) (A 0 0 * det n fun i k => A (i + 1) (k + 1) - t i * A 0 (k + 1)) := by
  rw [← lowAll (n := n + 1) (A := A) (t := fun i => t (i - 1)) (m := n + 1) (Nat.le_refl _)]
  refine (det_cg (B := fun i k => if i = 0 then A 0 k else if k = 0 then 0 else A i k - t (i - 1) * A 0 k) fun i k hi hk => ?_).trans ?_
  · by_cases h0 : i = 0
    · subst h0
      rw [if_neg (by omega), if_pos rfl]
      exact Cg.refl _
    · rw [if_pos (by omega), if_neg h0]
      by_cases hk0 : k = 0
      · subst hk0
        rw [if_pos rfl]
        have := h (i - 1) (by omega)
        rw [show i - 1 + 1 = i by omega] at this
        unfold Cg
        rw [Int.sub_zero]
        exact this
      · rw [if_neg hk0]
        exact Cg.refl _
  · rw [col0 fun i _ => by rw [if_neg (by omega), if_pos rfl]]
    rw [if_pos rfl]
    have e : det n (fun i k => if i + 1 = 0 then A 0 (k + 1) else if k + 1 = 0 then 0 else A (i + 1) (k + 1) - t (i + 1 - 1) * A 0 (k + 1)) = det n fun i k => A (i + 1) (k + 1) - t i * A 0 (k + 1) := det_congr fun i k _ _ => by rw [if_neg (by omega), if_neg (by omega)]; rfl
    rw [e]
    exact Cg.refl _
noncomputable def mv (p : Nat) (A : Mx) : Mx := fun i k => if i = 0 then A p k else if i ≤ p then A (i - 1) k else A i k
theorem det_mv : ∀ {p : Nat} {A : Mx}, p < n → det n (mv p A) = sg p * det n A
  | 0, A, h => by
    rw [show sg 0 = 1 from rfl, Int.one_mul]
    exact det_congr fun i k _ _ => by
      unfold mv
      by_cases h0 : i = 0
      · rw [if_pos h0, h0]
      · rw [if_neg h0, if_neg (by omega)]
  | p + 1, A, h => by
    have ih := det_mv (p := p) (A := fun i k => A (tr p i) k) (by omega)
    rw [swap h] at ih
    rw [sg_succ, Int.neg_mul, ← Int.mul_neg, ← ih]
    refine det_congr fun i k _ _ => ?_
    unfold mv tr
    dsimp only
    by_cases h0 : i = 0
    · rw [if_pos h0, if_pos h0, if_pos rfl]
    · rw [if_neg h0, if_neg h0]
      by_cases h1 : i ≤ p
      · rw [if_pos (by omega), if_pos h1, if_neg (by omega), if_neg (by omega)]
      · by_cases h2 : i = p + 1
        · subst h2
          rw [if_pos (by omega), if_neg (by omega), if_neg (by omega), if_pos rfl]
          rfl
        · rw [if_neg (by omega), if_neg h1, if_neg (by omega), if_neg h2]
end
end Dt

set_option linter.all false
namespace Dt
noncomputable def sN : Nat → (Nat → Nat) → Nat
  | 0, _ => 0
  | n + 1, f => sN n f + f n
noncomputable def pN : Nat → (Nat → Nat) → Nat
  | 0, _ => 1
  | n + 1, f => f 0 * pN n fun i => f (i + 1)
section
variable {n N p q i j k l : Nat} {A B : Mx} {f g : Nat → Nat} {c m : Int}
theorem sN_le : ∀ {n : Nat}, (∀ j, j < n → f j ≤ g j) → sN n f ≤ sN n g
  | 0, _ => Nat.le_refl _
  | n + 1, h => Nat.add_le_add (sN_le fun j hj => h j (by omega)) (h n (by omega))
theorem sN_mul {c : Nat} : ∀ {n : Nat}, sN n (fun j => f j * c) = sN n f * c
  | 0 => by show 0 = 0 * c; omega
  | n + 1 => by
    show sN n (fun j => f j * c) + f n * c = (sN n f + f n) * c
    rw [sN_mul (n := n), Nat.add_mul]
theorem pN_le : ∀ {n : Nat} {f g : Nat → Nat}, (∀ j, j < n → f j ≤ g j) → pN n f ≤ pN n g
  | 0, _, _, _ => Nat.le_refl _
  | n + 1, f, g, h => Nat.mul_le_mul (h 0 (by omega)) (pN_le fun j hj => h (j + 1) (by omega))
theorem sum_abs {f : Nat → Int} : ∀ {n : Nat}, (sumN n f).natAbs ≤ sN n fun j => (f j).natAbs
  | 0 => Nat.le_refl _
  | n + 1 => by
    have := sum_abs (f := f) (n := n)
    have h2 := Int.natAbs_add_le (sumN n f) (f n)
    show (sumN n f + f n).natAbs ≤ sN n (fun j => (f j).natAbs) + (f n).natAbs
    omega
theorem sN_sk {f : Nat → Nat} {j : Nat} : ∀ {n : Nat}, sN n (fun k => f (sk j k)) ≤ sN (n + 1) f
  | 0 => Nat.zero_le _
  | n + 1 => by
    show sN n (fun k => f (sk j k)) + f (sk j n) ≤ sN (n + 1) f + f (n + 1)
    by_cases h : n < j
    · have e : ∀ m, m ≤ n + 1 → sN m (fun k => f (sk j k)) = sN m f := fun m => by
        induction m with
        | zero => intro _; rfl
        | succ m ih =>
          intro hm
          show sN m (fun k => f (sk j k)) + f (sk j m) = sN m f + f m
          rw [ih (by omega), show sk j m = m by unfold sk; rw [if_pos (by omega)]]
      have := e (n + 1) (Nat.le_refl _)
      have e2 : sN (n + 1) (fun k => f (sk j k)) = sN n (fun k => f (sk j k)) + f (sk j n) := rfl
      omega
    · have := sN_sk (j := j) (f := f) (n := n)
      rw [show sk j n = n + 1 by unfold sk; rw [if_neg h]]
      omega
theorem sg_abs : (sg j).natAbs = 1 := by unfold sg; split <;> rfl
theorem det_bound : ∀ {n : Nat} {A : Mx}, (det n A).natAbs ≤ pN n fun i => sN n fun k => (A i k).natAbs
  | 0, _ => Nat.le_refl _
  | n + 1, A => by
    refine Nat.le_trans sum_abs ?_
    show _ ≤ sN (n + 1) (fun k => (A 0 k).natAbs) * pN n fun i => sN (n + 1) fun k => (A (i + 1) k).natAbs
    rw [← sN_mul]
    refine sN_le fun j _ => ?_
    rw [Int.natAbs_mul, Int.natAbs_mul, sg_abs, Nat.one_mul]
    exact Nat.mul_le_mul_left _ (Nat.le_trans det_bound (pN_le fun i _ => sN_sk (f := fun k => (A (i + 1) k).natAbs)))
noncomputable def ent (M : List (List Int)) : Mx := fun i k => (M.getD i []).getD k 0
theorem erase_get {α : Type} {M : List α} {d : α} (i : Nat) : (M.eraseIdx p).getD i d = M.getD (if i < p then i else i + 1) d := by
  rw [List.getD_eq_getElem?_getD, List.getD_eq_getElem?_getD, List.getElem?_eraseIdx]
  split <;> rfl
theorem map_ent {M : List (List Int)} {u : List Int → List Int} (h : i < M.length) : (M.map u).getD i [] = u (M.getD i []) := by
  rw [List.getD_eq_getElem?_getD, List.getD_eq_getElem?_getD, List.getElem?_map, List.getElem?_eq_getElem h]
  rfl
theorem elim {M : List (List Int)} {top : List Int} {back : Int} {t : List Int → Int} {low : List Int → List Int} (hp : p < n + 1) (hM : M.length = n + 1) (htop : ∀ k, k < n + 1 → Cg m (top.getD k 0) ((M.getD p []).getD k 0)) (hb : Cg m (top.getD 0 0 * back) 1)
    (ht : ∀ r ∈ M, Cg m (t r) (r.getD 0 0 * back)) (hlow : ∀ r ∈ M, ∀ k, k < n → (low r).getD k 0 = r.getD (k + 1) 0 - t r * top.getD (k + 1) 0) : Cg m (det (n + 1) (ent M)) (sg p * (top.getD 0 0 * det n (ent ((M.eraseIdx p).map low)))) := by
  have e1 : det (n + 1) (ent M) = sg p * det (n + 1) (mv p (ent M)) := by
    rw [det_mv hp, ← Int.mul_assoc, sg_sq, Int.one_mul]
  have mem : ∀ i, i < n → (M.eraseIdx p).getD i [] ∈ M := fun i hi => by
    rw [erase_get]
    split
    · rw [List.getD_eq_getElem?_getD, List.getElem?_eq_getElem (by omega)]
      exact List.getElem_mem _
    · rw [List.getD_eq_getElem?_getD, List.getElem?_eq_getElem (by omega)]
      exact List.getElem_mem _
  have row : ∀ i k, i < n → mv p (ent M) (i + 1) k = ((M.eraseIdx p).getD i []).getD k 0 := fun i k hi => by
    unfold mv ent
    rw [if_neg (by omega), erase_get]
    by_cases h : i < p
    · rw [if_pos (by omega), if_pos h]
      rfl
    · rw [if_neg (by omega), if_neg h]
  rw [e1]
  refine (Cg.refl _).mul ?_
  refine (det_cg (B := fun i k => if i = 0 then top.getD k 0 else mv p (ent M) i k) fun i k hi hk => ?_).trans ?_
  · by_cases h0 : i = 0
    · subst h0
      rw [if_pos rfl]
      exact (htop k hk).symm
    · rw [if_neg h0]
      exact Cg.refl _
  · refine (det_step (t := fun i => t ((M.eraseIdx p).getD i [])) fun i hi => ?_).trans ?_
    · rw [if_neg (by omega), if_pos rfl, row i 0 hi]
      have h1 := ht _ (mem i hi)
      have h2 := (h1.mul (Cg.refl (top.getD 0 0))).trans (b := ((M.eraseIdx p).getD i []).getD 0 0 * back * top.getD 0 0) (d := ((M.eraseIdx p).getD i []).getD 0 0 * 1) (by
        rw [Int.mul_assoc, Int.mul_comm back]
        exact (Cg.refl _).mul hb)
      rw [Int.mul_one] at h2
      exact h2.symm
    · rw [if_pos rfl]
      refine (Cg.refl _).mul ?_
      rw [det_congr (B := ent ((M.eraseIdx p).map low)) fun i k hi hk => ?_]
      · exact Cg.refl _
      · rw [if_neg (by omega), if_pos rfl, row i (k + 1) hi]
        unfold ent
        rw [map_ent (by rw [List.length_eraseIdx]; split <;> omega), hlow _ (mem i hi) k hk]
theorem elim0 {M : List (List Int)} (h : ∀ r ∈ M, m ∣ r.getD 0 0) (hM : M.length = n + 1) : Cg m (det (n + 1) (ent M)) 0 := by
  rw [← zcol (n := n) (A := fun i k => if k = 0 then 0 else ent M i k) fun i _ => if_pos rfl]
  refine det_cg fun i k hi hk => ?_
  by_cases hk0 : k = 0
  · subst hk0
    rw [if_pos rfl]
    unfold Cg ent
    rw [Int.sub_zero]
    refine h _ ?_
    rw [List.getD_eq_getElem?_getD, List.getElem?_eq_getElem (by omega)]
    exact List.getElem_mem _
  · rw [if_neg hk0]
    exact Cg.refl _
theorem sN_list : ∀ {r : List Int} {n : Nat}, r.length = n → (((r.map fun x => if x < 0 then -x else x).sum : Int)) = ((sN n fun k => (r.getD k 0).natAbs : Nat) : Int) := by
  intro r
  induction r with
  | nil => intro n h; subst h; rfl
  | cons x r ih =>
    intro n h
    subst h
    have key : ∀ (n : Nat) (f : Nat → Nat), sN (n + 1) f = f 0 + sN n fun k => f (k + 1) := fun n => by
      induction n with
      | zero => intro f; show 0 + f 0 = f 0 + 0; omega
      | succ n ih2 =>
        intro f
        show sN (n + 1) f + f (n + 1) = f 0 + (sN n (fun k => f (k + 1)) + f (n + 1))
        rw [ih2]
        omega
    rw [List.map_cons, List.sum_cons, ih rfl, List.length_cons, key]
    show (if x < 0 then -x else x) + _ = (((x.natAbs + sN r.length fun k => (r.getD k 0).natAbs : Nat)) : Int)
    rw [Int.natCast_add]
    congr 1
    split <;> omega
end
end Dt

namespace Wd
end Wd

set_option linter.all false
namespace Wd
end Wd

set_option linter.all false
namespace Hg
variable {bg en : List Nat → List Nat}
inductive Rch (bg en : List Nat → List Nat) (ms : List (List Nat)) (p : List Nat) : List Nat → Prop
  | self : Rch bg en ms p p
  | fw {w : List Nat} : w ∈ ms → Rch bg en ms p (bg w) → Rch bg en ms p (en w)
  | bw {w : List Nat} : w ∈ ms → Rch bg en ms p (en w) → Rch bg en ms p (bg w)
noncomputable def Cl (bg en : List Nat → List Nat) (ls : List (List Nat)) (w : List Nat) : Prop := bg w ∈ ls ↔ en w ∈ ls
set_option genInjectivity false in
structure Pass (bg en : List Nat → List Nat) (ms : List (List Nat)) (p : List Nat) (fs : List (List Nat)) (i : Nat) (ls : List (List Nat)) : Prop where
  nd : ls.Nodup
  pre : fs <+: ls
  rch : ∀ z ∈ ls, Rch bg en ms p z
  cl : ls.length = fs.length → ∀ w ∈ ms.take i, Cl bg en fs w
theorem nd_len {α : Type} [BEq α] [LawfulBEq α] : ∀ {ls ms : List α}, ls.Nodup → (∀ z ∈ ls, z ∈ ms) → ls.length ≤ ms.length
  | [], _, _, _ => Nat.zero_le _
  | a :: ls, ms, h, hs => by
    rw [List.nodup_cons] at h
    have ha := hs a (List.mem_cons_self ..)
    have ih := nd_len (ls := ls) (ms := ms.erase a) h.2 fun z hz => (List.mem_erase_of_ne (fun e : z = a => h.1 (e ▸ hz))).mpr (hs z (List.mem_cons_of_mem _ hz))
    have := List.length_erase_of_mem ha
    have := List.length_pos_of_mem ha
    rw [List.length_cons]
    omega
end Hg

set_option linter.all false
namespace Dt
noncomputable def PrimeN (N : Nat) : Prop := 1 < N ∧ ∀ x, 0 < x → x < N → Nat.gcd x N = 1
section
variable {N F b d e n : Nat}
noncomputable def pm (N : Nat) : Nat → Nat → Nat → Nat
  | 0, _, _ => 1 % N
  | f + 1, b, e => if e = 0 then 1 % N else if e % 2 = 1 then b * pm N f (b * b % N) (e / 2) % N else pm N f (b * b % N) (e / 2)
theorem pow_mod2 (N b e : Nat) : (b * b % N) ^ e % N = b ^ (2 * e) % N := by
  rw [← Nat.pow_mod, Nat.pow_mul, Nat.pow_two]
theorem pm_eq : ∀ (f b e : Nat), e < 2 ^ f → pm N f b e = b ^ e % N
  | 0, b, e, h => by
    obtain rfl : e = 0 := by simpa using h
    rfl
  | f + 1, b, e, h => by
    unfold pm
    by_cases h0 : e = 0
    · rw [if_pos h0, h0, Nat.pow_zero]
    · rw [if_neg h0]
      have ih := pm_eq f (b * b % N) (e / 2) (by rw [Nat.pow_succ] at h; omega)
      by_cases h1 : e % 2 = 1
      · rw [if_pos h1, ih, Nat.mul_mod, Nat.mod_mod, pow_mod2, ← Nat.mul_mod, Nat.mul_comm, ← Nat.pow_succ]
        congr 2
        omega
      · rw [if_neg h1, ih, pow_mod2]
        congr 2
        omega
theorem ord_mod {b d : Nat} (hd : 1 < d) {x y : Nat} (hx : b ^ x % d = 1) (hy : b ^ y % d = 1) : b ^ (y % x) % d = 1 := by
  have e : b ^ y = (b ^ x) ^ (y / x) * b ^ (y % x) := by rw [← Nat.pow_mul, ← Nat.pow_add, Nat.div_add_mod]
  rw [e, Nat.mul_mod, Nat.pow_mod, hx, Nat.one_pow, Nat.mod_eq_of_lt hd, Nat.one_mul, Nat.mod_mod] at hy
  exact hy
theorem ord_gcd {b d : Nat} (hd : 1 < d) : ∀ (x y : Nat), b ^ x % d = 1 → b ^ y % d = 1 → b ^ (Nat.gcd x y) % d = 1 := fun x y => by
  induction x, y using Nat.gcd.induction with
  | H0 y => intro _ h; rw [Nat.gcd_zero_left]; exact h
  | H1 x y hx ih =>
    intro h1 h2
    rw [Nat.gcd_rec]
    exact ih (ord_mod hd h1 h2) h1
theorem order_prime (rs : List Nat) (hN : 1 < N) (hF : N ≤ F * F) (h1 : b ^ F % N = 1) (h2 : ∀ r ∈ rs, Nat.gcd (b ^ (F / r) % N + (N - 1)) N = 1) (h3 : ∀ g, g ∣ F → g < F → ∃ r ∈ rs, g ∣ F / r) : PrimeN N := by
  have key : ∀ d, d ∣ N → 1 < d → F < d := fun d hdN hd => by
    have hdF : b ^ F % d = 1 := by
      have := Nat.mod_mod_of_dvd (b ^ F) hdN
      rw [h1, Nat.mod_eq_of_lt hd] at this
      exact this.symm
    have no : ∀ e, 0 < e → e < F → b ^ e % d ≠ 1 := fun e he heF hc => by
      have hg := ord_gcd hd e F hc hdF
      have hgF := Nat.gcd_dvd_right e F
      have hge : Nat.gcd e F ≤ e := Nat.gcd_le_left F he
      obtain ⟨r, hr, hgr⟩ := h3 _ hgF (by omega)
      obtain ⟨q, hq⟩ := hgr
      have hFr : b ^ (F / r) % d = 1 := by rw [hq, Nat.pow_mul, Nat.pow_mod, hg, Nat.one_pow, Nat.mod_eq_of_lt hd]
      have hdd : d ∣ b ^ (F / r) % N + (N - 1) := by
        have e1 : b ^ (F / r) % N % d = 1 := by rw [Nat.mod_mod_of_dvd _ hdN]; exact hFr
        refine Nat.dvd_of_mod_eq_zero ?_
        have e2 : (b ^ (F / r) % N + (N - 1)) % d = (1 + (N - 1)) % d := by rw [Nat.add_mod, e1, Nat.add_mod_mod]
        rw [e2, show 1 + (N - 1) = N by omega]
        exact Nat.mod_eq_zero_of_dvd hdN
      have := Nat.dvd_gcd hdd hdN
      rw [h2 r hr] at this
      have := Nat.le_of_dvd (by omega) this
      omega
    have inj : ((List.range F).map fun i => b ^ i % d).Nodup := by
      refine List.pairwise_map.mpr (List.Pairwise.imp_of_mem (fun {i j} hi hj hij he => ?_) List.pairwise_lt_range)
      have hj : j < F := List.mem_range.mp hj
      refine no (j - i) (by omega) (by omega) ?_
      have a1 : b ^ (F - i) * b ^ i % d = 1 := by rw [← Nat.pow_add, Nat.sub_add_cancel (by omega)]; exact hdF
      have a2 : b ^ (F - i) * b ^ j % d = b ^ (j - i) % d := by
        rw [← Nat.pow_add, show F - i + j = F + (j - i) by omega, Nat.pow_add, Nat.mul_mod, hdF, Nat.one_mul, Nat.mod_mod]
      rw [← a2, Nat.mul_mod, ← he, ← Nat.mul_mod]
      exact a1
    have sub : ∀ z ∈ (List.range F).map (fun i => b ^ i % d), z ∈ List.range' 1 (d - 1) := fun z hz => by
      obtain ⟨i, hi, rfl⟩ := List.mem_map.mp hz
      have hi : i < F := List.mem_range.mp hi
      rw [List.mem_range'_1]
      have hlt := Nat.mod_lt (b ^ i) (show d > 0 by omega)
      have hnz : b ^ i % d ≠ 0 := fun z => by
        have a1 : b ^ (F - i) * b ^ i % d = 1 := by rw [← Nat.pow_add, Nat.sub_add_cancel (by omega)]; exact hdF
        rw [Nat.mul_mod, z, Nat.mul_zero, Nat.zero_mod] at a1
        cases a1
      omega
    have := Hg.nd_len inj sub
    rw [List.length_map, List.length_range, List.length_range'] at this
    omega
  refine ⟨hN, fun x h0 hx => ?_⟩
  refine Classical.byContradiction fun hg => ?_
  have hgN := Nat.gcd_dvd_right x N
  have hgx : Nat.gcd x N ≤ x := Nat.gcd_le_left N h0
  have hgp : 0 < Nat.gcd x N := Nat.gcd_pos_of_pos_left N h0
  obtain ⟨c, hc⟩ := hgN
  have k1 := key _ (Nat.gcd_dvd_right x N) (by omega)
  have hc1 : 1 < c := by
    rcases Nat.lt_or_ge 1 c with z | z
    · exact z
    · have : Nat.gcd x N * c ≤ Nat.gcd x N * 1 := Nat.mul_le_mul_left _ z
      omega
  have k2 := key c ⟨_, by rw [Nat.mul_comm]; exact hc⟩ hc1
  have := Nat.mul_lt_mul'' k1 k2
  omega
theorem pow2_dvd {k g : Nat} (h : g ∣ 2 ^ (k + 1)) (hl : g < 2 ^ (k + 1)) : g ∣ 2 ^ (k + 1) / 2 := by
  obtain ⟨c, hc⟩ := h
  have hc2 : c % 2 = 0 := by
    refine Classical.byContradiction fun z => ?_
    have hco : Nat.Coprime c 2 := by
      show Nat.gcd c 2 = 1
      rw [Nat.gcd_comm, Nat.gcd_rec, show c % 2 = 1 by omega]
      rfl
    have h1 := Nat.Coprime.pow_right (k + 1) hco
    have h2 : c ∣ 2 ^ (k + 1) := ⟨g, by rw [hc, Nat.mul_comm]⟩
    have h3 := Nat.Coprime.eq_one_of_dvd h1 h2
    rw [h3, Nat.mul_one] at hc
    omega
  refine ⟨c / 2, ?_⟩
  rw [hc]
  have : c = 2 * (c / 2) := by omega
  rw [Nat.mul_div_assoc _ (Nat.dvd_of_mod_eq_zero hc2)]
theorem proth (h k : Nat) (hh : h < 2 ^ (k + 1)) (h0 : 0 < h) (hp : pm (h * 2 ^ (k + 1) + 1) (k + 1 + k + 1) 3 (h * 2 ^ k) = h * 2 ^ (k + 1)) : PrimeN (h * 2 ^ (k + 1) + 1) := by
  have hpos : 0 < 2 ^ k := Nat.pow_pos (by decide)
  have hs : 2 ^ (k + 1) = 2 * 2 ^ k := by rw [Nat.pow_succ, Nat.mul_comm]
  have hN : 1 < h * 2 ^ (k + 1) + 1 := by have := Nat.mul_pos h0 (Nat.pow_pos (n := k + 1) (show 0 < 2 by decide)); omega
  have hlt : h * 2 ^ k < 2 ^ (k + 1 + k + 1) := by
    have := Nat.mul_lt_mul_of_lt_of_le hh (Nat.le_refl (2 ^ k)) hpos
    rw [← Nat.pow_add] at this
    exact Nat.lt_trans this (Nat.pow_lt_pow_right (by decide) (by omega))
  rw [pm_eq _ _ _ hlt] at hp
  refine order_prime (F := 2 ^ (k + 1)) (b := 3 ^ h) [2] hN ?_ ?_ ?_ fun g hg hl => ⟨2, by simp, pow2_dvd hg hl⟩
  · have := Nat.mul_le_mul_right (2 ^ (k + 1)) (show h + 1 ≤ 2 ^ (k + 1) from hh)
    rw [Nat.add_mul] at this
    have := Nat.pow_pos (n := k + 1) (show 0 < 2 by decide)
    omega
  · have e3 : 3 ^ (h * 2 ^ (k + 1)) = 3 ^ (h * 2 ^ k) * 3 ^ (h * 2 ^ k) := by
      rw [hs, show h * (2 * 2 ^ k) = h * 2 ^ k * 2 by rw [Nat.mul_comm 2, Nat.mul_assoc], Nat.pow_mul, Nat.pow_two]
    rw [← Nat.pow_mul, e3, Nat.mul_mod, hp]
    have e : ∀ x : Nat, 0 < x → x * x % (x + 1) = 1 := fun x hx => by
      rw [show x * x = 1 + (x + 1) * (x - 1) by
        have : x * x = (x - 1 + 1) * x := by rw [Nat.sub_add_cancel hx]
        have h2 : (x + 1) * (x - 1) = x * (x - 1) + (x - 1) := by rw [Nat.add_mul, Nat.one_mul]
        have h3 : x * x = x * (x - 1) + x := by
          have : x * x = x * (x - 1 + 1) := by rw [Nat.sub_add_cancel hx]
          rw [this, Nat.mul_add, Nat.mul_one]
        omega, Nat.add_mul_mod_self_left, Nat.mod_eq_of_lt (by omega)]
    exact e _ (Nat.mul_pos h0 (Nat.pow_pos (by decide)))
  · intro r hr
    obtain rfl := List.mem_singleton.mp hr
    rw [← Nat.pow_mul, hs, Nat.mul_div_cancel_left _ (by decide), ← hs, hp, Nat.add_sub_cancel]
    have e : ∀ x : Nat, x % 2 = 0 → Nat.gcd (x + x) (x + 1) = 1 := fun x hx => by
      have : Nat.gcd (x + x) (x + 1) ∣ 2 := by
        have a1 := Nat.gcd_dvd_left (x + x) (x + 1)
        have a2 := Nat.gcd_dvd_right (x + x) (x + 1)
        have a3 := Nat.dvd_sub (Nat.dvd_mul_left_of_dvd a2 2) a1
        rw [show 2 * (x + 1) - (x + x) = 2 by omega] at a3
        exact a3
      have hle := Nat.le_of_dvd (by decide) this
      have hpos := Nat.gcd_pos_of_pos_right (x + x) (show 0 < x + 1 by omega)
      rcases Nat.lt_or_ge (Nat.gcd (x + x) (x + 1)) 2 with z | z
      · omega
      · have e2 : Nat.gcd (x + x) (x + 1) = 2 := by omega
        have a2 := Nat.gcd_dvd_right (x + x) (x + 1)
        rw [e2] at a2
        omega
    refine e _ ?_
    rw [hs, ← Nat.mul_assoc, Nat.mul_comm h 2, Nat.mul_assoc]
    exact Nat.mul_mod_right ..
theorem pr133 : PrimeN (133 * 2 ^ 192 + 1) := proth 133 191 (by decide +kernel) (by decide) (by decide +kernel)
end
end Dt

set_option linter.all false
namespace Dt
section
variable {N F b d e n : Nat}
noncomputable def primeB (N : Nat) : Bool := decide (1 < N) && (List.range N).all fun x => x == 0 || Nat.gcd x N == 1
theorem primeB_of (h : primeB N = true) : PrimeN N := by
  unfold primeB at h
  rw [Bool.and_eq_true, decide_eq_true_iff, List.all_eq_true] at h
  refine ⟨h.1, fun x h0 hx => ?_⟩
  have := h.2 x (List.mem_range.mpr hx)
  rw [Bool.or_eq_true, beq_iff_eq, beq_iff_eq] at this
  omega
theorem PrimeN.cop {r c : Nat} (h : PrimeN r) (hc : ¬ r ∣ c) : Nat.Coprime c r := by
  show Nat.gcd c r = 1
  rw [Nat.gcd_comm, Nat.gcd_rec]
  have h1 := h.1
  exact h.2 (c % r) (Nat.pos_of_ne_zero fun z => hc (Nat.dvd_of_mod_eq_zero z)) (Nat.mod_lt _ (by omega))
theorem dvd_list : ∀ (rs : List Nat), (∀ r ∈ rs, PrimeN r) → ∀ c, c ∣ rs.prod → c ≠ 1 → ∃ r ∈ rs, r ∣ c
  | [], _, c, h, h1 => absurd (Nat.eq_one_of_dvd_one h) h1
  | r :: rs, hp, c, h, h1 => by
    by_cases hr : r ∣ c
    · exact ⟨r, by simp, hr⟩
    · rw [List.prod_cons] at h
      obtain ⟨r', h2, h3⟩ := dvd_list rs (fun x hx => hp x (List.mem_cons_of_mem _ hx)) c (Nat.Coprime.dvd_of_dvd_mul_left ((hp r (by simp)).cop hr) h) h1
      exact ⟨r', List.mem_cons_of_mem _ h2, h3⟩
theorem mers : PrimeN 2305843009213693951 := by
  have ps : ∀ r ∈ [61, 151, 331, 1321], PrimeN r := fun r hr => primeB_of (by
    have : ∀ r ∈ [61, 151, 331, 1321], primeB r = true := by decide +kernel
    exact this r hr)
  refine order_prime (F := 4027518961) (b := 429339995019680672) [61, 151, 331, 1321] (by decide) (by decide) ?_ ?_ fun g hg hl => ?_
  · rw [← pm_eq 32 _ _ (by decide)]
    decide +kernel
  · intro r hr
    have key : ∀ r ∈ [61, 151, 331, 1321], Nat.gcd (pm 2305843009213693951 32 429339995019680672 (4027518961 / r) + (2305843009213693951 - 1)) 2305843009213693951 = 1 := by decide +kernel
    rw [← pm_eq 32 _ _ (Nat.lt_of_le_of_lt (Nat.div_le_self _ _) (by decide))]
    exact key r hr
  · obtain ⟨c, hc⟩ := hg
    have hF : ([61, 151, 331, 1321] : List Nat).prod = 4027518961 := by decide
    obtain ⟨r, hr, q, rfl⟩ := dvd_list _ ps c (by rw [hF]; exact ⟨g, by rw [hc, Nat.mul_comm]⟩) fun z => by rw [z, Nat.mul_one] at hc; omega
    have h0 := (ps r hr).1
    refine ⟨r, hr, q, ?_⟩
    rw [hc, show g * (r * q) = r * (g * q) by rw [← Nat.mul_assoc, Nat.mul_comm g r, Nat.mul_assoc], Nat.mul_div_cancel_left _ (by omega)]
theorem pr211 : PrimeN (211 * 2 ^ 192 + 1) := proth 211 191 (by decide +kernel) (by decide) (by decide +kernel)
theorem pr598 : PrimeN (598 * 2 ^ 192 + 1) := proth 598 191 (by decide +kernel) (by decide) (by decide +kernel)
theorem pr652 : PrimeN (652 * 2 ^ 192 + 1) := proth 652 191 (by decide +kernel) (by decide) (by decide +kernel)
theorem pr721 : PrimeN (721 * 2 ^ 192 + 1) := proth 721 191 (by decide +kernel) (by decide) (by decide +kernel)
theorem pr850 : PrimeN (850 * 2 ^ 192 + 1) := proth 850 191 (by decide +kernel) (by decide) (by decide +kernel)
theorem pr1282 : PrimeN (1282 * 2 ^ 192 + 1) := proth 1282 191 (by decide +kernel) (by decide) (by decide +kernel)
set_option genInjectivity false in
structure Euc (pr : Nat) (num : Int) (last rest : Nat) (lt t : Int) : Prop where
  pos : 1 ≤ rest
  lp : 1 ≤ last
  cop : Nat.gcd rest last = 1
  ct : Cg pr (t * num) rest
  cl : Cg pr (lt * num) last
  bd : t.natAbs * last + lt.natAbs * rest ≤ pr
theorem Euc.init {pr : Nat} {num : Int} {r : Nat} (h : PrimeN pr) (hr : num % pr = r) (h0 : r ≠ 0) : Euc pr num pr r 0 1 := by
  have h1 := h.1
  have hlt : (r : Int) < pr := by rw [← hr]; exact Int.emod_lt_of_pos _ (by omega)
  refine ⟨by omega, by omega, h.2 r (by omega) (by omega), ?_, ?_, by simp⟩
  · rw [Int.one_mul, ← hr]
    exact (cg_mod num).symm
  · rw [Int.zero_mul]
    unfold Cg
    rw [Int.zero_sub]
    exact Int.dvd_neg.mpr (Int.dvd_refl _)
theorem Euc.step {pr : Nat} {num : Int} {last rest : Nat} {lt t : Int} (h : Euc pr num last rest lt t) (h1 : rest ≠ 1) : Euc pr num rest (last % rest) t (lt - (last / rest : Nat) * t) := by
  have hp := h.pos
  have hd := Nat.div_add_mod last rest
  have hd2 : ((last : Nat) : Int) = rest * (last / rest : Nat) + (last % rest : Nat) := by exact_mod_cast hd.symm
  refine ⟨?_, hp, ?_, ?_, h.ct, ?_⟩
  · refine Nat.pos_of_ne_zero fun z => h1 ?_
    have := h.cop
    rw [Nat.gcd_eq_left (Nat.dvd_of_mod_eq_zero z)] at this
    exact this
  · rw [← Nat.gcd_rec]
    exact h.cop
  · have e : (lt - (last / rest : Nat) * t) * num = lt * num - (last / rest : Nat) * (t * num) := by rw [Int.sub_mul, Int.mul_assoc]
    rw [e, show ((last % rest : Nat) : Int) = (last : Int) - (last / rest : Nat) * (rest : Int) by rw [hd2, Int.mul_comm]; omega]
    exact h.cl.sub ((Cg.refl _).mul h.ct)
  · have hb := h.bd
    have a1 : (lt - (last / rest : Nat) * t).natAbs ≤ lt.natAbs + (last / rest) * t.natAbs := by
      have := Int.natAbs_sub_le lt ((last / rest : Nat) * t)
      rw [Int.natAbs_mul, Int.natAbs_natCast] at this
      exact this
    have a2 := Nat.mul_le_mul_right rest a1
    rw [Nat.add_mul] at a2
    have a3 : t.natAbs * last = (last / rest) * t.natAbs * rest + t.natAbs * (last % rest) := by
      conv => lhs; rw [← hd, Nat.mul_add, ← Nat.mul_assoc, Nat.mul_comm t.natAbs rest, Nat.mul_assoc, Nat.mul_comm rest]
      rw [Nat.mul_comm t.natAbs]
    omega
theorem Euc.tle {pr : Nat} {num : Int} {last rest : Nat} {lt t : Int} (h : Euc pr num last rest lt t) : t.natAbs ≤ pr ∧ lt.natAbs ≤ pr := by
  have hb := h.bd
  have h1 := Nat.mul_le_mul_left t.natAbs h.lp
  have h2 := Nat.mul_le_mul_left lt.natAbs h.pos
  omega
theorem Euc.fin {pr : Nat} {num : Int} {last rest : Nat} {lt t : Int} (h : Euc pr num last rest lt t) (h1 : rest = 1) : Cg pr (t % pr * num) 1 := by
  have := h.ct
  rw [h1] at this
  exact ((cg_mod t).mul (Cg.refl num)).trans this
theorem crt {M1 pr : Nat} {D res r2 inv : Int} (hM : 0 < M1) (hp : 0 < pr) (h1 : Cg M1 res D) (h2 : Cg pr r2 D) (hi : Cg pr (inv * M1) 1) (h0 : 0 ≤ res ∧ res < M1) : Cg (M1 * pr : Nat) (res + (r2 - res) * inv % pr * M1) D ∧ 0 ≤ res + (r2 - res) * inv % pr * M1 ∧ res + (r2 - res) * inv % pr * M1 < (M1 * pr : Nat) := by
  have e0 := Int.emod_nonneg ((r2 - res) * inv) (show (pr : Int) ≠ 0 by omega)
  have e1 := Int.emod_lt_of_pos ((r2 - res) * inv) (show (0 : Int) < pr by omega)
  have hc := cg_mod (m := pr) ((r2 - res) * inv)
  generalize (r2 - res) * inv % pr = q at e0 e1 hc
  refine ⟨?_, ?_, ?_⟩
  · have a1 : Cg M1 (res + q * M1) D := by
      have : Cg M1 (q * M1) 0 := by
        unfold Cg
        rw [Int.sub_zero]
        exact Int.dvd_mul_left ..
      have := h1.add this
      rwa [Int.add_zero] at this
    have a2 : Cg pr (res + q * M1) D := by
      have b1 : Cg pr (q * M1) (r2 - res) := by
        refine (hc.mul (Cg.refl (M1 : Int))).trans ?_
        rw [Int.mul_assoc]
        have := (Cg.refl (m := pr) (r2 - res)).mul hi
        rwa [Int.mul_one] at this
      have := (Cg.refl (m := pr) res).add b1
      rw [show res + (r2 - res) = r2 by omega] at this
      exact this.trans h2
    unfold Cg at a1 a2 hi ⊢
    obtain ⟨x, hx⟩ := a1
    rw [hx] at a2 ⊢
    have a3 : (pr : Int) ∣ x := by
      have c1 : (pr : Int) ∣ inv * (M1 * x) := Int.dvd_mul_of_dvd_right a2
      have c2 : (pr : Int) ∣ (inv * M1 - 1) * x := Int.dvd_mul_of_dvd_left hi
      have := Int.dvd_sub c1 c2
      rw [show inv * (M1 * x) - (inv * M1 - 1) * x = x by rw [Int.sub_mul, Int.mul_assoc]; omega] at this
      exact this
    obtain ⟨y, rfl⟩ := a3
    refine ⟨y, ?_⟩
    rw [← Int.mul_assoc, Int.natCast_mul]
  · have := Int.mul_nonneg e0 (show (0 : Int) ≤ M1 by omega)
    omega
  · have a := Int.mul_le_mul_of_nonneg_right (show q ≤ (pr : Int) - 1 by omega) (show (0 : Int) ≤ M1 by omega)
    rw [Int.sub_mul, Int.one_mul] at a
    rw [Int.natCast_mul, Int.mul_comm (M1 : Int)]
    omega
theorem from_rest {M : Nat} {D res bd : Int} (hm : 2 * bd < M) (hD : -bd ≤ D ∧ D ≤ bd) (h : Cg M res D) (h0 : 0 ≤ res ∧ res < M) : (if bd < res then res - M else res) = D := by
  obtain ⟨k, hk⟩ := h
  have k0 : k = 0 ∨ k = 1 := by
    rcases Int.lt_or_le k 0 with z | z
    · have := Int.mul_le_mul_of_nonneg_left (show k ≤ -1 by omega) (show (0 : Int) ≤ M by omega)
      omega
    · rcases Int.lt_or_le 1 k with y | y
      · have := Int.mul_le_mul_of_nonneg_left (show 2 ≤ k by omega) (show (0 : Int) ≤ M by omega)
        omega
      · omega
  rcases k0 with rfl | rfl
  · rw [Int.mul_zero] at hk
    rw [if_neg (by omega)]
    omega
  · rw [Int.mul_one] at hk
    rw [if_pos (by omega)]
    omega
end
end Dt

set_option linter.all false
namespace Dt
theorem rest_step {pr p : Nat} {rest top0 inv dN dM D : Int} (hr : 0 < rest ∧ rest < pr) (hi : Cg pr (inv * top0) 1) (hE : Cg pr dN (sg p * (top0 * dM))) (hD : Cg pr (rest * dN) D) :
    (0 < (if p % 2 = 1 then (pr : Int) - rest * top0 % pr else rest * top0 % pr) ∧ (if p % 2 = 1 then (pr : Int) - rest * top0 % pr else rest * top0 % pr) < pr) ∧ Cg pr ((if p % 2 = 1 then (pr : Int) - rest * top0 % pr else rest * top0 % pr) * dM) D := by
  have h0 := Int.emod_nonneg (rest * top0) (show (pr : Int) ≠ 0 by omega)
  have h1 := Int.emod_lt_of_pos (rest * top0) (show (0 : Int) < pr by omega)
  have hc := cg_mod (m := pr) (rest * top0)
  have hnz : rest * top0 % pr ≠ 0 := fun z => by
    rw [z] at hc
    have a1 := (hc.mul (Cg.refl (m := pr) inv))
    rw [Int.zero_mul, Int.mul_assoc, Int.mul_comm top0] at a1
    have a2 := (Cg.refl (m := pr) rest).mul hi
    rw [Int.mul_one] at a2
    have a3 := a1.trans a2
    unfold Cg at a3
    rw [Int.zero_sub] at a3
    have := Int.le_of_dvd hr.1 (Int.dvd_neg.mp a3)
    omega
  generalize rest * top0 % pr = x at h0 h1 hc hnz
  have key : Cg pr (x * dM) (rest * (top0 * dM)) := by
    rw [← Int.mul_assoc]
    exact hc.mul (Cg.refl _)
  have hE2 := ((Cg.refl (m := pr) rest).mul hE).symm.trans hD
  by_cases hp : p % 2 = 1
  · rw [if_pos hp]
    have hs : sg p = -1 := by unfold sg; rw [if_neg (by omega)]
    rw [hs] at hE2
    refine ⟨⟨by omega, by omega⟩, ?_⟩
    have a1 : Cg pr (((pr : Int) - x) * dM) (-(x * dM)) := by
      unfold Cg
      rw [Int.sub_mul, show (pr : Int) * dM - x * dM - -(x * dM) = pr * dM by omega]
      exact Int.dvd_mul_right ..
    refine a1.trans (key.neg.trans ?_)
    rw [show -(rest * (top0 * dM)) = rest * (-1 * (top0 * dM)) by rw [Int.neg_mul, Int.one_mul, Int.mul_neg]]
    exact hE2
  · rw [if_neg hp]
    have hs : sg p = 1 := by unfold sg; rw [if_pos (by omega)]
    rw [hs, Int.one_mul] at hE2
    exact ⟨⟨by omega, h1⟩, key.trans hE2⟩
end Dt
namespace Dt
noncomputable def pL : List Nat → Nat
  | [] => 1
  | x :: l => x * pL l
theorem pL_snoc (x : Nat) : ∀ l : List Nat, pL (l ++ [x]) = pL l * x
  | [] => by show x * 1 = 1 * x; omega
  | y :: l => by
    show y * pL (l ++ [x]) = y * pL l * x
    rw [pL_snoc x l, Nat.mul_assoc]
theorem pL_le {R : Nat} : ∀ {l : List Nat}, (∀ x ∈ l, x ≤ R) → pL l ≤ R ^ l.length
  | [], _ => Nat.le_refl _
  | y :: l, h => by
    show y * pL l ≤ R ^ (l.length + 1)
    rw [Nat.pow_succ, Nat.mul_comm]
    exact Nat.mul_le_mul (pL_le fun x hx => h x (List.mem_cons_of_mem _ hx)) (h y (List.mem_cons_self ..))
noncomputable def rs (n : Nat) (r : List Int) : Nat := sN n fun k => (r.getD k 0).natAbs
theorem pL_pN (n : Nat) : ∀ M : List (List Int), pN M.length (fun i => sN n fun k => (ent M i k).natAbs) = pL (M.map (rs n))
  | [] => rfl
  | r :: M => by
    show (sN n fun k => (ent (r :: M) 0 k).natAbs) * pN M.length (fun i => sN n fun k => (ent (r :: M) (i + 1) k).natAbs) = rs n r * pL (M.map (rs n))
    rw [← pL_pN n M]
    rfl
theorem sN_mem {f : Nat → Nat} : ∀ {n k : Nat}, k < n → f k ≤ sN n f
  | n + 1, k, h => by
    show f k ≤ sN n f + f n
    rcases Nat.lt_or_ge k n with z | z
    · have := sN_mem (f := f) z
      omega
    · rw [show k = n by omega]
      omega
theorem rs_mem {n : Nat} {r : List Int} (hl : r.length = n) {x : Int} (hx : x ∈ r) : x.natAbs ≤ rs n r := by
  obtain ⟨k, hk⟩ := List.getElem?_of_mem hx
  have hkl := (List.getElem?_eq_some_iff.mp hk).1
  have := sN_mem (f := fun k => (r.getD k 0).natAbs) (n := n) (k := k) (by omega)
  rw [List.getD_eq_getElem?_getD, hk] at this
  exact this
theorem det_le {M : List (List Int)} {n : Nat} (h : M.length = n) : (det n (ent M)).natAbs ≤ pL (M.map (rs n)) := by
  rw [← pL_pN, h]
  exact det_bound
noncomputable def kn : List Nat := [133, 211, 598, 652, 721, 850, 1282]
noncomputable def pr (j : Nat) : Nat := kn.getD j 0 * 2 ^ 192 + 1
noncomputable def md : Nat → Nat
  | 0 => 2305843009213693951
  | j + 1 => md j * pr j
theorem pr_prime : ∀ {j : Nat}, j < 7 → PrimeN (pr j)
  | 0, _ => pr133
  | 1, _ => pr211
  | 2, _ => pr598
  | 3, _ => pr652
  | 4, _ => pr721
  | 5, _ => pr850
  | 6, _ => pr1282
  | j + 7, h => by omega
theorem pr_ok : ∀ j, j < 7 → pr j < 2 ^ 250 ∧ md j % pr j ≠ 0 ∧ md j < 2 ^ 1600 ∧ md (j + 1) < 2 ^ 1800 := by decide +kernel
end Dt

set_option linter.all false
namespace Dt
section
variable {n m p q i j k l : Nat} {A B T U : Mx} {f g : Nat → Int} {c : Nat → Int}
theorem det_zrow (h : i < n) : det n (setR A i fun _ => 0) = 0 := by
  have e := det_lin (c := 1) (A := A) (u := fun _ => 0) (v := fun _ => 0) h
  rw [show (fun k : Nat => (0 : Int) + 1 * 0) = fun _ => 0 from rfl] at e
  omega
theorem comb0 (hm : m < n) : ∀ {l : Nat}, l ≤ m → det n (setR A m fun j => sumN l fun k => c k * A k j) = 0
  | 0, _ => det_zrow hm
  | l + 1, h => by
    have e := det_lin (c := c l) (A := A) (u := fun j => sumN l fun k => c k * A k j) (v := A l) hm
    rw [comb0 hm (l := l) (by omega), alt_far (m - (l + 1)) (i := l) (A := setR A m (A l)) (by omega) fun k _ => ?_, Int.mul_zero, Int.add_zero] at e
    · exact e
    · rw [setR_ne (by omega), show l + 1 + (m - (l + 1)) = m by omega, setR_at]
theorem comb (hm : m < n) : det n (setR A m fun j => sumN (m + 1) fun k => c k * A k j) = c m * det n A := by
  have e := det_lin (c := c m) (A := A) (u := fun j => sumN m fun k => c k * A k j) (v := A m) hm
  rw [comb0 hm (Nat.le_refl _), det_self (A m) fun _ => rfl, Int.zero_add] at e
  exact e
noncomputable def pI : Nat → (Nat → Int) → Int
  | 0, _ => 1
  | n + 1, f => pI n f * f n
theorem pI_first : ∀ {n : Nat} {f : Nat → Int}, pI (n + 1) f = f 0 * pI n fun i => f (i + 1)
  | 0, f => by show 1 * f 0 = f 0 * 1; omega
  | n + 1, f => by
    show pI (n + 1) f * f (n + 1) = f 0 * (pI n (fun i => f (i + 1)) * f (n + 1))
    rw [pI_first (n := n), Int.mul_assoc]
theorem pI_congr : ∀ {n : Nat} {f g : Nat → Int}, (∀ i, i < n → f i = g i) → pI n f = pI n g
  | 0, _, _, _ => rfl
  | n + 1, f, g, h => by
    show pI n f * f n = pI n g * g n
    rw [pI_congr (n := n) fun i hi => h i (by omega), h n (by omega)]
theorem pI_one : ∀ {n : Nat} {f : Nat → Int}, (∀ i, i < n → f i = 1) → pI n f = 1
  | 0, _, _ => rfl
  | n + 1, f, h => by
    show pI n f * f n = 1
    rw [pI_one (n := n) fun i hi => h i (by omega), h n (by omega)]
    rfl
theorem sum_trunc : ∀ {n m : Nat}, m ≤ n → (∀ k, m ≤ k → k < n → f k = 0) → sumN n f = sumN m f
  | 0, m, h, _ => by rw [show m = 0 by omega]
  | n + 1, m, h, hz => by
    by_cases e : m = n + 1
    · rw [e]
    · show sumN n f + f n = sumN m f
      rw [sum_trunc (n := n) (m := m) (by omega) (fun k h1 h2 => hz k h1 (by omega)), hz n (by omega) (by omega)]
      omega
theorem det_lower (hT : ∀ i k, i < k → k < n → T i k = 0) : ∀ {m : Nat}, m ≤ n → det n (fun i j => if i < n - m then B i j else sumN n fun k => T i k * B k j) = pI m (fun i => T (n - 1 - i) (n - 1 - i)) * det n B
  | 0, _ => by
    show _ = 1 * _
    rw [Int.one_mul]
    exact det_congr fun i k hi _ => by rw [if_pos (by omega)]
  | m + 1, h => by
    have ih := det_lower hT (m := m) (by omega)
    show _ = pI m _ * T (n - 1 - m) (n - 1 - m) * det n B
    rw [Int.mul_comm (pI m _), Int.mul_assoc, ← ih, ← comb (c := fun k => T (n - 1 - m) k) (show n - 1 - m < n by omega)]
    refine det_congr fun i j hi hj => ?_
    unfold setR
    by_cases e : i = n - 1 - m
    · subst e
      rw [if_pos rfl, if_neg (by omega), sum_trunc (m := n - 1 - m + 1) (by omega) fun k h1 h2 => by rw [hT _ k (by omega) h2, Int.zero_mul]]
      exact sum_congr fun k hk => by rw [if_pos (by omega)]
    · rw [if_neg e]
      dsimp only
      by_cases h1 : i < n - (m + 1)
      · rw [if_pos h1, if_pos (by omega)]
      · rw [if_neg h1, if_neg (by omega)]
theorem pI_rev : ∀ {n : Nat} {f : Nat → Int}, pI n (fun i => f (n - 1 - i)) = pI n f
  | 0, _ => rfl
  | n + 1, f => by
    rw [pI_first (n := n)]
    show f (n + 1 - 1 - 0) * pI n (fun i => f (n + 1 - 1 - (i + 1))) = pI n f * f n
    rw [show n + 1 - 1 - 0 = n by omega, Int.mul_comm, ← pI_rev (n := n)]
    congr 1
    exact pI_congr fun i hi => by congr 1; omega
theorem det_prod (hT : ∀ i k, i < k → k < n → T i k = 0) : det n (fun i j => sumN n fun k => T i k * B k j) = pI n (fun i => T i i) * det n B := by
  rw [← pI_rev (f := fun i => T i i), ← det_lower (B := B) hT (Nat.le_refl n)]
  exact det_congr fun i j hi _ => by rw [if_neg (by omega)]
theorem det_upper : ∀ {n : Nat} {U : Mx}, (∀ i k, k < i → i < n → U i k = 0) → det n U = pI n fun i => U i i
  | 0, _, _ => rfl
  | n + 1, U, h => by
    rw [col0 fun i hi => h (i + 1) 0 (by omega) (by omega), det_upper (n := n) fun i k h1 h2 => h (i + 1) (k + 1) (by omega) (by omega), pI_first]
theorem swap2 (hpq : p < q) (h : q < n) : det n (setR (setR A p (A q)) q (A p)) = - det n A := by
  have z : ∀ w : Nat → Int, det n (setR (setR A p w) q w) = 0 := fun w => alt_far (q - (p + 1)) (i := p) (A := setR (setR A p w) q w) (by omega) fun k _ => by rw [setR_ne (by omega), setR_at, show p + 1 + (q - (p + 1)) = q by omega, setR_at]
  have l2 : ∀ x y y' : Nat → Int, det n (setR (setR A p x) q fun k => y k + y' k) = det n (setR (setR A p x) q y) + det n (setR (setR A p x) q y') := fun x y y' => det_add h
  have l1 : ∀ x x' y : Nat → Int, det n (setR (setR A p fun k => x k + x' k) q y) = det n (setR (setR A p x) q y) + det n (setR (setR A p x') q y) := fun x x' y => by
    rw [setR_comm (by omega), setR_comm (u := x) (by omega), setR_comm (u := x') (by omega)]
    exact det_add (by omega)
  have e0 := z fun k => A p k + A q k
  rw [l2, l1, l1, z, z] at e0
  have e1 : det n (setR (setR A p (A p)) q (A q)) = det n A := by
    rw [det_self _ (fun k => by rw [setR_ne (by omega)]), det_self _ (fun k => rfl)]
  rw [e1] at e0
  omega
end
end Dt

set_option Elab.async false
set_option linter.all false
set_option maxRecDepth 100000
set_option maxHeartbeats 4000000

namespace L2
open PySem PySem.Spec PyProof.Rows

noncomputable def tx (l : List Nat) : Str := ⟨l.toArray⟩
noncomputable abbrev T (l : List Nat) : V := .str (tx l)
section
variable {X : Cx}
theorem op_eq_I : OpR X (compareOp .Eq) (fun x y H Q => ∃ a, x = .int a ∧ ∃ b, y = .int b ∧ Q (.bl (decide (a = b))) H) := by
  intro pins s σ H x y v u Q I rx ry h
  obtain ⟨a, rfl, b, rfl, q⟩ := h
  exact op_eq pins s σ H _ _ v u Q I rx ry ⟨rfl, by rw [dec_int, Bool.beq_eq_decide_eq]; exact q⟩
theorem op_ne_I : OpR X (compareOp .NotEq) (fun x y H Q => ∃ a, x = .int a ∧ ∃ b, y = .int b ∧ Q (.bl (!decide (a = b))) H) := by
  intro pins s σ H x y v u Q I rx ry h
  obtain ⟨a, rfl, b, rfl, q⟩ := h
  exact op_ne pins s σ H _ _ v u Q I rx ry ⟨rfl, by rw [dec_int, Bool.beq_eq_decide_eq]; exact q⟩
end
end L2
namespace L2
end L2

set_option Elab.async false
set_option linter.all false
set_option maxRecDepth 100000
set_option maxHeartbeats 4000000

namespace L2
open PySem PySem.Spec PyProof.Rows

set_option genInjectivity false in
structure CompSc (N N' : List Str) (sc scope : Scope) (x : Str) : Prop where
  kind : scope.kind = .function
  cell : ∀ y ∈ scope.names, y.2 ≠ .cell
  names : ∀ y ∈ scope.names, y.2 = .local → scope.names.lookup y.1 = some .local
  var : scope.names.lookup x = some .local
  ok : ∀ y ∈ scope.names, y.2 = .free → sc.names.lookup y.1 = some .cell ∨ sc.names.lookup y.1 = some .free
  hd : N'[0]? = some x
  len : N'.length = N.length + 1
  sub : ∀ i, i < N.length → N'[i + 1]? = N[i]? ∨ (N'[i + 1]?.map fun y => scope.names.lookup y) = some none
  noe : scope.names.lookup ("" : Str) = none
  nol : ∀ y ∈ N'.tail, scope.names.lookup y ≠ some .local
  nd : N'.Nodup

noncomputable def closOf (cells : List (Str × Addr)) : List (Str × NameKind) → List (Str × Addr) → List (Str × Addr)
  | [], acc => acc
  | (n, k) :: r, acc => closOf cells r (if k == .free then (n, (cells.lookup n).getD 0) :: acc else acc)
theorem clos_sound {cells : List (Str × Addr)} {y : Str} {c : Addr} : ∀ (names : List (Str × NameKind)) (acc : List (Str × Addr)), (∀ z ∈ names, z.2 = .free → ∃ c, cells.lookup z.1 = some c) →
    (acc.lookup y = some c → cells.lookup y = some c) → (closOf cells names acc).lookup y = some c → cells.lookup y = some c
  | [], acc, _, ha, h => ha h
  | (n, k) :: r, acc, hz, ha, h => by
    unfold closOf at h
    refine clos_sound r _ (fun z hm => hz z (List.mem_cons_of_mem _ hm)) (fun q => ?_) h
    split at q
    · rename_i hk
      obtain ⟨c', e⟩ := hz (n, k) List.mem_cons_self (by simpa using hk)
      rw [List.lookup_cons] at q
      split at q
      · rename_i he
        have : y = n := by simpa using he
        subst this
        rw [e] at q
        rw [e]
        exact q
      · exact ha q
    · exact ha q
theorem clos_acc {cells : List (Str × Addr)} {y : Str} : ∀ (names : List (Str × NameKind)) (acc : List (Str × Addr)), (∃ c, acc.lookup y = some c) → ∃ c, (closOf cells names acc).lookup y = some c
  | [], acc, h => h
  | (n, k) :: r, acc, ⟨c, h⟩ => by
    unfold closOf
    refine clos_acc r _ ?_
    split
    · rw [List.lookup_cons]
      split
      · exact ⟨_, rfl⟩
      · exact ⟨c, h⟩
    · exact ⟨c, h⟩
theorem clos_has {cells : List (Str × Addr)} {y : Str} : ∀ (names : List (Str × NameKind)) (acc : List (Str × Addr)), (y, NameKind.free) ∈ names → ∃ c, (closOf cells names acc).lookup y = some c
  | (n, k) :: r, acc, h => by
    unfold closOf
    rcases List.mem_cons.mp h with e | h
    · cases e
      refine clos_acc r _ ⟨(cells.lookup y).getD 0, ?_⟩
      simp
    · exact clos_has r _ h
theorem clos_eq {scope : Scope} {env : Env} (h : ∀ z ∈ scope.names, z.2 = .free → ∃ c, env.cells.lookup z.1 = some c) : closureFor scope env = pure (closOf env.cells scope.names []) := by
  have gen : ∀ (names : List (Str × NameKind)) (acc : List (Str × Addr)), (∀ z ∈ names, z.2 = .free → ∃ c, env.cells.lookup z.1 = some c) →
      (forIn names acc fun (x : Str × NameKind) (r : List (Str × Addr)) => (if (x.2 == NameKind.free) = true then (do let a ← cellOf env x.1; pure (ForInStep.yield ((x.1, a) :: r))) else pure (ForInStep.yield r) : Sem (ForInStep (List (Str × Addr))))) = (pure (closOf env.cells names acc) : Sem (List (Str × Addr))) := by
    intro names
    induction names with
    | nil => intro acc _; rfl
    | cons z r ih =>
      intro acc hz
      obtain ⟨n, k⟩ := z
      rw [List.forIn_cons]
      unfold closOf
      by_cases hk : (k == NameKind.free) = true
      · obtain ⟨c, e⟩ := hz (n, k) List.mem_cons_self (by simpa using hk)
        have e' : env.cells.lookup n = some c := e
        simp only [hk, if_true, cellOf, e', pure_bind, Option.getD_some]
        exact ih _ fun z hm => hz z (List.mem_cons_of_mem _ hm)
      · simp only [hk, Bool.false_eq_true, if_false, pure_bind]
        exact ih _ fun z hm => hz z (List.mem_cons_of_mem _ hm)
  have g := gen scope.names [] h
  unfold closureFor
  refine Eq.trans ?_ (congrArg (fun (m : Sem (List (Str × Addr))) => m >>= fun cs => pure cs) g)
  rfl
theorem relabel_lookup (scope : Scope) (env : Env) (y : Str) : (relabel scope env).names.lookup y = (scope.names.lookup y).map fun k => if (k == NameKind.free && env.scope.kind == .function && env.kindOf y == some .cell) = true then NameKind.cell else k := by
  unfold relabel
  show List.lookup y (scope.names.map fun (n, k) => if (k == NameKind.free && env.scope.kind == .function && env.kindOf n == some .cell) = true then (n, NameKind.cell) else (n, k)) = _
  induction scope.names with
  | nil => rfl
  | cons z r ih =>
    obtain ⟨n, k⟩ := z
    rw [List.map_cons]
    by_cases hy : (y == n) = true
    · have e : y = n := by simpa using hy
      subst e
      by_cases hc : (k == NameKind.free && env.scope.kind == .function && env.kindOf y == some .cell) = true
      · simp only [hc, if_true, List.lookup_cons, beq_self_eq_true, Option.map_some]
      · simp only [hc, if_false, List.lookup_cons, beq_self_eq_true, Option.map_some, Bool.false_eq_true]
    · have hy' : (y == n) = false := by simpa using hy
      by_cases hc : (k == NameKind.free && env.scope.kind == .function && env.kindOf n == some .cell) = true
      · simp only [hc, if_true, List.lookup_cons, hy']
        exact ih
      · simp only [hc, if_false, List.lookup_cons, hy', Bool.false_eq_true]
        exact ih
theorem lookup_mem {κ : Type} : ∀ {l : List (Str × κ)} {y : Str} {k : κ}, l.lookup y = some k → (y, k) ∈ l := fun h => PySem.mem_of_lookup h

noncomputable abbrev cxComp (X : Cx) (N' : List Str) (scope : Scope) (cl : List (Str × Addr)) (C : Addr) (s : Shared) (H : Hp) (fp : List Addr) : Cx :=
  { X with env := compEnvC scope cl C X.env, N := N', s₀ := s, H₀ := H, outer := X.stack, stack := X.stack, ex := fp, fn := fun _ => false, xe := fun _ _ => False }

noncomputable abbrev tstF (cds : List Expr) (env : Env) : Sem Bool := forIn cds true fun c r => if r = true then do let ok ← isTrue c env (eval c env); pure (ForInStep.yield ok) else pure (ForInStep.yield r)
noncomputable def PTL (X : Cx) (cds : List Expr) (t : TT) : Prop :=
  ∀ (pins : List (Addr × Obj)) (s : Shared) (σ : St) (H : Hp) (Q : Bool → Hp → Prop), Inv X pins σ H s → t σ H Q → wpAny (model X.prog X.w) X.A (tstF cds X.env) (TP X pins σ Q) X.xe s
theorem ptl_nil {X : Cx} : PTL X [] (fun _ H k => k true H) := fun pins s σ H Q I q => wpAny_tests_nil ⟨H, I, q⟩
theorem codeAny_compLoop_ts {prog : Program} {w : World} {A : Around} {R : Result → Shared → Prop} {s : Shared} {elt target iter : Expr} {cds : List Expr} {scope : Scope} {pos : Pos} {it acc : Value} {env : Env} (I : Nat → Shared → Prop)
    (turn : ∀ n s, I n s → wpAny (model prog w) A (pyNext it) (fun r s₁ => match r with
      | none => R (.ok .next) s₁
      | some v => wpAny (model prog w) A (letOwnedTupleGo target it v) (fun _ s₁' => wpAny (model prog w) A (assign target env v) (fun _ s₂ => wpAny (model prog w) A (tstF cds env) (fun ok s₂' =>
          if ok = true then wpAny (model prog w) A (eval elt env) (fun x s₃ =>
            wpAny (model prog w) A (call (.builtin "list.append") [acc, x]) (fun _ s₄ => ∃ m, m < n ∧ I m s₄) (fun _ _ => False) s₃) (fun _ _ => False) s₂'
          else ∃ m, m < n ∧ I m s₂') (fun _ _ => False) s₂) (fun _ _ => False) s₁') (fun _ _ => False) s₁) (fun _ _ => False) s)
    (n : Nat) (h : I n s) :
    codeAny (model prog w) A (.compLoop (.ListComp elt [⟨target, iter, cds, 0⟩] scope pos) 0 it acc env) R s := by
  refine codeAny_loop rfl I (fun n s hI => ?_) n h
  show wpAny _ A ((compTurn (.ListComp elt [⟨target, iter, cds, 0⟩] scope pos) 0 it acc env).onRaise (fun x => do noteFrame x env; theTreesLotGoes x)) _ _ s
  refine wpAny_noted ?_
  rw [compTurn_list]
  refine wpAny_bind (wpAny_standAt (wpAny_bind (wpAny_mono (turn n s hI) (fun r s₁ h₁ => ?_) fun _ _ h' => h'.elim)))
  cases r with
  | none => exact wpAny_pure h₁
  | some v =>
    refine wpAny_bind (wpAny_mono h₁ (fun _ s₀ h₀ => ?_) fun _ _ h' => h'.elim)
    refine wpAny_bind (wpAny_mono h₀ (fun _ s₂ h₂ => ?_) fun _ _ h' => h'.elim)
    refine wpAny_bind ((wpAny_mono h₂ (fun ok s₃ h₃ => ?_) fun _ _ h' => h'.elim))
    cases ok with
    | false => exact wpAny_pure ⟨rfl, by simpa using h₃⟩
    | true =>
      have h₃' := h₃
      simp only [if_true] at h₃'
      exact wpAny_bind (wpAny_bind (wpAny_mono h₃' (fun x s₄ h₄ => wpAny_bind (wpAny_mono h₄ (fun _ s₅ h₅ => wpAny_pure (wpAny_pure ⟨rfl, h₅⟩)) fun _ _ h' => h'.elim)) fun _ _ h' => h'.elim))
theorem codeAny_compLoop_any {prog : Program} {w : World} {A : Around} {R : Result → Shared → Prop} {s : Shared} {elt target iter : Expr} {scope : Scope} {pos : Pos} {it acc : Value} {env : Env} (I : Nat → Shared → Prop)
    (turn : ∀ n s, I n s → wpAny (model prog w) A (pyNext it) (fun r s₁ => match r with
      | none => R (.ok .next) s₁
      | some v => wpAny (model prog w) A (letOwnedTupleGo target it v) (fun _ s₁' => wpAny (model prog w) A (assign target env v) (fun _ s₂ => wpAny (model prog w) A (eval elt env) (fun x s₃ =>
          wpAny (model prog w) A (call (.builtin "list.append") [acc, x]) (fun _ s₄ => ∃ m, m < n ∧ I m s₄) (fun _ _ => False) s₃)
          (fun _ _ => False) s₂) (fun _ _ => False) s₁') (fun _ _ => False) s₁) (fun _ _ => False) s)
    (n : Nat) (h : I n s) :
    codeAny (model prog w) A (.compLoop (.ListComp elt [⟨target, iter, [], 0⟩] scope pos) 0 it acc env) R s := by
  refine codeAny_loop rfl I (fun n s hI => ?_) n h
  show wpAny _ _ ((compTurn (.ListComp elt [⟨target, iter, [], 0⟩] scope pos) 0 it acc env).onRaise (fun x => do noteFrame x env; theTreesLotGoes x)) _ _ s
  refine wpAny_noted ?_
  rw [compTurn_list1]
  refine wpAny_bind (wpAny_standAt (wpAny_bind (wpAny_mono (turn n s hI) (fun r s₁ h₁ => ?_) fun _ _ h' => h'.elim)))
  cases r with
  | none => exact wpAny_pure h₁
  | some v =>
    refine wpAny_bind (wpAny_mono h₁ (fun _ s₁' h₁' => ?_) fun _ _ h' => h'.elim)
    exact wpAny_bind (wpAny_mono h₁' (fun _ s₂ h₂ => wpAny_bind (wpAny_bind (wpAny_mono h₂ (fun x s₃ h₃ => wpAny_bind (wpAny_mono h₃
      (fun _ s₄ h₄ => wpAny_pure (wpAny_pure ⟨rfl, h₄⟩)) fun _ _ h' => h'.elim)) fun _ _ h' => h'.elim))) fun _ _ h' => h'.elim)

noncomputable def compAt (te : TE) (σ : St) (Q : VK) (J : It) (H1 : Hp) : Prop := ∀ D, H1 D = none → ∃ W : Nat → Nat → List V → Hp → Prop, (∃ m, W 0 m [] (upd H1 D (.lst []))) ∧ ∀ i m ys H2, W i m ys H2 →
  (J.stop i H2 ∧ Q (.ref D) H2) ∨ (J.go i H2 ∧ ys.length < sizeLine ∧ ∃ N : V → Hp → Prop, (∀ v H', N v H' → H' D = some (.lst ys) ∧ ∃ m', m' < m ∧ W (i + 1) m' (ys ++ [v]) (upd H' D (.lst (ys ++ [v])))) ∧
    ∀ y H', J.yld i H2 y H' → te (some y :: σ) H' N)
noncomputable def tComp (wi : TI) (te : TE) : TE := fun σ H Q => wi σ H (compAt te σ Q)

noncomputable def compAtF (tc : TT) (te : TE) (σ : St) (Q : VK) (J : It) (H1 : Hp) : Prop := ∀ D, H1 D = none → ∃ W : Nat → Nat → List V → Hp → Prop, (∃ m, W 0 m [] (upd H1 D (.lst []))) ∧ ∀ i m ys H2, W i m ys H2 →
  (J.stop i H2 ∧ Q (.ref D) H2) ∨ (J.go i H2 ∧ ys.length < sizeLine ∧ ∃ N : V → Hp → Prop, (∀ v H', N v H' → H' D = some (.lst ys) ∧ ∃ m', m' < m ∧ W (i + 1) m' (ys ++ [v]) (upd H' D (.lst (ys ++ [v])))) ∧
    ∃ Nn : Hp → Prop, (∀ H', Nn H' → ∃ m', m' < m ∧ W (i + 1) m' ys H') ∧
    ∀ y H', J.yld i H2 y H' → tc (some y :: σ) H' fun b H'' => if b = true then te (some y :: σ) H'' N else Nn H'')
section
variable {X : Cx} {N' : List Str} {scope : Scope} {x : Str} {px : Pos} {elt iter : Expr} {cds : List Expr} {pos : Pos} {te : TE} {tc : TT} {wi : TI}

theorem compx_core (S : CompSc X.N N' X.env.scope scope x) (hc : X.calm = true) (ht : ∀ cl C s H fp, PTL (cxComp X N' scope cl C s H fp) cds tc) (he : ∀ cl C s H fp, PE (cxComp X N' scope cl C s H fp) elt te)
    {pins : List (Addr × Obj)} {σ : St} {H : Hp} {s : Shared} {Q : VK} {E : Value → Shared → Prop} {RR : Value → Addr → Result → Shared → Prop} {it : Addr} {fp : List Addr} {tn : Nat → Heap → Prop} {J : It}
    (I : Inv X pins σ H s) (T : Turn X.prog X.w X.K (.Name x px) J fp it tn) (st : tn 0 s.heap) (f2 : ∀ b ∈ fp, FpOk X pins H b)
    (hw : compAtF tc te σ Q J H)
    (hRR : ∀ D C s' H', Inv X pins σ H' s' → (∃ m, s'.heap.Ns C m) → C ≠ X.env.locals → (∀ y c, X.env.cells.lookup y = some c → c ≠ C) → H' C = none → X.s₀.heap.objs.size ≤ C → (∀ p ∈ X.pn ++ pins, p.1 ≠ C) → Q (.ref D) H' → RR (.ref D) C (.ok .next) s') :
    ∃ cl, closureFor scope X.env = pure cl ∧ wpAny (model X.prog X.w) X.A (newList []) (fun acc s₃ => wpAny (model X.prog X.w) X.A (newFunctionEnv scope X.env.globals cl [] X.env.qual none .none (some X.env)) (fun cenv s₄ =>
      codeAny (model X.prog X.w) X.A (.compStart (.ListComp elt [⟨.Name x px, iter, cds, 0⟩] scope pos) 0 (.ref it) acc { cenv with scope := relabel scope X.env }) (RR acc cenv.locals) s₄) E s₃) E s := by
  have hfree : ∀ z ∈ scope.names, z.2 = .free → ∃ c, X.env.cells.lookup z.1 = some c := fun z hz hk => by
    rcases S.ok z hz hk with q | q
    · exact I.ok.has z.1 (.inl q)
    · exact I.ok.has z.1 (.inr q)
  refine ⟨_, clos_eq hfree, ?_⟩
  have clS : ∀ y c, (closOf X.env.cells scope.names []).lookup y = some c → X.env.cells.lookup y = some c := fun y c => clos_sound scope.names [] hfree fun q => by cases q
  generalize hcl : closOf X.env.cells scope.names [] = cl at clS
  have clH : ∀ y, scope.names.lookup y = some .free → ∃ c, cl.lookup y = some c := fun y hy => by
    rw [← hcl]
    exact clos_has scope.names [] (lookup_mem hy)
  refine wpAny_newObj_type (wpAny_newFunctionEnv S.cell (by intro y hy; simp at hy) (fun h₁ hns₁ hsb₁ => ?_) S.kind)
  have I3 : Inv X pins σ (upd H s.heap.objs.size (.lst [])) { s with heap := s.heap.push { cls := .type "list", data := .seq ([] : List Value).toArray } } := I.lnew (t' := s.toks) .nil (Nat.zero_le _)
  obtain ⟨W, ⟨m0, w0⟩, turn⟩ := hw s.heap.objs.size I.fresh
  dsimp only at hns₁ hsb₁ ⊢
  generalize hs3 : ({ s with heap := s.heap.push { cls := .type "list", data := .seq ([] : List Value).toArray } } : Shared) = s3 at I3
  have hh3 : s3.heap = s.heap.push { cls := .type "list", data := .seq ([] : List Value).toArray } := by rw [← hs3]
  have hsz3 : s3.heap.objs.size = s.heap.objs.size + 1 := by rw [hh3, Heap.size_push]
  rw [← hh3] at hns₁ hsb₁ ⊢
  have old : ∀ b o, s3.heap.get? b = some o → h₁.get? b = some o := fun b o e => hsb₁.extBut b o (by have := Heap.lt_size e; exact Nat.ne_of_lt this) (Heap.get?_push_of_some _ e)
  have old0 : ∀ b o, s.heap.get? b = some o → h₁.get? b = some o := fun b o e => old b o (by rw [hh3]; exact Heap.get?_push_of_some _ e)
  have CneL : s3.heap.objs.size ≠ X.env.locals := Nat.ne_of_gt I3.lt
  have CneC : ∀ y c, X.env.cells.lookup y = some c → c ≠ s3.heap.objs.size := fun y c e z => by
    obtain ⟨v, q⟩ := I3.cell y c e
    have := q.lt
    rw [z] at this
    exact absurd this (Nat.lt_irrefl _)
  have CneP : ∀ p ∈ X.pn ++ pins, p.1 ≠ s3.heap.objs.size := fun p hp z => by
    have := Heap.lt_size (I3.pin p hp).1
    rw [z] at this
    exact absurd this (Nat.lt_irrefl _)
  have CfreeH : ∀ b o, s3.heap.get? b = some o → b < s3.heap.objs.size := fun b o e => by have := Heap.lt_size e; exact this
  have fpLt : ∀ b ∈ fp, b < s3.heap.objs.size := fun b hb => by
    obtain ⟨o, e, _⟩ := T.obj 0 s.heap st b hb
    rw [hsz3]
    exact Nat.lt_succ_of_lt (Heap.lt_size e)
  have fpD : ∀ b ∈ fp, b ≠ s.heap.objs.size := fun b hb => by
    obtain ⟨o, e, _⟩ := T.obj 0 s.heap st b hb
    exact Nat.ne_of_lt (Heap.lt_size e)

  have ok' : (cxComp X N' scope cl s3.heap.objs.size s3 (upd H s.heap.objs.size (.lst [])) fp).Ok := by
    refine ⟨I3.ok.mod, ?_, I3.ok.glob, I3.ok.blt, Nat.le_refl _, fun y z c h1 h2 => I3.ok.inj y z c (clS y c h1) (clS z c h2), fun y hy => ?_, fun y c hf => (by cases hf), I3.ok.hd, I3.ok.frames, .inl rfl, fun b hb => ⟨Nat.ne_of_lt (fpLt b hb), fun y c e => (f2 b hb).2.2.2.2.1 y c (clS y c e)⟩,
      fun b o e => I3.bs b o e, Nat.le_trans I3.ok.bsz I3.sz, fun b o e hb => ?_, fun b hb z => ?_, I3.stack, I3.stkFree⟩
    · show (relabel scope X.env).kind = .function
      exact S.kind
    · have hy' : (relabel scope X.env).names.lookup y = some .cell ∨ (relabel scope X.env).names.lookup y = some .free := hy
      rw [relabel_lookup] at hy'
      cases q : scope.names.lookup y with
      | none => rw [q] at hy'; rcases hy' with z | z <;> cases z
      | some k =>
        have hm := lookup_mem q
        cases k with
        | free => exact clH y q
        | cell => exact absurd rfl (S.cell _ hm)
        | «local» => rw [q] at hy'; rcases hy' with z | z <;> simp at z
        | globalExplicit => rw [q] at hy'; rcases hy' with z | z <;> simp at z
        | globalImplicit => rw [q] at hy'; rcases hy' with z | z <;> simp at z
    · rcases (f2 b hb).2.2.2.1 with z | z
      · exact I.ok.noex b o e z
      · exact absurd (Nat.lt_of_lt_of_le (Heap.lt_size e) (Nat.le_trans I.ok.bsz z)) (Nat.lt_irrefl _)
    · rcases List.mem_cons.mp (I3.stkSub b z) with q | q
      · exact (f2 b hb).2.1 q
      · exact (f2 b hb).2.2.1 q
  have fpOk' : ∀ {H' : Hp}, (∀ b ∈ fp, H' b = none) → ∀ b ∈ fp, FpOk (cxComp X N' scope cl s3.heap.objs.size s3 (upd H s.heap.objs.size (.lst [])) fp) pins H' b := fun hn b hb =>
    ⟨hn b hb, Nat.ne_of_lt (fpLt b hb), fun z => by
      rcases List.mem_cons.mp (I3.stkSub b z) with q | q
      · exact (f2 b hb).2.1 q
      · exact (f2 b hb).2.2.1 q, .inl hb, fun y c e => (f2 b hb).2.2.2.2.1 y c (clS y c e), (f2 b hb).2.2.2.2.2⟩
  have I4 : Inv (cxComp X N' scope cl s3.heap.objs.size s3 (upd H s.heap.objs.size (.lst [])) fp) pins (none :: σ) (upd H s.heap.objs.size (.lst [])) { s3 with heap := h₁, toks := s3.toks + ([] : List (Str × Value)).length } := by
    refine ⟨ok', rfl, I3.bare, Un.kept old, ⟨_, hns₁, fun i y v e1 e2 vis => ?_⟩, fun y c e => ?_, ?_, fun y c e => I3.freeC y c (clS y c e), fun p hp => ?_, I3.hok.kept old, ?_⟩
    · cases i with
      | zero => cases e2
      | succ i =>
        have e2' : σ[i]? = some (some v) := by simpa using e2
        have hi : i < X.N.length := by rw [← I3.len]; exact (List.getElem?_eq_some_iff.mp e2').1
        have vis' : (relabel scope X.env).names.lookup y = some .local ∨ (relabel scope X.env).names.lookup y = some .cell ∨ (relabel scope X.env).names.lookup y = some .free := vis
        have e1' : N'[i + 1]? = some y := e1
        rcases S.sub i hi with q | q
        · rw [e1'] at q
          have hy : X.N[i]? = some y := q.symm
          have hmem : y ∈ N'.tail := by
            rw [List.mem_iff_getElem?]
            exact ⟨i, by rw [List.getElem?_tail]; exact e1'⟩
          have hfr : scope.names.lookup y = some .free := by
            rw [relabel_lookup] at vis'
            cases q2 : scope.names.lookup y with
            | none => rw [q2] at vis'; rcases vis' with z | z | z <;> cases z
            | some k =>
              cases k with
              | free => rfl
              | cell => exact absurd rfl (S.cell _ (lookup_mem q2))
              | «local» => exact absurd q2 (S.nol y hmem)
              | globalExplicit => rw [q2] at vis'; rcases vis' with z | z | z <;> simp at z
              | globalImplicit => rw [q2] at vis'; rcases vis' with z | z | z <;> simp at z
          have hok := S.ok (y, .free) (lookup_mem hfr) rfl
          obtain ⟨m, hn, hl⟩ := I3.loc
          have visX : Vis X.env.scope y := by
            rcases hok with z | z
            · exact .inr (.inl z)
            · exact .inr (.inr z)
          obtain ⟨u, r, l⟩ := hl i y v hy e2' visX
          refine ⟨u, r, .inr ⟨?_, ?_⟩⟩
          · show (relabel scope X.env).names.lookup y = some .cell ∨ (relabel scope X.env).names.lookup y = some .free
            rw [relabel_lookup, hfr, Option.map_some]
            by_cases hcnd : (NameKind.free == NameKind.free && X.env.scope.kind == .function && X.env.kindOf y == some .cell) = true
            · left
              rw [if_pos hcnd]
            · right
              rw [if_neg hcnd]
          · rcases l with ⟨k, _⟩ | ⟨k, c, e, z⟩
            · have k' : X.env.scope.names.lookup y = some .local := k
              have hok' : X.env.scope.names.lookup y = some .cell ∨ X.env.scope.names.lookup y = some .free := hok
              rw [k'] at hok'
              rcases hok' with z | z <;> cases z
            · obtain ⟨c', e'⟩ := clH y hfr
              have e3 := clS y c' e'
              rw [e] at e3
              cases e3
              obtain ⟨o, ho, hd⟩ := z
              exact ⟨c, e', o, old c o ho, hd⟩
        · rw [e1'] at q
          have q : scope.names.lookup y = none := Option.some.inj q
          rw [relabel_lookup, q] at vis'
          rcases vis' with z | z | z <;> cases z
    · obtain ⟨v, o, ho, hd⟩ := I3.cell y c (clS y c e)
      exact ⟨v, o, old c o ho, hd⟩
    · show upd H s.heap.objs.size (.lst []) s3.heap.objs.size = none
      exact I3.hok.fresh (Nat.le_refl _)
    · obtain ⟨e, n, ne, nf, d⟩ := I3.pin p hp
      refine ⟨old _ _ e, n, CneP p hp, fun z => ?_, d⟩
      rcases List.mem_cons.mp (I3.stkSub p.1 z) with q | q
      · exact ne q
      · exact nf q
    · show (none :: σ).length = N'.length
      rw [S.len, List.length_cons, I3.len]
  have st4 : tn 0 h₁ := T.keep 0 s.heap h₁ st fun b _ o e => old0 b o e

  have loop : ∀ s₄ : Shared, s₄ = { s3 with heap := h₁, toks := s3.toks + ([] : List (Str × Value)).length } →
      codeAny (model X.prog X.w) X.A (.compLoop (.ListComp elt [⟨.Name x px, iter, cds, 0⟩] scope pos) 0 (.ref it) (.ref s.heap.objs.size) (compEnvC scope cl s3.heap.objs.size X.env)) (RR (.ref s.heap.objs.size) s3.heap.objs.size) s₄ := by
    rintro s₄ rfl
    refine codeAny_compLoop_ts (fun n s' => ∃ i v0 ys H', Inv (cxComp X N' scope cl s3.heap.objs.size s3 (upd H s.heap.objs.size (.lst [])) fp) pins (v0 :: σ) H' s' ∧ tn i s'.heap ∧ (∀ b ∈ fp, H' b = none) ∧ W i n ys H') ?_ m0
      ⟨0, none, [], _, I4, st4, fun b hb => by rw [upd_ne (fpD b hb)]; exact (f2 b hb).1, w0⟩
    rintro n s5 ⟨i, v0, ys, H5, I5, st5, fr5, w5⟩
    rcases turn i n ys H5 w5 with ⟨stop, qn⟩ | ⟨go, hz, N, hN, Nn, hNn, step⟩
    · refine thn (T.done (cxComp X N' scope cl s3.heap.objs.size s3 (upd H s.heap.objs.size (.lst [])) fp) rfl rfl rfl hc i pins s5 (v0 :: σ) H5 (fun _ _ => False) I5 (fpOk' fr5) st5 stop) fun r s6 ⟨hr, I6⟩ => ?_
      subst hr
      have hch : ∀ b ∈ fp, (b ∈ X.ex ∨ X.s₀.heap.objs.size ≤ b) ∧ b ≠ X.env.locals ∧ (∀ x c, X.env.cells.lookup x = some c → c ≠ b) ∧ ∀ p ∈ X.pn ++ pins, p.1 ≠ b := fun b hb =>
        ⟨(f2 b hb).2.2.2.1, (f2 b hb).2.1, (f2 b hb).2.2.2.2.1, (f2 b hb).2.2.2.2.2⟩
      have I7 : Inv X pins σ H5 s6 := I3.call' (ch := fp) I6.os I6.base I6.hok I6.bare hch
      obtain ⟨m, hm, _⟩ := I6.loc
      exact hRR s.heap.objs.size s3.heap.objs.size s6 H5 I7 ⟨m, hm⟩ CneL CneC I6.free (Nat.le_trans I3.sz (Nat.le_refl _)) CneP qn
    · refine thn (T.item (cxComp X N' scope cl s3.heap.objs.size s3 (upd H s.heap.objs.size (.lst [])) fp) rfl rfl rfl hc i pins s5 (v0 :: σ) H5 (fun _ _ => False) I5 (fpOk' fr5) st5 go) fun r s6 ⟨u, hr, h6⟩ => ?_
      subst hr
      refine thn h6 fun _ s7 ⟨y, H7, I7, r7, y7, st7, fr7⟩ => ?_
      have I7' := I7.pinned (fpOk' fr7) (T.obj _ _ st7)
      refine wpAny_assign_Name (store_ok (i := 0) (v := y) I7' S.nd S.hd (.inl (lookup_relabel_local S.var)) r7 (fun s8 I8 => ?_) (.inr (lookup_relabel_local S.var)))
      have I8' : Inv (cxComp X N' scope cl s3.heap.objs.size s3 (upd H s.heap.objs.size (.lst [])) fp) (pins ++ pinsAt fp s7.heap) (some y :: σ) H7 s8 := I8
      refine thn (ht cl s3.heap.objs.size s3 (upd H s.heap.objs.size (.lst [])) fp _ s8 (some y :: σ) H7 (fun b H'' => if b = true then te (some y :: σ) H'' N else Nn H'') I8' (step y H7 y7)) fun okb s8 ⟨H8, I8, q8⟩ => ?_
      cases okb with
      | false =>
        have q8' : Nn H8 := by simpa using q8
        obtain ⟨m', hm, w9⟩ := hNn H8 q8'
        refine ⟨m', hm, i + 1, some y, ys, _, I8.unpinned, T.keep _ _ _ st7 fun b hb o e => (I8.pin (b, o) (List.mem_append_right _ (List.mem_append_right _ (mem_pinsAt hb e)))).1, fun b hb => ?_, w9⟩
        obtain ⟨o, e, d⟩ := T.obj _ _ st7 b hb
        exact (I8.pin (b, o) (List.mem_append_right _ (List.mem_append_right _ (mem_pinsAt hb e)))).2.1
      | true =>
        refine thn (he cl s3.heap.objs.size s3 (upd H s.heap.objs.size (.lst [])) fp _ s8 (some y :: σ) H8 N I8 (by simpa using q8)) fun w s9 ⟨v, H9, I9, r9, q9⟩ => ?_
        obtain ⟨hD9, m', hm, w9⟩ := hN v H9 q9
        refine thn (mt_append _ s9 (some y :: σ) H9 (.ref s.heap.objs.size) [v] (.ref s.heap.objs.size) [w] (fun z H10 => z = .non ∧ H10 = upd H9 s.heap.objs.size (.lst (ys ++ [v]))) I9 rfl (.cons r9 .nil) ⟨s.heap.objs.size, ys, v, rfl, rfl, hD9, hz, rfl, rfl⟩) fun _ s10 ⟨z, H10, I10, _, ez, e10⟩ => ?_
        subst e10
        refine ⟨m', hm, i + 1, some y, ys ++ [v], _, I10.unpinned, T.keep _ _ _ st7 fun b hb o e => (I10.pin (b, o) (List.mem_append_right _ (List.mem_append_right _ (mem_pinsAt hb e)))).1, fun b hb => ?_, w9⟩
        obtain ⟨o, e, d⟩ := T.obj _ _ st7 b hb
        exact (I10.pin (b, o) (List.mem_append_right _ (List.mem_append_right _ (mem_pinsAt hb e)))).2.1
  exact codeAny_compStart_list (loop _ (by rw [← hs3])) (T.self X.A 0 _ _ _ st4 (loop _ (by rw [← hs3])))
theorem compAt.toF {te : TE} {σ : St} {Q : VK} {J : It} {H : Hp} (hw : compAt te σ Q J H) : compAtF (fun _ H k => k true H) te σ Q J H := fun D hD => by
  obtain ⟨W, h0, hW⟩ := hw D hD
  refine ⟨W, h0, fun i m ys H2 hw2 => ?_⟩
  rcases hW i m ys H2 hw2 with g | ⟨g1, g2, N, g3, g4⟩
  · exact .inl g
  · exact .inr ⟨g1, g2, N, g3, fun _ => False, fun _ z => z.elim, fun y H' hy => iteT (g4 y H' hy)⟩
theorem pe_compx {at' : St → VK → It → Hp → Prop} (S : CompSc X.N N' X.env.scope scope x) (hc : X.calm = true) (hi : PI X (.Name x px) iter wi) (ht : ∀ cl C s H fp, PTL (cxComp X N' scope cl C s H fp) cds tc) (he : ∀ cl C s H fp, PE (cxComp X N' scope cl C s H fp) elt te) (cv : ∀ σ Q J H, at' σ Q J H → compAtF tc te σ Q J H)
    (hs : ∀ x, foldedSetIterable iter X.env x = pure x := by intro _; rfl) : PE X (.ListComp elt [⟨.Name x px, iter, cds, 0⟩] scope pos) (fun σ H Q => wi σ H (at' σ Q)) := by
  intro pins s σ H Q I h
  rw [eval_ListComp]
  have hfree : ∀ z ∈ scope.names, z.2 = .free → ∃ c, X.env.cells.lookup z.1 = some c := fun z hz hk => by
    rcases S.ok z hz hk with q | q
    · exact I.ok.has z.1 (.inl q)
    · exact I.ok.has z.1 (.inr q)
  refine wpAny_comprehension_free (use := none) rfl hs (clos_eq hfree) S.kind S.names (thn (hi pins s σ H _ I h) fun xv s1 h1 => thn h1 fun itv s2 h2 => ?_)
  obtain ⟨it, fp, tn, J, H2, e, I2, T, st2, f2, hw⟩ := h2
  subst e
  obtain ⟨cl, hcl, hrun⟩ := compx_core (tc := tc) (cds := cds) (elt := elt) (iter := iter) (pos := pos) (px := px) (E := X.xe) (RR := fun acc C => compPost (model X.prog X.w) X.A X.xe none (EP X pins σ Q) acc C) S hc ht he I2 T st2 f2 (cv _ _ _ _ hw) (fun D C s' H' I' ⟨m, hm⟩ n1 n2 n3 n4 n5 q =>
    ⟨m, hm, fun h' hsb => ⟨.ref D, H', I'.turned (it := C) (t' := s'.toks) (fun b o hb e => (hsb.2 b hb).trans e) n3 n1 (.inr n4) n2 n5, rfl, q⟩⟩)
  have ecl : (pure (closOf X.env.cells scope.names []) : Sem (List (Str × Addr))) = pure cl := (clos_eq hfree).symm.trans hcl
  have ecl' : closOf X.env.cells scope.names [] = cl := by
    injection ecl
  rw [ecl']
  exact hrun
theorem ps_setCompx {at' : St → VK → It → Hp → Prop} {i : Nat} {y : Str} {py spos : Pos} (S : CompSc X.N N' X.env.scope scope x) (hc : X.calm = true) (hi : PI X (.Name x px) iter wi) (ht : ∀ cl C s H fp, PTL (cxComp X N' scope cl C s H fp) cds tc) (he : ∀ cl C s H fp, PE (cxComp X N' scope cl C s H fp) elt te) (cv : ∀ σ Q J H, at' σ Q J H → compAtF tc te σ Q J H)
    (hN : X.N.Nodup) (hy : X.N[i]? = some y) (hyl : X.env.scope.names.lookup y = some .local)
    (hsw : swapsWith (.ListComp elt [⟨.Name x px, iter, cds, 0⟩] scope pos) (some (.Name y py)) spos.line X.env = pure true := by rfl)
    (hs : ∀ x, foldedSetIterable iter X.env x = pure x := by intro _; rfl) : PS X (.Assign [.Name y py] (.ListComp elt [⟨.Name x px, iter, cds, 0⟩] scope pos) spos) (tAsg (fun σ H Q => wi σ H (at' σ Q)) (gName i)) := by
  intro pins s σ H D0 I h
  have hfree : ∀ z ∈ scope.names, z.2 = .free → ∃ c, X.env.cells.lookup z.1 = some c := fun z hz hk => by
    rcases S.ok z hz hk with q | q
    · exact I.ok.has z.1 (.inl q)
    · exact I.ok.has z.1 (.inr q)
  rw [exec_Assign_Name_used _ _ _ _ hsw]
  refine wpAny_bind (wpAny_standAt (wpAny_bind ?_))
  show wpAny _ X.A (do let _ ← comprehension (.ListComp elt [⟨.Name x px, iter, cds, 0⟩] scope pos) scope X.env _ (newList []) false (eval iter X.env) (some (assign (.Name y py) X.env))) _ _ s
  refine wpAny_bind (wpAny_mono (wpAny_comprehension_free (use := some (assign (.Name y py) X.env)) (Q := fun _ s' => SP X pins D0 .next s') rfl hs (clos_eq hfree) S.kind S.names
    (thn (hi pins s σ H _ I h) fun xv s1 h1 => thn h1 fun itv s2 h2 => ?_)) (fun _ s' hq => wpAny_pure (wpAny_pure hq)) fun _ _ e => e)
  obtain ⟨it, fp, tn, J, H2, e, I2, T, st2, f2, hw⟩ := h2
  subst e
  obtain ⟨cl, hcl, hrun⟩ := compx_core (tc := tc) (cds := cds) (elt := elt) (iter := iter) (pos := pos) (px := px) (E := X.xe) (Q := fun x H1 => gName i x σ H1 D0.nx) (RR := fun acc C => compPost (model X.prog X.w) X.A X.xe (some (assign (.Name y py) X.env)) (fun _ s' => SP X pins D0 .next s') acc C) S hc ht he I2 T st2 f2 (cv _ _ _ _ hw) (fun D C s' H' I' ⟨m, hm⟩ n1 n2 n3 n4 n5 q => by
    show wpAny _ X.A (assign (.Name y py) X.env (.ref D)) _ _ _
    refine wpAny_assign_Name (store_ok2 (i := i) (v := .ref D) I' hN hy (.inl hyl) rfl (fun s'' I'' ⟨a, hsa, hwa⟩ => ?_) (.inr hyl))
    have haC : C ≠ a := by
      rcases hwa with z | z
      · rw [z]; exact n1
      · intro z2
        exact n2 y a z z2.symm
    refine ⟨m, hm.sameBut hsa haC, fun h' hsb => ?_⟩
    exact ⟨_, H', I''.turned (it := C) (t' := s''.toks) (fun b o hb e => (hsb.2 b hb).trans e) n3 n1 (.inr n4) n2 n5, q⟩)
  have ecl : (pure (closOf X.env.cells scope.names []) : Sem (List (Str × Addr))) = pure cl := (clos_eq hfree).symm.trans hcl
  have ecl' : closOf X.env.cells scope.names [] = cl := by
    injection ecl
  rw [ecl']
  exact hrun
theorem pe_comp (S : CompSc X.N N' X.env.scope scope x) (hc : X.calm = true) (hi : PI X (.Name x px) iter wi) (he : ∀ cl C s H fp, PE (cxComp X N' scope cl C s H fp) elt te)
    (hs : ∀ x, foldedSetIterable iter X.env x = pure x := by intro _; rfl) : PE X (.ListComp elt [⟨.Name x px, iter, [], 0⟩] scope pos) (tComp wi te) :=
  pe_compx (at' := fun σ Q => compAt te σ Q) S hc hi (fun _ _ _ _ _ => ptl_nil) he (fun _ _ _ _ h => h.toF) hs
theorem ps_setComp {i : Nat} {y : Str} {py spos : Pos} (S : CompSc X.N N' X.env.scope scope x) (hc : X.calm = true) (hi : PI X (.Name x px) iter wi) (he : ∀ cl C s H fp, PE (cxComp X N' scope cl C s H fp) elt te)
    (hN : X.N.Nodup) (hy : X.N[i]? = some y) (hyl : X.env.scope.names.lookup y = some .local)
    (hsw : swapsWith (.ListComp elt [⟨.Name x px, iter, [], 0⟩] scope pos) (some (.Name y py)) spos.line X.env = pure true := by rfl)
    (hs : ∀ x, foldedSetIterable iter X.env x = pure x := by intro _; rfl) : PS X (.Assign [.Name y py] (.ListComp elt [⟨.Name x px, iter, [], 0⟩] scope pos) spos) (tAsg (tComp wi te) (gName i)) :=
  ps_setCompx (at' := fun σ Q => compAt te σ Q) S hc hi (fun _ _ _ _ _ => ptl_nil) he (fun _ _ _ _ h => h.toF) hN hy hyl hsw hs
end

theorem comp_range {lo : Int} {n : Nat} {te : TE} {σ : St} {H : Hp} {Q : VK} (f : Nat → V) (hn : n ≤ sizeLine)
    (he : ∀ i H', i < n → Same H H' → ∀ N : V → Hp → Prop, (∀ H'', Same H' H'' → N (f i) H'') → te (some (.int (lo + i)) :: σ) H' N)
    (hq : ∀ D H', H D = none → Same H H' → H' D = some (.lst ((List.range n).map f)) → Q (.ref D) H') :
    compAt te σ Q (Itr lo n) H := by
  intro D hD
  refine ⟨fun i m ys H2 => m = n - i ∧ i ≤ n ∧ ys = (List.range i).map f ∧ Same H H2 ∧ H2 D = some (.lst ys), ⟨n, rfl, Nat.zero_le _, rfl, fun b o e => ?_, upd_same⟩, ?_⟩
  · rw [upd_ne (ne_of_none e hD)]
    exact e
  · rintro i m ys H2 ⟨rfl, hi, rfl, hs, hd⟩
    by_cases hlt : i < n
    · refine .inr ⟨hlt, by rw [List.length_map, List.length_range]; omega, fun v H' => v = f i ∧ Same H2 H', fun v H' ⟨ev, hs'⟩ => ⟨hs' D _ hd, n - (i + 1), by omega, rfl, hlt, ?_, fun b o e => ?_, upd_same⟩, fun y H' hy => ?_⟩
      · rw [ev, List.range_succ, List.map_append]
        rfl
      · rw [upd_ne (ne_of_none e hD)]
        exact hs' b o (hs b o e)
      · obtain ⟨e1, e2⟩ := hy
        subst e1 e2
        exact he i _ hlt hs _ fun H'' h'' => ⟨rfl, h''⟩
    · have e : i = n := by omega
      subst e
      exact .inl ⟨Nat.le_refl _, hq D H2 hD hs hd⟩
end L2

set_option Elab.async false
set_option linter.all false
set_option maxRecDepth 100000
set_option maxHeartbeats 4000000
namespace L2
open PySem PySem.Spec PyProof.Rows
set_option genInjectivity false in
structure CompScC (N N' : List Str) (sc scope : Scope) (x : Str) : Prop where
  kind : scope.kind = .function
  cell : scope.names.filter (fun y => y.2 == .cell) = [(x, .cell)]
  names : ∀ y ∈ scope.names, y.2 = .local → scope.names.lookup y.1 = some .local
  var : scope.names.lookup x = some .cell
  ok : ∀ y ∈ scope.names, y.2 = .free → (y.1 ≠ x ∧ (sc.names.lookup y.1 = some .cell ∨ sc.names.lookup y.1 = some .free))
  hd : N'[0]? = some x
  len : N'.length = N.length + 1
  sub : ∀ i, i < N.length → N'[i + 1]? = N[i]? ∨ (N'[i + 1]?.map fun y => scope.names.lookup y) = some none
  noe : scope.names.lookup ("" : Str) = none
  nol : ∀ y ∈ N'.tail, scope.names.lookup y ≠ some .local ∧ scope.names.lookup y ≠ some .cell
  nd : N'.Nodup
theorem cellsFrom_no : ∀ (names : List (Str × NameKind)) (n : Nat) (acc : List (Str × Addr)), names.filter (fun y => y.2 == .cell) = [] → cellsFrom n names acc = acc
  | [], _, _, _ => rfl
  | (y, k) :: r, n, acc, h => by
    rw [List.filter_cons] at h
    unfold cellsFrom
    by_cases hk : (k == NameKind.cell) = true
    · rw [if_pos hk] at h
      cases h
    · rw [if_neg hk] at h
      rw [if_neg hk]
      exact cellsFrom_no r n acc h
theorem cellsFrom_one {x : Str} : ∀ (names : List (Str × NameKind)) (n : Nat) (acc : List (Str × Addr)), names.filter (fun y => y.2 == .cell) = [(x, .cell)] → cellsFrom n names acc = (x, n) :: acc
  | [], _, _, h => by cases h
  | (y, k) :: r, n, acc, h => by
    rw [List.filter_cons] at h
    unfold cellsFrom
    by_cases hk : (k == NameKind.cell) = true
    · rw [if_pos hk] at h
      obtain ⟨h1, h2⟩ := List.cons.inj h
      rw [if_pos hk, cellsFrom_no r _ _ h2]
      cases h1
      rfl
    · rw [if_neg hk] at h
      rw [if_neg hk]
      exact cellsFrom_one r n acc h
theorem pushCells_no : ∀ (names : List (Str × NameKind)) (h : Heap), names.filter (fun y => y.2 == .cell) = [] → pushCells h names = h
  | [], _, _ => rfl
  | (y, k) :: r, h0, h => by
    rw [List.filter_cons] at h
    unfold pushCells
    by_cases hk : (k == NameKind.cell) = true
    · rw [if_pos hk] at h
      cases h
    · rw [if_neg hk] at h
      rw [if_neg hk]
      exact pushCells_no r h0 h
theorem pushCells_one {x : Str} : ∀ (names : List (Str × NameKind)) (h : Heap), names.filter (fun y => y.2 == .cell) = [(x, .cell)] → pushCells h names = h.push { cls := .type "cell", data := .cell none }
  | [], _, h => by cases h
  | (y, k) :: r, h0, h => by
    rw [List.filter_cons] at h
    unfold pushCells
    by_cases hk : (k == NameKind.cell) = true
    · rw [if_pos hk] at h
      obtain ⟨h1, h2⟩ := List.cons.inj h
      rw [if_pos hk, pushCells_no r _ h2]
    · rw [if_neg hk] at h
      rw [if_neg hk]
      exact pushCells_one r h0 h
section
variable {M : Model} {A : Around} {E : Value → Shared → Prop} {s : Shared}
theorem newFunctionEnv_one {scope : Scope} {x : Str} {globals : Addr} {closure : List (Str × Addr)} {qual : Str} {func : Option Addr} {code : Value} {outer : Env} {builtins : Addr} {Q : Env → Shared → Prop} (hc : scope.names.filter (fun y => y.2 == .cell) = [(x, .cell)])
    (hQ : Q (newEnv scope s.heap.objs.size globals ((x, s.heap.objs.size + 1) :: closure) qual func code (some outer) builtins) { s with heap := (s.heap.push { cls := .type "dict", data := .dict #[] }).push { cls := .type "cell", data := .cell none } }) :
    wpAny M A (newFunctionEnv scope globals closure [] qual func code (some outer) builtins) Q E s := by
  simp only [newFunctionEnv, Option.isSome_some, if_true]
  refine wpAny_bind (wpAny_alloc ?_)
  refine wpAny_bind (wpAny_layCells _ (fun name kind cells => by cases hkc : kind == NameKind.cell <;> simp [hkc]) _ _ _ _ ?_)
  rw [show ({ s with heap := s.heap.push { cls := .type "dict", data := .dict #[] } } : Shared).heap.objs.size = s.heap.objs.size + 1 from Heap.size_push ..]
  rw [cellsFrom_one _ _ _ hc, pushCells_one _ _ hc]
  refine wpAny_bind (wpAny_pure ?_)
  exact wpAny_pure hQ
end
noncomputable abbrev cxCompC (X : Cx) (x : Str) (N' : List Str) (scope : Scope) (cl : List (Str × Addr)) (C : Addr) (s : Shared) (H : Hp) (fp : List Addr) : Cx :=
  { X with env := compEnvC scope cl C X.env, N := N', s₀ := s, H₀ := H, outer := X.stack, stack := X.stack, ex := fp, fn := fun y => y == x, xe := fun _ _ => False }
theorem look_x {x : Str} {c : Addr} {cl : List (Str × Addr)} : List.lookup x ((x, c) :: cl) = some c := by
  rw [List.lookup_cons, beq_self_eq_true]
theorem look_ne {x y : Str} {c : Addr} {cl : List (Str × Addr)} (h : y ≠ x) : List.lookup y ((x, c) :: cl) = List.lookup y cl := by
  rw [List.lookup_cons, beq_false_of_ne h]
section
variable {X : Cx} {N' : List Str} {scope : Scope} {x : Str} {px : Pos} {elt iter : Expr} {cds : List Expr} {pos : Pos} {te : TE} {tc : TT} {wi : TI}
theorem compc_core (S : CompScC X.N N' X.env.scope scope x) (hc : X.calm = true) (ht : ∀ cl C s H fp, PTL (cxCompC X x N' scope cl C s H fp) cds tc) (he : ∀ cl C s H fp, PE (cxCompC X x N' scope cl C s H fp) elt te)
    {pins : List (Addr × Obj)} {σ : St} {H : Hp} {s : Shared} {Q : VK} {E : Value → Shared → Prop} {RR : Value → Addr → Result → Shared → Prop} {it : Addr} {fp : List Addr} {tn : Nat → Heap → Prop} {J : It}
    (I : Inv X pins σ H s) (T : Turn X.prog X.w X.K (.Name x px) J fp it tn) (st : tn 0 s.heap) (f2 : ∀ b ∈ fp, FpOk X pins H b)
    (hw : compAtF tc te σ Q J H)
    (hRR : ∀ D C s' H', Inv X pins σ H' s' → (∃ m, s'.heap.Ns C m) → C ≠ X.env.locals → (∀ y c, X.env.cells.lookup y = some c → c ≠ C) → H' C = none → X.s₀.heap.objs.size ≤ C → (∀ p ∈ X.pn ++ pins, p.1 ≠ C) → Q (.ref D) H' → RR (.ref D) C (.ok .next) s') :
    ∃ cl, closureFor scope X.env = pure cl ∧ wpAny (model X.prog X.w) X.A (newList []) (fun acc s₃ => wpAny (model X.prog X.w) X.A (newFunctionEnv scope X.env.globals cl [] X.env.qual none .none (some X.env)) (fun cenv s₄ =>
      codeAny (model X.prog X.w) X.A (.compStart (.ListComp elt [⟨.Name x px, iter, cds, 0⟩] scope pos) 0 (.ref it) acc { cenv with scope := relabel scope X.env }) (RR acc cenv.locals) s₄) E s₃) E s := by
  have hfree : ∀ z ∈ scope.names, z.2 = .free → ∃ c, X.env.cells.lookup z.1 = some c := fun z hz hk => by
    rcases (S.ok z hz hk).2 with q | q
    · exact I.ok.has z.1 (.inl q)
    · exact I.ok.has z.1 (.inr q)
  refine ⟨_, clos_eq hfree, ?_⟩
  have clS : ∀ y c, (closOf X.env.cells scope.names []).lookup y = some c → X.env.cells.lookup y = some c := fun y c => clos_sound scope.names [] hfree fun q => by cases q
  generalize hcl : closOf X.env.cells scope.names [] = cl at clS
  have clH : ∀ y, scope.names.lookup y = some .free → ∃ c, cl.lookup y = some c := fun y hy => by
    rw [← hcl]
    exact clos_has scope.names [] (lookup_mem hy)
  refine wpAny_newObj_type (newFunctionEnv_one S.cell ?_)
  have I3 : Inv X pins σ (upd H s.heap.objs.size (.lst [])) { s with heap := s.heap.push { cls := .type "list", data := .seq ([] : List Value).toArray } } := I.lnew (t' := s.toks) .nil (Nat.zero_le _)
  obtain ⟨W, ⟨m0, w0⟩, turn⟩ := hw s.heap.objs.size I.fresh
  dsimp only
  generalize hs3 : ({ s with heap := s.heap.push { cls := .type "list", data := .seq ([] : List Value).toArray } } : Shared) = s3 at I3
  have hh3 : s3.heap = s.heap.push { cls := .type "list", data := .seq ([] : List Value).toArray } := by rw [← hs3]
  have hsz3 : s3.heap.objs.size = s.heap.objs.size + 1 := by rw [hh3, Heap.size_push]
  rw [← hh3]
  generalize hh₁ : (s3.heap.push { cls := .type "dict", data := .dict #[] }).push { cls := .type "cell", data := .cell none } = h₁
  have old : ∀ b o, s3.heap.get? b = some o → h₁.get? b = some o := fun b o e => by rw [← hh₁]; exact Heap.get?_push_of_some _ (Heap.get?_push_of_some _ e)
  have old0 : ∀ b o, s.heap.get? b = some o → h₁.get? b = some o := fun b o e => old b o (by rw [hh3]; exact Heap.get?_push_of_some _ e)
  have hns₁ : h₁.Ns s3.heap.objs.size fun _ => none := by rw [← hh₁]; exact (Heap.Ns.new s3.heap (.type "dict")).keeps fun b o e => Heap.get?_push_of_some _ e
  have hzp : (s3.heap.push { cls := .type "dict", data := .dict #[] }).objs.size = s3.heap.objs.size + 1 := Heap.size_push ..
  have hce : h₁.IsCell (s3.heap.objs.size + 1) none := ⟨_, by rw [← hh₁, ← hzp]; exact Heap.get?_push_size _ rfl, rfl⟩
  have CneL : s3.heap.objs.size ≠ X.env.locals := Nat.ne_of_gt I3.lt
  have CneC : ∀ y c, X.env.cells.lookup y = some c → c < s3.heap.objs.size := fun y c e => by
    obtain ⟨v, q⟩ := I3.cell y c e
    exact q.lt
  have CneP : ∀ p ∈ X.pn ++ pins, p.1 < s3.heap.objs.size := fun p hp => Heap.lt_size (I3.pin p hp).1
  have fpLt : ∀ b ∈ fp, b < s3.heap.objs.size := fun b hb => by
    obtain ⟨o, e, _⟩ := T.obj 0 s.heap st b hb
    rw [hsz3]
    exact Nat.lt_succ_of_lt (Heap.lt_size e)
  have fpD : ∀ b ∈ fp, b ≠ s.heap.objs.size := fun b hb => by
    obtain ⟨o, e, _⟩ := T.obj 0 s.heap st b hb
    exact Nat.ne_of_lt (Heap.lt_size e)
  generalize hC1 : s3.heap.objs.size + 1 = C1 at hce hzp
  have C1gt : s3.heap.objs.size < C1 := by rw [← hC1]; exact Nat.lt_succ_self _
  have cases' : ∀ y c, List.lookup y ((x, C1) :: cl) = some c → (y = x ∧ c = C1) ∨ (y ≠ x ∧ cl.lookup y = some c) := fun y c e => by
    by_cases hy : y = x
    · subst hy
      rw [look_x] at e
      exact .inl ⟨rfl, (Option.some.inj e).symm⟩
    · rw [look_ne hy] at e
      exact .inr ⟨hy, e⟩
  have ltC1 : ∀ y c, cl.lookup y = some c → c < s3.heap.objs.size := fun y c e => CneC y c (clS y c e)

  have ok' : (cxCompC X x N' scope ((x, C1) :: cl) s3.heap.objs.size s3 (upd H s.heap.objs.size (.lst [])) fp).Ok := by
    refine ⟨I3.ok.mod, ?_, I3.ok.glob, I3.ok.blt, Nat.le_refl _, fun y z c h1 h2 => ?_, fun y hy => ?_, fun y c hf e => ?_, I3.ok.hd, I3.ok.frames, .inl rfl, fun b hb => ⟨Nat.ne_of_lt (fpLt b hb), fun y c e => ?_⟩,
      fun b o e => I3.bs b o e, Nat.le_trans I3.ok.bsz I3.sz, fun b o e hb => ?_, fun b hb z => ?_, I3.stack, I3.stkFree⟩
    · show (relabel scope X.env).kind = .function
      exact S.kind
    · rcases cases' y c h1 with ⟨e1, e2⟩ | ⟨n1, e1⟩
      · rcases cases' z c h2 with ⟨e3, e4⟩ | ⟨n3, e3⟩
        · rw [e1, e3]
        · exact absurd (ltC1 z c e3) (by rw [e2]; exact Nat.not_lt.mpr (Nat.le_of_lt C1gt))
      · rcases cases' z c h2 with ⟨e3, e4⟩ | ⟨n3, e3⟩
        · exact absurd (ltC1 y c e1) (by rw [e4]; exact Nat.not_lt.mpr (Nat.le_of_lt C1gt))
        · exact I3.ok.inj y z c (clS y c e1) (clS z c e3)
    · by_cases hyx : y = x
      · subst hyx
        exact ⟨C1, look_x⟩
      have hy' : (relabel scope X.env).names.lookup y = some .cell ∨ (relabel scope X.env).names.lookup y = some .free := hy
      rw [relabel_lookup] at hy'
      cases q : scope.names.lookup y with
      | none => rw [q] at hy'; rcases hy' with z | z <;> cases z
      | some k =>
        have hm := lookup_mem q
        cases k with
        | free =>
          obtain ⟨c, hc'⟩ := clH y q
          exact ⟨c, (look_ne hyx).trans hc'⟩
        | cell =>
          have : (y, NameKind.cell) ∈ scope.names.filter (fun y => y.2 == .cell) := List.mem_filter.mpr ⟨hm, rfl⟩
          rw [S.cell] at this
          exact absurd (congrArg Prod.fst (List.mem_singleton.mp this)) hyx
        | «local» => rw [q] at hy'; rcases hy' with z | z <;> simp at z
        | globalExplicit => rw [q] at hy'; rcases hy' with z | z <;> simp at z
        | globalImplicit => rw [q] at hy'; rcases hy' with z | z <;> simp at z
    · have hyx : y = x := by simpa using hf
      rcases cases' y c e with ⟨_, e2⟩ | ⟨n1, _⟩
      · rw [e2]; exact Nat.le_of_lt C1gt
      · exact absurd hyx n1
    · rcases cases' y c e with ⟨_, e2⟩ | ⟨n1, e1⟩
      · rw [e2]; exact fun z => absurd (fpLt b hb) (by rw [← z]; exact Nat.not_lt.mpr (Nat.le_of_lt C1gt))
      · exact (f2 b hb).2.2.2.2.1 y c (clS y c e1)
    · rcases (f2 b hb).2.2.2.1 with z | z
      · exact I.ok.noex b o e z
      · exact absurd (Nat.lt_of_lt_of_le (Heap.lt_size e) (Nat.le_trans I.ok.bsz z)) (Nat.lt_irrefl _)
    · rcases List.mem_cons.mp (I3.stkSub b z) with q | q
      · exact (f2 b hb).2.1 q
      · exact (f2 b hb).2.2.1 q
  have fpOk' : ∀ {H' : Hp}, (∀ b ∈ fp, H' b = none) → ∀ b ∈ fp, FpOk (cxCompC X x N' scope ((x, C1) :: cl) s3.heap.objs.size s3 (upd H s.heap.objs.size (.lst [])) fp) pins H' b := fun hn b hb =>
    ⟨hn b hb, Nat.ne_of_lt (fpLt b hb), fun z => by
      rcases List.mem_cons.mp (I3.stkSub b z) with q | q
      · exact (f2 b hb).2.1 q
      · exact (f2 b hb).2.2.1 q, .inl hb, fun y c e => by
      rcases cases' y c e with ⟨_, e2⟩ | ⟨n1, e1⟩
      · rw [e2]; exact fun z => absurd (fpLt b hb) (by rw [← z]; exact Nat.not_lt.mpr (Nat.le_of_lt C1gt))
      · exact (f2 b hb).2.2.2.2.1 y c (clS y c e1), (f2 b hb).2.2.2.2.2⟩
  have I4 : Inv (cxCompC X x N' scope ((x, C1) :: cl) s3.heap.objs.size s3 (upd H s.heap.objs.size (.lst [])) fp) pins (none :: σ) (upd H s.heap.objs.size (.lst [])) { s3 with heap := h₁ } := by
    refine ⟨ok', rfl, I3.bare, Un.kept old, ⟨_, hns₁, fun i y v e1 e2 vis => ?_⟩, fun y c e => ?_, ?_, fun y c e => ?_, fun p hp => ?_, I3.hok.kept old, ?_⟩
    · cases i with
      | zero => cases e2
      | succ i =>
        have e2' : σ[i]? = some (some v) := by simpa using e2
        have hi : i < X.N.length := by rw [← I3.len]; exact (List.getElem?_eq_some_iff.mp e2').1
        have vis' : (relabel scope X.env).names.lookup y = some .local ∨ (relabel scope X.env).names.lookup y = some .cell ∨ (relabel scope X.env).names.lookup y = some .free := vis
        have e1' : N'[i + 1]? = some y := e1
        rcases S.sub i hi with q | q
        · rw [e1'] at q
          have hy : X.N[i]? = some y := q.symm
          have hmem : y ∈ N'.tail := by
            rw [List.mem_iff_getElem?]
            exact ⟨i, by rw [List.getElem?_tail]; exact e1'⟩
          have hfr : scope.names.lookup y = some .free := by
            rw [relabel_lookup] at vis'
            cases q2 : scope.names.lookup y with
            | none => rw [q2] at vis'; rcases vis' with z | z | z <;> cases z
            | some k =>
              cases k with
              | free => rfl
              | cell => exact absurd q2 (S.nol y hmem).2
              | «local» => exact absurd q2 (S.nol y hmem).1
              | globalExplicit => rw [q2] at vis'; rcases vis' with z | z | z <;> simp at z
              | globalImplicit => rw [q2] at vis'; rcases vis' with z | z | z <;> simp at z
          have hyx : y ≠ x := fun z => by rw [z, S.var] at hfr; cases hfr
          have hok := (S.ok (y, .free) (lookup_mem hfr) rfl).2
          obtain ⟨m, hn, hl⟩ := I3.loc
          have visX : Vis X.env.scope y := by
            rcases hok with z | z
            · exact .inr (.inl z)
            · exact .inr (.inr z)
          obtain ⟨u, r, l⟩ := hl i y v hy e2' visX
          refine ⟨u, r, .inr ⟨?_, ?_⟩⟩
          · show (relabel scope X.env).names.lookup y = some .cell ∨ (relabel scope X.env).names.lookup y = some .free
            rw [relabel_lookup, hfr, Option.map_some]
            by_cases hcnd : (NameKind.free == NameKind.free && X.env.scope.kind == .function && X.env.kindOf y == some .cell) = true
            · left
              rw [if_pos hcnd]
            · right
              rw [if_neg hcnd]
          · rcases l with ⟨k, _⟩ | ⟨k, c, e, z⟩
            · have k' : X.env.scope.names.lookup y = some .local := k
              have hok' : X.env.scope.names.lookup y = some .cell ∨ X.env.scope.names.lookup y = some .free := hok
              rw [k'] at hok'
              rcases hok' with z | z <;> cases z
            · obtain ⟨c', e'⟩ := clH y hfr
              have e3 := clS y c' e'
              rw [e] at e3
              cases e3
              obtain ⟨o, ho, hd⟩ := z
              exact ⟨c, (look_ne hyx).trans e', o, old c o ho, hd⟩
        · rw [e1'] at q
          have q : scope.names.lookup y = none := Option.some.inj q
          rw [relabel_lookup, q] at vis'
          rcases vis' with z | z | z <;> cases z
    · rcases cases' y c e with ⟨_, e2⟩ | ⟨n1, e1⟩
      · exact ⟨none, by rw [e2]; exact hce⟩
      · obtain ⟨v, o, ho, hd⟩ := I3.cell y c (clS y c e1)
        exact ⟨v, o, old c o ho, hd⟩
    · show upd H s.heap.objs.size (.lst []) s3.heap.objs.size = none
      exact I3.hok.fresh (Nat.le_refl _)
    · rcases cases' y c e with ⟨_, e2⟩ | ⟨n1, e1⟩
      · rw [e2]; exact I3.hok.fresh (Nat.le_of_lt C1gt)
      · exact I3.freeC y c (clS y c e1)
    · obtain ⟨e, n, ne, nf, d⟩ := I3.pin p hp
      refine ⟨old _ _ e, n, Nat.ne_of_lt (CneP p hp), fun z => ?_, d⟩
      rcases List.mem_cons.mp (I3.stkSub p.1 z) with q | q
      · exact ne q
      · exact nf q
    · show (none :: σ).length = N'.length
      rw [S.len, List.length_cons, I3.len]
  have st4 : tn 0 h₁ := T.keep 0 s.heap h₁ st fun b _ o e => old0 b o e
  have hvar : Loc (relabel scope X.env) x := by
    right
    show (relabel scope X.env).names.lookup x = some .cell
    rw [relabel_lookup, S.var, Option.map_some]
    rfl

  have loop : ∀ s₄ : Shared, s₄ = { s3 with heap := h₁ } →
      codeAny (model X.prog X.w) X.A (.compLoop (.ListComp elt [⟨.Name x px, iter, cds, 0⟩] scope pos) 0 (.ref it) (.ref s.heap.objs.size) (compEnvC scope ((x, C1) :: cl) s3.heap.objs.size X.env)) (RR (.ref s.heap.objs.size) s3.heap.objs.size) s₄ := by
    rintro s₄ rfl
    refine codeAny_compLoop_ts (fun n s' => ∃ i v0 ys H', Inv (cxCompC X x N' scope ((x, C1) :: cl) s3.heap.objs.size s3 (upd H s.heap.objs.size (.lst [])) fp) pins (v0 :: σ) H' s' ∧ tn i s'.heap ∧ (∀ b ∈ fp, H' b = none) ∧ W i n ys H') ?_ m0
      ⟨0, none, [], _, I4, st4, fun b hb => by rw [upd_ne (fpD b hb)]; exact (f2 b hb).1, w0⟩
    rintro n s5 ⟨i, v0, ys, H5, I5, st5, fr5, w5⟩
    rcases turn i n ys H5 w5 with ⟨stop, qn⟩ | ⟨go, hz, N, hN, Nn, hNn, step⟩
    · refine thn (T.done (cxCompC X x N' scope ((x, C1) :: cl) s3.heap.objs.size s3 (upd H s.heap.objs.size (.lst [])) fp) rfl rfl rfl hc i pins s5 (v0 :: σ) H5 (fun _ _ => False) I5 (fpOk' fr5) st5 stop) fun r s6 ⟨hr, I6⟩ => ?_
      subst hr
      have hch : ∀ b ∈ fp, (b ∈ X.ex ∨ X.s₀.heap.objs.size ≤ b) ∧ b ≠ X.env.locals ∧ (∀ x c, X.env.cells.lookup x = some c → c ≠ b) ∧ ∀ p ∈ X.pn ++ pins, p.1 ≠ b := fun b hb =>
        ⟨(f2 b hb).2.2.2.1, (f2 b hb).2.1, (f2 b hb).2.2.2.2.1, (f2 b hb).2.2.2.2.2⟩
      have I7 : Inv X pins σ H5 s6 := I3.call' (ch := fp) I6.os I6.base I6.hok I6.bare hch
      obtain ⟨m, hm, _⟩ := I6.loc
      exact hRR s.heap.objs.size s3.heap.objs.size s6 H5 I7 ⟨m, hm⟩ CneL (fun y c e => Nat.ne_of_lt (CneC y c e)) I6.free (Nat.le_trans I3.sz (Nat.le_refl _)) (fun p hp => Nat.ne_of_lt (CneP p hp)) qn
    · refine thn (T.item (cxCompC X x N' scope ((x, C1) :: cl) s3.heap.objs.size s3 (upd H s.heap.objs.size (.lst [])) fp) rfl rfl rfl hc i pins s5 (v0 :: σ) H5 (fun _ _ => False) I5 (fpOk' fr5) st5 go) fun r s6 ⟨u, hr, h6⟩ => ?_
      subst hr
      refine thn h6 fun _ s7 ⟨y, H7, I7, r7, y7, st7, fr7⟩ => ?_
      have I7' := I7.pinned (fpOk' fr7) (T.obj _ _ st7)
      refine wpAny_assign_Name (store_ok (i := 0) (v := y) I7' S.nd S.hd hvar r7 (fun s8 I8 => ?_) (.inl (beq_self_eq_true x)))
      have I8' : Inv (cxCompC X x N' scope ((x, C1) :: cl) s3.heap.objs.size s3 (upd H s.heap.objs.size (.lst [])) fp) (pins ++ pinsAt fp s7.heap) (some y :: σ) H7 s8 := I8
      refine thn (ht _ s3.heap.objs.size s3 (upd H s.heap.objs.size (.lst [])) fp _ s8 (some y :: σ) H7 (fun b H'' => if b = true then te (some y :: σ) H'' N else Nn H'') I8' (step y H7 y7)) fun okb s8 ⟨H8, I8, q8⟩ => ?_
      cases okb with
      | false =>
        have q8' : Nn H8 := by simpa using q8
        obtain ⟨m', hm, w9⟩ := hNn H8 q8'
        refine ⟨m', hm, i + 1, some y, ys, _, I8.unpinned, T.keep _ _ _ st7 fun b hb o e => (I8.pin (b, o) (List.mem_append_right _ (List.mem_append_right _ (mem_pinsAt hb e)))).1, fun b hb => ?_, w9⟩
        obtain ⟨o, e, d⟩ := T.obj _ _ st7 b hb
        exact (I8.pin (b, o) (List.mem_append_right _ (List.mem_append_right _ (mem_pinsAt hb e)))).2.1
      | true =>
        refine thn (he _ s3.heap.objs.size s3 (upd H s.heap.objs.size (.lst [])) fp _ s8 (some y :: σ) H8 N I8 (by simpa using q8)) fun w s9 ⟨v, H9, I9, r9, q9⟩ => ?_
        obtain ⟨hD9, m', hm, w9⟩ := hN v H9 q9
        refine thn (mt_append _ s9 (some y :: σ) H9 (.ref s.heap.objs.size) [v] (.ref s.heap.objs.size) [w] (fun z H10 => z = .non ∧ H10 = upd H9 s.heap.objs.size (.lst (ys ++ [v]))) I9 rfl (.cons r9 .nil) ⟨s.heap.objs.size, ys, v, rfl, rfl, hD9, hz, rfl, rfl⟩) fun _ s10 ⟨z, H10, I10, _, ez, e10⟩ => ?_
        subst e10
        refine ⟨m', hm, i + 1, some y, ys ++ [v], _, I10.unpinned, T.keep _ _ _ st7 fun b hb o e => (I10.pin (b, o) (List.mem_append_right _ (List.mem_append_right _ (mem_pinsAt hb e)))).1, fun b hb => ?_, w9⟩
        obtain ⟨o, e, d⟩ := T.obj _ _ st7 b hb
        exact (I10.pin (b, o) (List.mem_append_right _ (List.mem_append_right _ (mem_pinsAt hb e)))).2.1
  exact codeAny_compStart_list (loop _ (by rw [← hs3])) (T.self X.A 0 _ _ _ st4 (loop _ (by rw [← hs3])))
end
end L2

set_option Elab.async false
set_option linter.all false
set_option maxRecDepth 100000
set_option maxHeartbeats 4000000
namespace L2
open PySem PySem.Spec PyProof.Rows
section
variable {X : Cx} {N' : List Str} {scope : Scope} {x : Str} {px : Pos} {elt iter : Expr} {cds : List Expr} {pos : Pos} {te : TE} {tc : TT} {wi : TI}
theorem pe_compCx {at' : St → VK → It → Hp → Prop} (S : CompScC X.N N' X.env.scope scope x) (hc : X.calm = true) (hi : PI X (.Name x px) iter wi) (ht : ∀ cl C s H fp, PTL (cxCompC X x N' scope cl C s H fp) cds tc) (he : ∀ cl C s H fp, PE (cxCompC X x N' scope cl C s H fp) elt te) (cv : ∀ σ Q J H, at' σ Q J H → compAtF tc te σ Q J H)
    (hs : ∀ x, foldedSetIterable iter X.env x = pure x := by intro _; rfl) : PE X (.ListComp elt [⟨.Name x px, iter, cds, 0⟩] scope pos) (fun σ H Q => wi σ H (at' σ Q)) := by
  intro pins s σ H Q I h
  rw [eval_ListComp]
  have hfree : ∀ z ∈ scope.names, z.2 = .free → ∃ c, X.env.cells.lookup z.1 = some c := fun z hz hk => by
    rcases (S.ok z hz hk).2 with q | q
    · exact I.ok.has z.1 (.inl q)
    · exact I.ok.has z.1 (.inr q)
  refine wpAny_comprehension_free (use := none) rfl hs (clos_eq hfree) S.kind S.names (thn (hi pins s σ H _ I h) fun xv s1 h1 => thn h1 fun itv s2 h2 => ?_)
  obtain ⟨it, fp, tn, J, H2, e, I2, T, st2, f2, hw⟩ := h2
  subst e
  obtain ⟨cl, hcl, hrun⟩ := compc_core (tc := tc) (cds := cds) (elt := elt) (iter := iter) (pos := pos) (px := px) (E := X.xe) (RR := fun acc C => compPost (model X.prog X.w) X.A X.xe none (EP X pins σ Q) acc C) S hc ht he I2 T st2 f2 (cv _ _ _ _ hw) (fun D C s' H' I' ⟨m, hm⟩ n1 n2 n3 n4 n5 q =>
    ⟨m, hm, fun h' hsb => ⟨.ref D, H', I'.turned (it := C) (t' := s'.toks) (fun b o hb e => (hsb.2 b hb).trans e) n3 n1 (.inr n4) n2 n5, rfl, q⟩⟩)
  have ecl : (pure (closOf X.env.cells scope.names []) : Sem (List (Str × Addr))) = pure cl := (clos_eq hfree).symm.trans hcl
  have ecl' : closOf X.env.cells scope.names [] = cl := by
    injection ecl
  rw [ecl']
  exact hrun
theorem ps_setCompCx {at' : St → VK → It → Hp → Prop} {i : Nat} {y : Str} {py spos : Pos} (S : CompScC X.N N' X.env.scope scope x) (hc : X.calm = true) (hi : PI X (.Name x px) iter wi) (ht : ∀ cl C s H fp, PTL (cxCompC X x N' scope cl C s H fp) cds tc) (he : ∀ cl C s H fp, PE (cxCompC X x N' scope cl C s H fp) elt te) (cv : ∀ σ Q J H, at' σ Q J H → compAtF tc te σ Q J H)
    (hN : X.N.Nodup) (hy : X.N[i]? = some y) (hyl : X.env.scope.names.lookup y = some .local)
    (hsw : swapsWith (.ListComp elt [⟨.Name x px, iter, cds, 0⟩] scope pos) (some (.Name y py)) spos.line X.env = pure true := by rfl)
    (hs : ∀ x, foldedSetIterable iter X.env x = pure x := by intro _; rfl) : PS X (.Assign [.Name y py] (.ListComp elt [⟨.Name x px, iter, cds, 0⟩] scope pos) spos) (tAsg (fun σ H Q => wi σ H (at' σ Q)) (gName i)) := by
  intro pins s σ H D0 I h
  have hfree : ∀ z ∈ scope.names, z.2 = .free → ∃ c, X.env.cells.lookup z.1 = some c := fun z hz hk => by
    rcases (S.ok z hz hk).2 with q | q
    · exact I.ok.has z.1 (.inl q)
    · exact I.ok.has z.1 (.inr q)
  rw [exec_Assign_Name_used _ _ _ _ hsw]
  refine wpAny_bind (wpAny_standAt (wpAny_bind ?_))
  show wpAny _ X.A (do let _ ← comprehension (.ListComp elt [⟨.Name x px, iter, cds, 0⟩] scope pos) scope X.env _ (newList []) false (eval iter X.env) (some (assign (.Name y py) X.env))) _ _ s
  refine wpAny_bind (wpAny_mono (wpAny_comprehension_free (use := some (assign (.Name y py) X.env)) (Q := fun _ s' => SP X pins D0 .next s') rfl hs (clos_eq hfree) S.kind S.names
    (thn (hi pins s σ H _ I h) fun xv s1 h1 => thn h1 fun itv s2 h2 => ?_)) (fun _ s' hq => wpAny_pure (wpAny_pure hq)) fun _ _ e => e)
  obtain ⟨it, fp, tn, J, H2, e, I2, T, st2, f2, hw⟩ := h2
  subst e
  obtain ⟨cl, hcl, hrun⟩ := compc_core (tc := tc) (cds := cds) (elt := elt) (iter := iter) (pos := pos) (px := px) (E := X.xe) (Q := fun x H1 => gName i x σ H1 D0.nx) (RR := fun acc C => compPost (model X.prog X.w) X.A X.xe (some (assign (.Name y py) X.env)) (fun _ s' => SP X pins D0 .next s') acc C) S hc ht he I2 T st2 f2 (cv _ _ _ _ hw) (fun D C s' H' I' ⟨m, hm⟩ n1 n2 n3 n4 n5 q => by
    show wpAny _ X.A (assign (.Name y py) X.env (.ref D)) _ _ _
    refine wpAny_assign_Name (store_ok2 (i := i) (v := .ref D) I' hN hy (.inl hyl) rfl (fun s'' I'' ⟨a, hsa, hwa⟩ => ?_) (.inr hyl))
    have haC : C ≠ a := by
      rcases hwa with z | z
      · rw [z]; exact n1
      · intro z2
        exact n2 y a z z2.symm
    refine ⟨m, hm.sameBut hsa haC, fun h' hsb => ?_⟩
    exact ⟨_, H', I''.turned (it := C) (t' := s''.toks) (fun b o hb e => (hsb.2 b hb).trans e) n3 n1 (.inr n4) n2 n5, q⟩)
  have ecl : (pure (closOf X.env.cells scope.names []) : Sem (List (Str × Addr))) = pure cl := (clos_eq hfree).symm.trans hcl
  have ecl' : closOf X.env.cells scope.names [] = cl := by
    injection ecl
  rw [ecl']
  exact hrun
theorem pe_compC (S : CompScC X.N N' X.env.scope scope x) (hc : X.calm = true) (hi : PI X (.Name x px) iter wi) (he : ∀ cl C s H fp, PE (cxCompC X x N' scope cl C s H fp) elt te)
    (hs : ∀ x, foldedSetIterable iter X.env x = pure x := by intro _; rfl) : PE X (.ListComp elt [⟨.Name x px, iter, [], 0⟩] scope pos) (tComp wi te) :=
  pe_compCx (at' := fun σ Q => compAt te σ Q) S hc hi (fun _ _ _ _ _ => ptl_nil) he (fun _ _ _ _ h => h.toF) hs
theorem ps_setCompC {i : Nat} {y : Str} {py spos : Pos} (S : CompScC X.N N' X.env.scope scope x) (hc : X.calm = true) (hi : PI X (.Name x px) iter wi) (he : ∀ cl C s H fp, PE (cxCompC X x N' scope cl C s H fp) elt te)
    (hN : X.N.Nodup) (hy : X.N[i]? = some y) (hyl : X.env.scope.names.lookup y = some .local)
    (hsw : swapsWith (.ListComp elt [⟨.Name x px, iter, [], 0⟩] scope pos) (some (.Name y py)) spos.line X.env = pure true := by rfl)
    (hs : ∀ x, foldedSetIterable iter X.env x = pure x := by intro _; rfl) : PS X (.Assign [.Name y py] (.ListComp elt [⟨.Name x px, iter, [], 0⟩] scope pos) spos) (tAsg (tComp wi te) (gName i)) :=
  ps_setCompCx (at' := fun σ Q => compAt te σ Q) S hc hi (fun _ _ _ _ _ => ptl_nil) he (fun _ _ _ _ h => h.toF) hN hy hyl hsw hs
end
theorem relabel_ok {outer inner : Scope} (h : ∀ y ∈ inner.names, y.2 = .free → outer.names.lookup y.1 = some .cell ∨ outer.names.lookup y.1 = some .free) (env : Env) : ∀ y ∈ inner.names, y.2 = .free → (relabel outer env).names.lookup y.1 = some .cell ∨ (relabel outer env).names.lookup y.1 = some .free := fun y hy hk => by
  rw [relabel_lookup]
  rcases h y hy hk with z | z
  · left
    rw [z, Option.map_some]
    rfl
  · rw [z, Option.map_some]
    by_cases hcnd : (NameKind.free == NameKind.free && env.scope.kind == .function && env.kindOf y.1 == some .cell) = true
    · left
      rw [if_pos hcnd]
    · right
      rw [if_neg hcnd]
end L2

set_option Elab.async false
set_option linter.all false
set_option maxRecDepth 100000
set_option maxHeartbeats 4000000

namespace L2
open PySem PySem.Spec PyProof.Rows

set_option genInjectivity false in
structure Cal (P : Program) (w : World) (K : PySem.W.Frag) (mg : Str → Option Value) (base : Heap) (CX : CXT) (x : Str) (k : Nat) (ps : List Str) (sp : Sp) : Prop where
  ex : ∃ (f : Addr) (fd : FuncData), FnOk P w K mg base CX k f fd ps sp ∧ mg x = some (.ref f) ∧ PySem.W.keepIn K (.ref f) = true ∧ Binds K fd ps []
section
variable {X : Cx}
theorem pe_cal {CX : CXT} {x : Str} {j k : Nat} {ps : List Str} {sp : Sp} {E : XK} {e : Expr} {es : List Expr} {t : TA} {p pos : Pos} (c : Cal X.prog X.w X.K X.mg X.base CX x j ps sp) (hr : Room k X.A) (hx : Passes CX X E) (ha : PA X (e :: es) t)
    (hjk : j ≤ k := by decide) (hg : Gl X x := by rfl) (hdb : (x == ("__debug__" : Str)) = false := by decide) (he : starEach (e :: es) X.env = (false, eval e X.env) :: starEach es X.env := by rfl) (hpl : (backTo pos (starEach es X.env)).any (·.1) = false := by rfl) :
    PE X (.Call (.Name x p) (e :: es) [] pos) (tCall sp [] E t) := by
  obtain ⟨f, fd, F, hm, hk, hb⟩ := c.ex
  exact pe_call F (hr.mono hjk) hg hm hk hb .nil hx ha hdb he hpl

theorem call_isinst : CallR X (.builtin "isinstance") (fun xs H Q => ∃ (x : V) (c : String) (t : Value) (b : Bool), xs = [x, .ty c] ∧ TyOf X.K H x t ∧ PySem.W.kitOne X.K t (.type c) = some b ∧ Q (.bl b) H) := by
  intro pins s σ H xs us Q I r h
  obtain ⟨x, c, t, b, rfl, ty, e, q⟩ := h
  obtain ⟨u, w', rfl, ru, rw'⟩ := vals2 r
  cases (show w' = Value.type c from rw')
  exact isinst_ok I ru ty e fun tk => ⟨.bl b, H, I.tok tk, rfl, q⟩
theorem kit_same {K : PySem.W.Frag} (T : String) : PySem.W.kitOne K (.type T) (.type T) = some true := by
  unfold PySem.W.kitOne
  rw [if_pos (by simp)]
theorem kit_int_bool {K : PySem.W.Frag} : PySem.W.kitOne K (.type "int") (.type "bool") = some false := by
  unfold PySem.W.kitOne
  rw [if_neg (by decide)]
  rfl

theorem op_catL : OpR X (binaryOp .Add) (fun x y H Q => ∃ (l b : Addr) (xs zs : List V), x = .ref l ∧ y = .ref b ∧ SqL X.K H l xs ∧ SqL X.K H b zs ∧ xs.length + zs.length ≤ sizeLine ∧ ∀ p, H p = none → Q (.ref p) (upd H p (.lst (xs ++ zs)))) := by
  intro pins s σ H x y v u Q I rx ry h
  obtain ⟨l, b, xs, zs, rfl, rfl, hH, hB, hz, q⟩ := h
  cases rx
  cases ry
  obtain ⟨its, r, ⟨⟨cls, dd, data, sl⟩, n, ho, hc, hdd, hd⟩, _⟩ := I.list hH
  obtain ⟨its2, r2, ⟨⟨cls2, dd2, data2, sl2⟩, n2, ho2, hc2, hdd2, hd2⟩, _⟩ := I.list hB
  simp only at hc hd hc2 hd2
  subst hc hd hc2 hd2
  have e : its.toArray ++ its2.toArray = (its ++ its2).toArray := by simp
  refine concat_meets ⟨_, ho, rfl⟩ ⟨_, ho2, rfl⟩ noFill_list_add seq_list_add PySem.F.slot_list_add PySem.F.entry_list_add (PySem.F.args_list_add_2 _ _) (list_addW l b its.toArray its2.toArray n n2 dd dd2 sl sl2 (by rw [List.size_toArray, List.size_toArray, ← r.length, ← r2.length]; exact hz)) ⟨ho, ho2, ?_⟩
  rw [e]
  exact ⟨.ref _, _, I.lnew (t' := s.toks) (r.append r2) (by rw [List.length_append]; exact hz), rfl, q _ I.fresh⟩

end
end L2

set_option Elab.async false
set_option linter.all false
set_option maxRecDepth 100000
set_option maxHeartbeats 4000000

namespace L2
open PySem PySem.Spec PyProof.Rows

set_option genInjectivity false in
structure Fly (P : Program) (w : World) (outer : List Env) (H : Hp) (s : Shared) (a : Addr) (cls : Value) (H' : Hp) (s' : Shared) : Prop where
  os : s'.os = s.os
  bare : AllBare s'.gens
  ex : ∃ (B : Heap) (t : Addr), Heap.FlyingW B outer a cls (.ref t) s'.heap ∧ HOk P w H' B ∧ (∀ b o, s.heap.get? b = some o → H b = none → b ∉ frs outer → B.get? b = some o) ∧
    ∀ b o, s.heap.get? b = some o → b ∉ frs outer → ∃ o', B.get? b = some o'
  slot : ∀ b o, s.heap.get? b = some o → H b = none → b ∈ frs outer → ∃ sl, s'.heap.get? b = some { o with slots := sl }
  free : ∀ b o, s.heap.get? b = some o → H b = none → H' b = none
  tups : ∀ b xs, H b = some (.tup xs) → H' b = some (.tup xs)
  frzs : ∀ b o u, H b = some (.frz o u) → H' b = some (.frz o u)
  tbls : ∀ b ps, H b = some (.tbl ps) → ∃ more, H' b = some (.tbl (ps ++ more))
noncomputable def CX1 (P : Program) (w : World) : CXT := fun outer H s E e s' => ∃ a cls H', e = .ref a ∧ Fly P w outer H s a cls H' s' ∧ E cls none H'

section
variable {X : Cx} {pins : List (Addr × Obj)} {σ : St} {H H' : Hp} {s s' : Shared} {a : Addr} {cls : Value} {E : Value → Shared → Prop}

end

section
variable {P : Program} {w : World} {K : PySem.W.Frag} {mg : Str → Option Value} {base : Heap} {N : List Str} {qual : Str} {scope : Scope} {f : Addr} {cdv : Value} {A : Around} {outer : List Env} {s : Shared} {H : Hp} {E : XK}
theorem pass1 {X : Cx} : Passes (CX1 P w) X E0 := fun _ _ _ _ _ _ _ h => by
  obtain ⟨_, _, _, _, _, q⟩ := h
  exact q.elim
end
end L2

set_option Elab.async false
set_option linter.all false
set_option maxRecDepth 100000
set_option maxHeartbeats 4000000

namespace L2
open PySem PySem.Spec PyProof.Rows

noncomputable def XP (X : Cx) (pins : List (Addr × Obj)) (R : St → Value → Hp → Prop) (e : Value) (s' : Shared) : Prop :=
  ∃ a cls σ' H s1 H', e = .ref a ∧ Inv X pins σ' H s1 ∧ Fly X.prog X.w X.stack H s1 a cls H' s' ∧ R σ' cls H'
noncomputable abbrev TTy := Ends → (St → Value → Hp → Prop) → St → Hp → Prop
noncomputable def PTy (X : Cx) (st : List Stmt) (t : TTy) : Prop :=
  ∀ (pins : List (Addr × Obj)) (s : Shared) (σ : St) (H : Hp) (D : Ends) (R : St → Value → Hp → Prop), Inv X pins σ H s → t D R σ H → wpAny (model X.prog X.w) X.A (execs st X.env) (SP X pins D) (XP X pins R) s
section
variable {X : Cx}
noncomputable abbrev TH := Ends → St → Value → Hp → Prop
noncomputable def PH (X : Cx) (hs : List ExceptHandler) (t : TH) : Prop :=
  ∀ (pins : List (Addr × Obj)) (σ : St) (H : Hp) (s : Shared) (a : Addr) (cls : Value) (H' : Hp) (s' : Shared) (D : Ends), Inv X pins σ H s → Fly X.prog X.w X.stack H s a cls H' s' → t D σ cls H' →
    wpAny (model X.prog X.w) X.A (handleBy (.ref a) X.env hs) (SP X pins D) X.xe s'
end
end L2

set_option Elab.async false
set_option linter.all false
set_option maxRecDepth 100000
set_option maxHeartbeats 4000000

namespace L2
open PySem PySem.Spec PyProof.Rows

namespace RV
section
variable {prog : Program} {w : World} {A : Around} {E : Value → Shared → Prop} {s : Shared}
end
end RV

section
variable {X : Cx}
end
end L2

set_option Elab.async false
set_option linter.all false
set_option maxRecDepth 100000
set_option maxHeartbeats 4000000

namespace L2
open PySem PySem.Spec PyProof.Rows

namespace SE
section
variable {prog : Program} {w : World} {A : Around} {R : Result → Shared → Prop} {J : Addr} {fp wr : List Addr} {G : Array GenState → Array GenState → Prop} {n : Nat} {P : Nat → Value → Prop} {St : Nat → Shared → Prop}
variable {E : Value → Shared → Prop} {s : Shared}
end
end SE

section
variable {X : Cx}
end
end L2

set_option Elab.async false
set_option linter.all false
set_option maxRecDepth 100000
set_option maxHeartbeats 4000000

namespace L2
open PySem PySem.Spec PyProof.Rows
section
variable {X : Cx}
namespace LM
end LM
theorem ix_list_K (K : PySem.W.Frag) (hK : X.K = K) : IxR X (rIxL K) := by
  subst hK
  exact ix_list
end
end L2

set_option Elab.async false
set_option linter.all false
set_option maxRecDepth 100000
set_option maxHeartbeats 4000000

namespace L2
open PySem PySem.Spec PyProof.Rows

section
variable {X : Cx} {tg : Expr}
end
section
variable {X : Cx}
namespace RV
variable {prog : Program} {w : World} {A : Around} {E : Value → Shared → Prop} {s : Shared}
end RV
end
end L2

set_option Elab.async false
set_option linter.all false
set_option maxRecDepth 100000
set_option maxHeartbeats 4000000

namespace L2
open PySem PySem.Spec PyProof.Rows

section
variable {P : Program} {w : World} {K : PySem.W.Frag} {mg : Str → Option Value} {base : Heap}
theorem Fun.okN {x qual : Str} {st : Stmt} {f : Addr} {fd : FuncData} {N ps : List Str} {k : Nat} {sp : Sp} (F : Fun K x qual st f fd) (S : FnScope N ps (defScope st)) (len : ∀ vs H Q E, sp vs H Q E → vs.length = ps.length)
    (hbody : ∀ (cdv : Value) (A : Around) (outer : List Env) (s : Shared) (H : Hp) (vs : List V) (Q : VK) (E : XK), Room k (A.deeper (envOfC qual (defScope st) s.heap.objs.size f cdv)) → sp vs H Q E →
      ∃ t, PSs (cxOf (CX1 P w) P w K mg base N qual (defScope st) f cdv A outer s H E).nox (defBody st) t ∧ t { nx := fun _ H' => Q .non H', rt := Q } (start N vs) H) : FnOk P w K mg base (CX1 P w) (k + 1) f fd ps sp := by
  obtain ⟨oc, od, kV, doc, pm, an, cdv, ct, osl, rfl, lk, hcd⟩ := F.ex
  refine fn_of lk hcd S len fun A outer s H vs Q E hr hsp => ?_
  obtain ⟨t, h, q⟩ := hbody cdv A outer s H vs Q E hr hsp
  exact ⟨t, h.nox, q⟩
end

namespace EX
open PySem.W PySem.Calls PySem.Builtin PySem.Builtin.ObjectAttr PySem.Builtin.Getset_descriptor
variable {prog : Program} {w : World} {A : Around} {E : Value → Shared → Prop} {s : Shared} {K : PySem.W.Frag} {a C : Addr}
end EX
section
variable {X : Cx}
end
end L2

set_option Elab.async false
set_option linter.all false
set_option maxRecDepth 100000
set_option maxHeartbeats 4000000

namespace L2
open PySem PySem.Spec PyProof.Rows
section
variable {X : Cx} {es : List Expr} {te : TE} {t : TA}
end
end L2

set_option Elab.async false
set_option linter.all false
set_option maxRecDepth 100000
set_option maxHeartbeats 4000000

namespace L2
open PySem PySem.Spec PyProof.Rows
section
variable {X : Cx} {tg : Expr}
end
end L2

set_option Elab.async false
set_option linter.all false
set_option maxRecDepth 100000
namespace L2
open PySem
section
variable {X : Cx} {N' : List Str} {scope : Scope} {x : Str} {px : Pos} {elt iter cd : Expr} {pos : Pos} {te : TE} {tc : TT} {wi : TI}

end

section
variable {X : Cx}
end
end L2

set_option autoImplicit false
set_option linter.all false
set_option maxRecDepth 100000
namespace SR
open PySem PyProof.Rows
section
variable {prog : Program} {w : World} {A : Around} {E : Value → Shared → Prop} {s : Shared} {z : Array Keyed} {κ : KeyKind} {kd : SortKind}
end
end SR

set_option autoImplicit false
set_option linter.all false
set_option maxRecDepth 100000
namespace SR
open PySem PyProof.Rows
noncomputable def bq (left : Bool) (key : Keyed) (arr : Array Keyed) (base : Nat) (i : Nat) : StateT SortSt Sem (Option Bool) := do
  let x ← elem' arr (base + i)
  if left then lt' x key else return (← lt' key x).map (!·)
section
variable {prog : Program} {w : World} {A : Around} {E : Value → Shared → Prop} {s : Shared} {z : Array Keyed} {κ : KeyKind} {kd : SortKind}
end
end SR

set_option autoImplicit false
set_option linter.all false
set_option maxRecDepth 100000
namespace SR
open PySem PyProof.Rows
section
variable {prog : Program} {w : World} {A : Around} {E : Value → Shared → Prop} {s : Shared} {z : Array Keyed} {κ : KeyKind} {kd : SortKind}
end
end SR

set_option autoImplicit false
set_option linter.all false
set_option maxRecDepth 100000
namespace SR
open PySem PyProof.Rows
section
variable {prog : Program} {w : World} {A : Around} {E : Value → Shared → Prop} {s : Shared} {κ : KeyKind} {kd : SortKind}
end
end SR

set_option autoImplicit false
set_option linter.all false
set_option maxRecDepth 100000
namespace SR
open PySem PyProof.Rows
noncomputable def rt (a : Array Keyed) (n : Nat) : List Keyed := (a.toList.take n).reverse
section
variable {prog : Program} {w : World} {A : Around} {E : Value → Shared → Prop} {s : Shared} {κ : KeyKind} {kd : SortKind}
end
end SR

set_option autoImplicit false
set_option linter.all false
set_option maxRecDepth 100000
namespace SR
open PySem PyProof.Rows
noncomputable def sg (xs : Array Keyed) (l n : Nat) : List Keyed := (xs.toList.drop l).take n
section
variable {κ : KeyKind} {kd : SortKind}
end
end SR

set_option autoImplicit false
set_option linter.all false
set_option maxRecDepth 100000
namespace SR
open PySem PyProof.Rows
section
variable {prog : Program} {w : World} {A : Around} {E : Value → Shared → Prop} {s : Shared} {z : Array Keyed} {κ : KeyKind} {kd : SortKind}
end
end SR

set_option autoImplicit false
set_option linter.all false
set_option maxRecDepth 100000
namespace SR
open PySem PyProof.Rows
section
variable {κ : KeyKind} {kd : SortKind}
end
section
variable {prog : Program} {w : World} {A : Around} {E : Value → Shared → Prop} {s : Shared} {z : Array Keyed} {κ : KeyKind} {kd : SortKind}
end
end SR

set_option autoImplicit false
set_option linter.all false
set_option maxRecDepth 100000
set_option maxHeartbeats 200000
namespace SR
open PySem PyProof.Rows PySem.Spec
section
variable {prog : Program} {w : World} {A : Around} {E : Value → Shared → Prop} {s : Shared}
end
end SR

set_option Elab.async false
set_option linter.all false
set_option maxRecDepth 100000
namespace L2
open PySem PyProof.Rows PySem.Spec
section
variable {X : Cx}
end
end L2

set_option Elab.async false
set_option linter.all false
set_option maxRecDepth 100000
namespace L2
open PySem PyProof.Rows PySem.Spec
section
variable {X : Cx}
theorem call_sumX (hc : X.calm = true) : CallR X (.builtin "sum") (fun xs H Q => ∃ (p : Addr) (ns : List Int), xs = [.ref p] ∧ SqL X.K H p (ns.map V.int) ∧ Q (.int ns.sum) H) := by
  intro pins s σ H xs us Q I r h
  obtain ⟨p, ns, rfl, hq, q⟩ := h
  obtain ⟨u, rfl, ru⟩ := vals1 r
  cases ru
  obtain ⟨its, rv, pl, _⟩ := I.list hq
  have hia := intsAre_of rv
  have hnum := hia.numsOf
  obtain ⟨ys, hx⟩ := hia.allInts.items
  have hl := pl.isList
  rw [hx] at hl
  have e : preSum (numAt ys) ys.size = ns.sum := by
    rw [preSum_eq, List.take_of_length_le (by simp)]
    rw [← hnum, show its = its.toArray.toList from by simp, hx, nums_intItems]
  exact sum_intListG (I.ok.hd hc) hl fun h' tk t' hk => ⟨.int ns.sum, H, I.kept hk, ⟨t', by rw [e]⟩, q⟩
end
end L2

namespace L2
open PySem PyProof.Rows PySem.Spec
section
variable {X : Cx}
end
end L2

set_option Elab.async false
set_option linter.all false
set_option maxRecDepth 100000
set_option Elab.async false
set_option linter.all false
set_option maxRecDepth 100000
namespace L2
open PySem PySem.Spec PyProof.Rows

end L2

namespace L2
open PySem PySem.Spec PyProof.Rows

section
variable (P : Program) (w : World)
end

section
variable {P : Program} {w : World} {H H' : Hp} {h h' : Heap} {a : Addr} {o : HO}
end

section
variable {P : Program} {w : World} {H : Hp} {h h' : Heap} {x e : Addr} {o' : HO}
end

section
variable {fs fs' ex ex' : List Addr} {H H1 H2 : Hp} {h h1 h2 h' : Heap} {a x e : Addr} {o : HO}
end

end L2

namespace L2
open PySem PySem.Spec PyProof.Rows

section
variable {X : Cx} {pins : List (Addr × Obj)} {σ : List (Option V)} {H H' : Hp} {s : Shared} {h' : Heap}

end

end L2

namespace L2
open PySem PySem.Spec PyProof.Rows
section
variable {X : Cx}

variable {a b : Expr} {ta tb : TE} {pos : Pos}
variable {tA tB' : TT} {rest : List Expr}
end
end L2

namespace L2
open PySem PySem.Spec PyProof.Rows

section
variable {X : Cx} {pins : List (Addr × Obj)} {σ : St} {H : Hp} {s : Shared} {a : Addr} {xs ys : List V}
end

section
variable {X : Cx} {pins : List (Addr × Obj)} {σ : St} {H : Hp} {s : Shared} {E : Value → Shared → Prop}
end

section
variable {X : Cx} {st : Stmt} {rest : List Stmt} {t u : TS} {e : Expr} {te : TE} {pos : Pos}
end

section
variable {X : Cx} {pos : Pos}
end

section
variable {X : Cx} {pos : Pos}
end

end L2

namespace L2
open PySem PySem.Spec PyProof.Rows
section
variable {X : Cx} {tg : Expr}
end

end L2

namespace L2
open PySem PySem.Spec PyProof.Rows

section
variable {X : Cx} {a b c : Expr} {ta tb tc : TE} {pos : Pos}

end

section
variable {X : Cx} {a b c : Expr} {ta tb tc : TE} {pos : Pos}
end
end L2

namespace L2
open PySem PySem.Spec PyProof.Rows

section
variable {prog : Program} {w : World} {A : Around} {E : Value → Shared → Prop} {s : Shared} {K : PySem.W.Frag} {x dx C f : Addr} {mA : Str → Option Value} {name : Str} {v : Value}

end

section
variable {P : Program} {w : World} {H H' : Hp} {h h' : Heap} {a C dx : Addr} {fs fs' : List (Str × V)}
end

section
variable {X : Cx} {pins : List (Addr × Obj)} {σ : St} {H : Hp} {s : Shared} {a C dx : Addr} {fs : List (Str × V)} {f : Str} {v : V} {A : Around} {E : Value → Shared → Prop}

end

section
variable {X : Cx} {o e value : Expr} {f : Str} {pos pos' tpos : Pos} {ta tv : TE}
end

section
variable {X : Cx} {pins : List (Addr × Obj)} {σ : St} {H : Hp} {s : Shared} {A : Around} {E : Value → Shared → Prop} {Q : Value → Shared → Prop} {c : Value} {b : Bool}
end
end L2

namespace L2
open PySem PySem.Spec PyProof.Rows

section
variable {X : Cx} {e : Expr} {es : List Expr} {te : TE} {t : TA} {pos : Pos}
end

section
variable {X : Cx} {pins : List (Addr × Obj)} {σ : St} {H : Hp} {s s' : Shared}
end

section
variable {X : Cx} {CX : CXT} {k : Nat} {f C : Addr} {fd : FuncData} {ps : List Str} {sp : Sp} {dvs : List V} {ds : List Value} {E : XK} {x m : Str} {p pos apos : Pos} {e o : Expr} {es : List Expr} {ta : TE} {t : TA}

end

section
variable {X : Cx} {CX : CXT} {k : Nat} {f C : Addr} {fd : FuncData} {ps ks : List Str} {sp : Sp} {E : XK} {x m : Str} {p pos apos kpos : Pos} {e o : Expr} {es : List Expr} {kws : List Keyword} {te ta : TE} {t tk : TA} {nm : Option Str}
variable {g : List Value → List Value → List Value} {gV : List V → List V → List V}
end

end L2

namespace L2
open PySem PySem.Spec PyProof.Rows
section
variable {X : Cx} {x : Str} {p pos : Pos} {e : Expr} {es : List Expr} {t : TA} {id T : String} {r : List V → Hp → VK → Prop}

end
end L2

namespace L2
open PySem PySem.Spec PyProof.Rows

section
variable {κ : Type} [DecidableEq κ]
end


section
variable {P : Program} {w : World} {H : Hp} {h : Heap} {a : Addr}
end

section
variable {X : Cx} {pins : List (Addr × Obj)} {σ : St} {H : Hp} {s : Shared} {a : Addr} {y v : V} {u r : Value} {o : Option V} {A : Around} {E : Value → Shared → Prop}

end

section
variable {X : Cx} {pins : List (Addr × Obj)} {σ : St} {H : Hp} {s : Shared} {a : Addr} {kvs : List (Key × V)} {k : Key} {u : Value} {A : Around} {E : Value → Shared → Prop}
end


section
variable {X : Cx} {o i e value : Expr} {pos pos' tpos : Pos} {td ty tv : TE}
end


section
variable {X : Cx} {pos : Pos}
end

set_option genInjectivity false in
structure M1 (X : Cx) (o : Expr) (m : Str) (apos : Pos) (e : Expr) (cpos : Pos) : Prop where
  base : attributeBase o m X.env (eval o X.env) = eval o X.env
  few : ((backTo cpos (starEach [e] X.env)).all (fun x => !x.1) && (backToKw cpos (keywordEach [] X.env)).all (fun x => x.1.isSome)
    && decide (([e] : List Expr).length + ([] : List Keyword).length + (if ([] : List Keyword).isEmpty then 0 else 1) < 30)) = true
  line : (apos.endLine == cpos.line) = true
  trees : backTo cpos (starEach [e] X.env) = [(false, eval e X.env)]
section
variable {X : Cx} {pins : List (Addr × Obj)} {σ : St} {H : Hp} {s : Shared} {a : Addr} {y d : V} {u r : Value} {o : Option V} {A : Around} {E : Value → Shared → Prop}
end

section
variable {X : Cx} {o e f : Expr} {apos cpos : Pos} {td ty tx : TE}
end

section
variable {X : Cx} {pins : List (Addr × Obj)} {σ : St} {H : Hp} {s : Shared} {a : Addr} {kvs : List (Key × V)} {A : Around} {E : Value → Shared → Prop}
end


section
variable {X : Cx} {pins : List (Addr × Obj)} {σ : St} {H : Hp} {s : Shared} {a : Addr} {y : V} {u : Value} {A : Around} {E : Value → Shared → Prop}
end
end L2

namespace Att
open PySem PySem.W PySem.Calls PyProof.Rows

section
variable {prog : Program} {w : World} {A : Around} {E : Value → Shared → Prop} {s : Shared} {K : Frag}

end
end Att

namespace L2
open PySem PySem.Spec PyProof.Rows

end L2

namespace L2
open PySem PySem.Spec PyProof.Rows

end L2

namespace L2
open PySem PySem.Spec PyProof.Rows

section
variable {P : Program} {w : World} {K : PySem.W.Frag} {mg : Str → Option Value} {base : Heap}
end
section
variable {X : Cx}
end

section
variable {κ : Type} [DecidableEq κ]
end
end L2


set_option Elab.async false
set_option linter.all false
set_option maxRecDepth 100000
set_option maxHeartbeats 400000
namespace L2
open PySem PySem.Spec PyProof.Rows
namespace RT
noncomputable def obj (x : Str) (t : Tok) (i : Int) : Obj := { cls := .type "reversed", data := .fields #[.str x t, rawInt i] }
noncomputable def Is (h : Heap) (a : Addr) (x : Str) (t : Tok) (i : Int) : Prop := ∃ o, h.get? a = some o ∧ o.cls = .type "reversed" ∧ o.data = .fields #[.str x t, rawInt i]
section
variable {prog : Program} {w : World} {A : Around} {E : Value → Shared → Prop} {s : Shared}
end
section
variable {prog : Program} {w : World} {A : Around} {E : Value → Shared → Prop} {s : Shared}
end
end RT
section
variable {X : Cx}
end
end L2

set_option Elab.async false
set_option linter.all false
set_option maxRecDepth 100000
namespace L2
open PySem PySem.Spec PyProof.Rows
section
variable {X : Cx}
end
end L2
namespace L2
open PySem PySem.Spec PyProof.Rows
section
variable {X : Cx}
end
end L2

set_option Elab.async false
set_option linter.all false
set_option maxRecDepth 100000
set_option maxHeartbeats 4000000
namespace L2
open PySem PySem.Spec PyProof.Rows
section
variable {X : Cx}
end
namespace SE
section
variable {prog : Program} {w : World} {A : Around} {E : Value → Shared → Prop} {s : Shared}
end
end SE
section
variable {X : Cx}
end
end L2

set_option Elab.async false
set_option linter.all false
set_option maxRecDepth 100000
namespace ST
open PySem PySem.SetTable

noncomputable def it (M : Nat) : Nat → Nat → Nat
  | 0, i => i
  | s + 1, i => it M s ((i * 5 + 1) % M)
noncomputable def lp (mask : Nat) : Nat → Nat → Nat → Nat × Nat
  | 0, i, p => (i, p)
  | s + 1, i, p => lp mask s (leap mask i p).1 (leap mask i p).2
noncomputable def vals (N : Nat) (f : Nat → Option Nat) : List Nat := (List.range N).filterMap f
end ST

set_option Elab.async false
set_option linter.all false
set_option maxRecDepth 100000
set_option maxHeartbeats 4000000
namespace SS
open PySem PyProof.Rows
noncomputable def byT (w : World) : Bool := w.params.followText "set-order"
noncomputable def keyV : Value → Str
  | .str x _ => x
  | _ => Str.empty
noncomputable def El (w : World) (e : Int × Value) : Prop := e.1 = hashStr w (keyV e.2) ∧ ∃ t, e.2 = .str (keyV e.2) t
noncomputable def Els (w : World) (es : List (Int × Value)) (ms : List Str) : Prop := (∀ e ∈ es, El w e) ∧ (es.map fun e => keyV e.2).Perm ms
noncomputable def Is (w : World) (h : Heap) (a : Addr) (ms : List Str) : Prop :=
  ∃ o es ep t, h.get? a = some o ∧ o.ExactSet ∧ o.data = .set es ep t ∧ Els w es.toList ms ∧ ms.Nodup ∧ es.size < scanBound ∧ t.fits es.size = true ∧ (byT w = true ∨ t.led = true) ∧ (es.size = 0 ∨ t.plain = false)
section
variable {prog : Program} {w : World} {A : Around} {E : Value → Shared → Prop} {s : Shared}
end
end SS

set_option Elab.async false
set_option linter.all false
set_option maxRecDepth 100000
set_option maxHeartbeats 4000000
namespace SS
open PySem PyProof.Rows

section
variable {prog : Program} {w : World} {A : Around} {E : Value → Shared → Prop} {s : Shared}
end
end SS

set_option Elab.async false
set_option linter.all false
set_option maxRecDepth 100000
set_option maxHeartbeats 4000000
namespace SS
open PySem PyProof.Rows
section
variable {prog : Program} {w : World} {A : Around} {E : Value → Shared → Prop} {s : Shared}
end
end SS

set_option Elab.async false
set_option linter.all false
set_option maxRecDepth 100000
set_option maxHeartbeats 4000000
namespace SS
open PySem PyProof.Rows
noncomputable def It (h : Heap) (I a : Addr) (first : Value) (i n ep : Nat) : Prop := ∃ o, h.get? I = some o ∧ o.cls = .type "set_iterator" ∧ o.data = .fields #[first, rawInt (i : Int), .ref a, rawInt (n : Int), rawInt (ep : Int)]
section
variable {prog : Program} {w : World} {A : Around} {E : Value → Shared → Prop} {s : Shared}
end
end SS

set_option Elab.async false
set_option linter.all false
set_option maxRecDepth 100000
set_option maxHeartbeats 4000000
namespace SS
open PySem PyProof.Rows
section
variable {prog : Program} {w : World} {A : Around} {E : Value → Shared → Prop} {s : Shared}
end
end SS

set_option Elab.async false
set_option linter.all false
set_option maxRecDepth 100000
set_option maxHeartbeats 4000000
namespace SS
open PySem PyProof.Rows
section
variable {prog : Program} {w : World} {A : Around} {E : Value → Shared → Prop} {s : Shared}
end
end SS

set_option Elab.async false
set_option linter.all false
set_option maxRecDepth 100000
set_option maxHeartbeats 4000000
namespace SS
open PySem PyProof.Rows
section
variable {prog : Program} {w : World} {A : Around} {E : Value → Shared → Prop} {s : Shared}
end
end SS

set_option Elab.async false
set_option linter.all false
set_option maxRecDepth 100000
set_option maxHeartbeats 4000000
namespace L2
open PySem PySem.Spec PyProof.Rows
namespace SE
section
variable {prog : Program} {w : World} {A : Around} {R : Result → Shared → Prop} {J : Addr} {fp wr : List Addr} {G : Array GenState → Array GenState → Prop} {n : Nat} {P : Nat → Value → Prop} {St : Nat → Shared → Prop}
variable {E : Value → Shared → Prop} {s : Shared}
end
end SE
section
variable {X : Cx}
end
end L2

set_option Elab.async false
set_option linter.all false
set_option maxRecDepth 100000
namespace L2
open PySem PySem.Spec PyProof.Rows
set_option genInjectivity false in
structure Reads (J : It) (H : Hp) (vs : List V) : Prop where
  go : ∀ i H', Same H H' → i < vs.length → J.go i H'
  yl : ∀ i H' y H2, Same H H' → J.yld i H' y H2 → H2 = H' ∧ vs[i]? = some y
  st : ∀ H', Same H H' → J.stop vs.length H'
theorem reads_list {K : PySem.W.Frag} {a : Addr} {H : Hp} {vs : List V} (h : SqL K H a vs) : Reads (Itl K a) H vs :=
  ⟨fun i H' s hi => ⟨vs, vs[i], s.seq h, List.getElem?_eq_getElem hi⟩, fun i H' y H2 s ⟨e1, e2⟩ => ⟨e1, e2 vs (s.seq h)⟩, fun H' s => ⟨vs, s.seq h, Nat.le_refl _⟩⟩
theorem compG {J : It} {vs : List V} {te : TE} {σ : St} {H : Hp} {Q : VK} (f : V → V) (rd : Reads J H vs) (hn : vs.length ≤ sizeLine)
    (he : ∀ x H', x ∈ vs → Same H H' → ∀ N : V → Hp → Prop, (∀ H'', Same H' H'' → N (f x) H'') → te (some x :: σ) H' N)
    (hq : ∀ D H', H D = none → Same H H' → H' D = some (.lst (vs.map f)) → Q (.ref D) H') : compAt te σ Q J H := by
  intro D hD
  refine ⟨fun i m ys H2 => m = vs.length - i ∧ i ≤ vs.length ∧ ys = (vs.take i).map f ∧ Same H H2 ∧ H2 D = some (.lst ys), ⟨vs.length, rfl, Nat.zero_le _, rfl, fun b o e => ?_, upd_same⟩, ?_⟩
  · rw [upd_ne (ne_of_none e hD)]
    exact e
  · rintro i m ys H2 ⟨rfl, hi, rfl, hs, hd⟩
    by_cases hlt : i < vs.length
    · have hx : vs[i]? = some vs[i] := List.getElem?_eq_getElem hlt
      refine .inr ⟨rd.go i H2 hs hlt, by rw [List.length_map, List.length_take]; omega, fun v H' => v = f vs[i] ∧ Same H2 H', fun v H' ⟨ev, hs'⟩ => ⟨hs' D _ hd, vs.length - (i + 1), by omega, rfl, hlt, ?app, fun b o e => ?kp, upd_same⟩, fun y H' hy => ?stp⟩
      case app =>
        rw [ev, List.take_add_one, hx, List.map_append]
        rfl
      case kp =>
        rw [upd_ne (ne_of_none e hD)]
        exact hs' b o (hs b o e)
      case stp =>
        obtain ⟨rfl, e2⟩ := rd.yl i H2 y H' hs hy
        have e4 : y = vs[i] := by rw [hx] at e2; exact (Option.some.inj e2).symm
        subst e4
        exact he _ _ (List.getElem_mem hlt) hs _ fun H'' h'' => ⟨rfl, h''⟩
    · have e : i = vs.length := by omega
      subst e
      rw [List.take_length] at hd
      exact .inl ⟨rd.st H2 hs, hq D H2 hD hs hd⟩
section
variable {X : Cx}
end
end L2

set_option Elab.async false
set_option linter.all false
set_option maxRecDepth 100000
set_option maxHeartbeats 4000000
namespace SS
open PySem PyProof.Rows L2
section
variable {prog : Program} {w : World} {A : Around} {E : Value → Shared → Prop} {s : Shared}
end
end SS
namespace L2
open PySem PyProof.Rows
section
variable {X : Cx}
end
end L2

set_option Elab.async false
set_option linter.all false
set_option maxRecDepth 100000
set_option maxHeartbeats 4000000
namespace L2
open PySem PyProof.Rows PySem.Spec
namespace SE
section
variable {prog : Program} {w : World} {A : Around} {E : Value → Shared → Prop} {s : Shared}
end
end SE
section
variable {X : Cx}
end
end L2

set_option Elab.async false
set_option linter.all false
set_option maxRecDepth 100000
set_option maxHeartbeats 4000000
namespace L2
open PySem PyProof.Rows PySem.Spec
section
variable {X : Cx}
end
end L2

set_option Elab.async false
set_option linter.all false
set_option maxRecDepth 100000
set_option maxHeartbeats 4000000
namespace L2
open PySem PyProof.Rows PySem.Spec
section
variable {X : Cx}
end
end L2

set_option Elab.async false
set_option linter.all false
set_option maxRecDepth 100000
set_option maxHeartbeats 4000000
namespace L2
open PySem PyProof.Rows PySem.Spec
section
variable {X : Cx} {pins : List (Addr × Obj)} {σ : List (Option V)} {H H' : Hp} {s : Shared} {h' : Heap}
theorem Inv.turnedL {t' : Nat} {ch : List Addr} (I : Inv X pins σ H s) (k : ∀ b o, b ∉ ch → s.heap.get? b = some o → h'.get? b = some o) (hf : ∀ b ∈ ch, FpOk X pins H b) : Inv X pins σ H { s with heap := h', toks := t' } := by
  have nit : ∀ b u, H b = some u → b ∉ ch := fun b u e z => by rw [(hf b z).1] at e; cases e
  refine I.step (g' := s.gens) (d' := s.drawn) (ch := ch) (fun b hb => ?_) (fun b o _ _ hc e _ => k b o hc e) (fun b o _ _ hc e _ => ⟨o.slots, k b o hc e⟩) (fun _ _ _ _ n => n)
    (fun b o hc e => ⟨o, k b o hc e⟩) (fun _ _ e => e) (fun _ _ _ e => e) (fun b ps e => ⟨#[], by rw [e]; simp⟩) (fun m hm => ?_) (fun b u e => ?_) I.bare
  · obtain ⟨f0, f1, f2, f3, f4, f5⟩ := hf b hb
    exact ⟨f3, f1, f4, f5⟩
  · obtain ⟨o, es, ep, ho, r⟩ := hm
    exact ⟨o, es, ep, k _ o (fun z => (hf _ z).2.1 rfl) ho, r⟩
  · refine (I.hok b u e).stay (fun c v hc q => k c v ?_ q) (fun _ q => q) fun _ _ q => q
    rcases hc with z | z
    · rw [z]; exact nit b u e
    · exact nit c _ z
end
noncomputable def Itz (K : PySem.W.Frag) (a b : Addr) : It :=
  ⟨fun i H => ∃ xs ys x y, SqL K H a xs ∧ SqL K H b ys ∧ xs[i]? = some x ∧ ys[i]? = some y,
   fun i H x H' => ∃ (T : Addr) (u v : V), x = .ref T ∧ H T = none ∧ H' = upd H T (.tup [u, v]) ∧ (∀ xs, SqL K H a xs → xs[i]? = some u) ∧ ∀ ys, SqL K H b ys → ys[i]? = some v,
   fun i H => ∃ xs ys, SqL K H a xs ∧ SqL K H b ys ∧ (xs.length ≤ i ∨ ys.length ≤ i)⟩
theorem turn_zip {P : Program} {w : World} {K : PySem.W.Frag} {elts : List Expr} {x1} {pos : Pos} {a b z TI TO i1 i2 : Addr} (D : ZipApart z TI TO i1 i2 a b) :
    Turn P w K (.Tuple elts x1 pos) (Itz K a b) [z, TI, TO, i1, i2] z (fun i h => IsZip h z TI TO .none ∧ IsPair h TI (.ref i1) (.ref i2) ∧ (∃ u v, IsPair h TO u v) ∧ h.IsListIter i1 a i ∧ h.IsListIter i2 b i) where
  mem := by simp
  obj := fun i h st c hc => by
    obtain ⟨h1, h2, ⟨u, v, h3⟩, ⟨o4, e4, c4, d4⟩, ⟨o5, e5, c5, d5⟩⟩ := st
    simp only [List.mem_cons, List.not_mem_nil, or_false] at hc
    rcases hc with rfl | rfl | rfl | rfl | rfl
    · exact ⟨_, h1, fun v z => by cases z⟩
    · exact ⟨_, h2, fun v z => by cases z⟩
    · exact ⟨_, h3, fun v z => by cases z⟩
    · exact ⟨_, e4, fun v z => by rw [d4] at z; cases z⟩
    · exact ⟨_, e5, fun v z => by rw [d5] at z; cases z⟩
  keep := fun i h h' st k => by
    obtain ⟨h1, h2, ⟨u, v, h3⟩, h4, h5⟩ := st
    exact ⟨k z (by simp) _ h1, k TI (by simp) _ h2, ⟨u, v, k TO (by simp) _ h3⟩, h4.at fun o e => k i1 (by simp) o e, h5.at fun o e => k i2 (by simp) o e⟩
  item := by
    intro X hP hw hK hc i pins s σ H E I hf st hg
    subst hP hw hK
    obtain ⟨xs, ys, x, y, hq1, hq2, hx, hy⟩ := hg
    obtain ⟨its, rv, p, hz⟩ := I.list hq1
    obtain ⟨its2, rv2, p2, hz2⟩ := I.list hq2
    obtain ⟨u, hu, ru⟩ := rv.get hx
    obtain ⟨v, hv, rv'⟩ := rv2.get hy
    obtain ⟨h1, h2, ⟨c1, c2, h3⟩, h4, h5⟩ := st
    refine wpAny_pyNext_zip_item D h1 h2 h3 h4 h5 p.isList p2.isList (x := u) (y := v) (by simpa using hu) (by simpa using hv) fun h' z1 z2 z3 z4 z5 z6 z7 => ?_
    refine ⟨_, rfl, wpAny_letOwnedTupleGo_zip (s := { s with heap := h' }) z1 fun h'' y1 y2 => ?_⟩
    have hT : H s.heap.objs.size = none := I.hok.fresh (Nat.le_refl _)
    have I1 : Inv X pins σ (upd H s.heap.objs.size (.tup [x, y])) { s with heap := s.heap.push { cls := .type "tuple", data := .seq #[u, v] }, toks := s.toks } :=
      I.laid (t' := s.toks) (fun b u e => Heap.get?_push_of_some _ e) (Nat.le_refl _) ⟨(by show 2 ≤ sizeLine; rw [sizeLine_eq]; decide), [u, v], .cons ru (.cons rv' .nil), ⟨_, Heap.get?_push_size _ rfl, rfl, _, rfl⟩⟩
    have nf : ∀ c ∈ [z, TI, TO, i1, i2], c ≠ s.heap.objs.size := fun c hc e => by
      have lt : ∃ o, s.heap.get? c = some o := by
        obtain ⟨o4, e4, _⟩ := id h4
        obtain ⟨o5, e5, _⟩ := id h5
        simp only [List.mem_cons, List.not_mem_nil, or_false] at hc
        rcases hc with rfl | rfl | rfl | rfl | rfl
        · exact ⟨_, h1⟩
        · exact ⟨_, h2⟩
        · exact ⟨_, h3⟩
        · exact ⟨_, e4⟩
        · exact ⟨_, e5⟩
      obtain ⟨o, ho⟩ := lt
      have := Heap.lt_size ho
      rw [e] at this
      exact Nat.lt_irrefl _ this
    have hf1 : ∀ c ∈ [z, TI, TO, i1, i2], FpOk X pins (upd H s.heap.objs.size (.tup [x, y])) c := fun c hc => by
      obtain ⟨f0, f⟩ := hf c hc
      exact ⟨by rw [upd_ne (nf c hc)]; exact f0, f⟩
    have I2 : Inv X pins σ (upd H s.heap.objs.size (.tup [x, y])) { s with heap := h'', toks := s.toks } :=
      Inv.turnedL (s := { s with heap := s.heap.push { cls := .type "tuple", data := .seq #[u, v] }, toks := s.toks }) (t' := s.toks) (ch := [z, TI, TO, i1, i2]) I1 (fun b o hb e => by
        simp only [List.mem_cons, List.not_mem_nil, or_false, not_or] at hb
        obtain ⟨b1, b2, b3, b4, b5⟩ := hb
        refine (y2.2 b b1).trans ?_
        rcases Heap.get?_push_cases e with ⟨rfl, rfl⟩ | e
        · exact z5
        · exact z7 b o b1 b3 b4 b5 e) hf1
    refine ⟨.ref s.heap.objs.size, _, I2, rfl, ⟨s.heap.objs.size, x, y, rfl, hT, rfl, fun zs hzs => by rw [I.list_inj hzs hq1]; exact hx, fun zs hzs => by rw [I.list_inj hzs hq2]; exact hy⟩, ⟨y1, ?_, ⟨u, v, ?_⟩, ?_, ?_⟩, fun c hc => (hf1 c hc).1⟩
    · exact (y2.2 TI D.TIz).trans (z7 TI _ D.TIz D.TITO D.TIi1 D.TIi2 h2)
    · exact (y2.2 TO D.TOz).trans z2
    · exact z3.at fun o e => (y2.2 i1 D.i1z).trans e
    · exact z4.at fun o e => (y2.2 i2 D.i2z).trans e
  done := by
    intro X hP hw hK hc i pins s σ H E I hf st hg
    subst hP hw hK
    obtain ⟨xs, ys, hq1, hq2, hl⟩ := hg
    obtain ⟨its, rv, p, hz⟩ := I.list hq1
    obtain ⟨its2, rv2, p2, hz2⟩ := I.list hq2
    obtain ⟨h1, h2, ⟨c1, c2, h3⟩, h4, h5⟩ := st
    have l1 := rv.length
    have l2 := rv2.length
    refine wpAny_pyNext_zip_end (I.ok.hd hc) D h1 h2 h3 h4 h5 p.isList p2.isList ?_ fun h' kk => ⟨rfl, ?_⟩
    · rcases hl with g | g
      · exact .inl (by simp; omega)
      · exact .inr (by simp; omega)
    · exact I.turnedL (t' := s.toks) (ch := [z, TI, TO, i1, i2]) (fun b o hb e => by
        simp only [List.mem_cons, List.not_mem_nil, or_false, not_or] at hb
        obtain ⟨b1, b2, b3, b4, b5⟩ := hb
        exact kk b o b1 b3 b4 b5 e) hf
  self := fun _ _ _ _ _ st h => wpAny_pyIter_zip st.1 h
section
variable {X : Cx}
noncomputable def iZip (K : PySem.W.Frag) (ta : TA) : TI := fun σ H R => ta σ H fun xs H1 => ∃ a b : Addr, xs = [.ref a, .ref b] ∧ (∃ us, SqL K H1 a us) ∧ (∃ vs, SqL K H1 b vs) ∧ R (Itz K a b) H1
theorem pi_zip {a b : Expr} {ta : TA} {p pos pos' : Pos} {elts : List Expr} {x1} (hg : Gl X "zip") (hm : X.mg "zip" = none) (ha : PA X [a, b] ta) (hs : starEach [a, b] X.env = [(false, eval a X.env), (false, eval b X.env)] := by rfl) (hs2 : starEach [b] X.env = [(false, eval b X.env)] := by rfl) :
    PI X (.Tuple elts x1 pos') (.Call (.Name "zip" p) [a, b] [] pos) (iZip X.K ta) := by
  intro pins s σ H R I h
  refine Call_ (ld_blt I hg hm boot_zip (PyProof.Rows.callWith_type1 (thn (ha pos pins s σ H _ I h) fun us s1 ⟨vs, H1, I1, r1, q1⟩ => ?_) (by rw [hs, hs2]) (by rw [hs2]; rfl)))
  obtain ⟨l1, l2, e, ⟨us1, hq1⟩, ⟨us2, hq2⟩, q⟩ := q1
  subst e
  cases r1 with
  | cons r rr =>
    cases rr with
    | cons r' rr =>
      cases rr
      cases r
      cases r'
      obtain ⟨its, rv, p, hz⟩ := I1.list hq1
      obtain ⟨its2, rv2, p2, hz2⟩ := I1.list hq2
      obtain ⟨o1, ho1, _⟩ := id p.isList
      obtain ⟨o2, ho2, _⟩ := id p2.isList
      refine call_zip_2 p.isList p2.isList fun h' z1 z2 z3 z4 z5 z6 z7 => ?_
      refine wpAny_pyIter_zip (s := { s1 with heap := h' }) z1 ?_
      have fr : ∀ c, s1.heap.objs.size ≤ c → FpOk X pins H1 c := fun c hc => I1.fpOk hc (I1.hok.fresh hc)
      refine ⟨s1.heap.objs.size + 4, [s1.heap.objs.size + 4, s1.heap.objs.size + 2, s1.heap.objs.size + 3, s1.heap.objs.size, s1.heap.objs.size + 1], _, _, H1, rfl, I1.kept (t' := s1.toks) z7, turn_zip (zipApart_new (Heap.lt_size ho1) (Heap.lt_size ho2)), ⟨z1, z2, ⟨_, _, z3⟩, z4, z5⟩, fun c hc => fr c ?_, q⟩
      simp only [List.mem_cons, List.not_mem_nil, or_false] at hc
      rcases hc with rfl | rfl | rfl | rfl | rfl
      · exact Nat.le_add_right _ _
      · exact Nat.le_add_right _ _
      · exact Nat.le_add_right _ _
      · exact Nat.le_refl _
      · exact Nat.le_add_right _ _
end
end L2
namespace L2
open PySem PyProof.Rows PySem.Spec
end L2

set_option Elab.async false
set_option linter.all false
set_option maxRecDepth 100000
set_option maxHeartbeats 4000000
namespace L2
open PySem PyProof.Rows PySem.Spec
namespace ZS
section
variable {prog : Program} {w : World} {A : Around} {E : Value → Shared → Prop} {s : Shared}
end
end ZS
section
variable {X : Cx}
end
end L2

set_option Elab.async false
set_option linter.all false
set_option maxRecDepth 100000
set_option maxHeartbeats 4000000
namespace L2
open PySem PyProof.Rows PySem.Spec
section
variable {X : Cx}
end
end L2

set_option Elab.async false
set_option linter.all false
set_option maxRecDepth 100000
set_option maxHeartbeats 4000000
namespace L2
open PySem PyProof.Rows PySem.Spec
theorem on1 {α : Type} {C : List α → Prop} {us : List α} (h : us.length = 1) (k : ∀ a, C [a]) : C us := match us, h with | [a], _ => k a
theorem on2 {α : Type} {C : List α → Prop} {us : List α} (h : us.length = 2) (k : ∀ a b, C [a, b]) : C us := match us, h with | [a, b], _ => k a b
theorem on4 {α : Type} {C : List α → Prop} {us : List α} (h : us.length = 4) (k : ∀ a b c d, C [a, b, c, d]) : C us := match us, h with | [a, b, c, d], _ => k a b c d
section
variable {X : Cx}
theorem pss_dead {st : List Stmt} : PSs X st (fun _ _ _ => False) := fun _ _ _ _ _ _ h => h.elim
end
end L2

set_option Elab.async false
set_option linter.all false
set_option maxRecDepth 100000
set_option maxHeartbeats 4000000
namespace L2
open PySem PySem.Spec PyProof.Rows
set_option genInjectivity false in
structure CompSc2 (N N' : List Str) (sc scope : Scope) (x y2 : Str) : Prop where
  kind : scope.kind = .function
  cell : ∀ y ∈ scope.names, y.2 ≠ .cell
  names : ∀ y ∈ scope.names, y.2 = .local → scope.names.lookup y.1 = some .local
  var : scope.names.lookup x = some .local
  var2 : scope.names.lookup y2 = some .local
  ok : ∀ y ∈ scope.names, y.2 = .free → sc.names.lookup y.1 = some .cell ∨ sc.names.lookup y.1 = some .free
  hd : N'[0]? = some x
  hd2 : N'[1]? = some y2
  len : N'.length = N.length + 2
  sub : ∀ i, i < N.length → N'[i + 2]? = N[i]? ∨ N'[i + 2]? = some ("" : Str)
  noe : scope.names.lookup ("" : Str) = none
  nol : ∀ y ∈ N'.tail.tail, scope.names.lookup y ≠ some .local
  nd : N'.Nodup
noncomputable def compAt2 (K : PySem.W.Frag) (te : TE) (σ : St) (Q : VK) (J : It) (H1 : Hp) : Prop := ∀ D, H1 D = none → ∃ W : Nat → Nat → List V → Hp → Prop, (∃ m, W 0 m [] (upd H1 D (.lst []))) ∧ ∀ i m ys H2, W i m ys H2 →
  (J.stop i H2 ∧ Q (.ref D) H2) ∨ (J.go i H2 ∧ ys.length < sizeLine ∧ ∃ N : V → Hp → Prop, (∀ v H', N v H' → H' D = some (.lst ys) ∧ ∃ m', m' < m ∧ W (i + 1) m' (ys ++ [v]) (upd H' D (.lst (ys ++ [v])))) ∧
    ∀ y H', J.yld i H2 y H' → ∃ (a : Addr) (u v : V), y = .ref a ∧ SqT K H' a [u, v] ∧ te (some u :: some v :: σ) H' N)
noncomputable def tComp2 (K : PySem.W.Frag) (wi : TI) (te : TE) : TE := fun σ H Q => wi σ H (compAt2 K te σ Q)
section
variable {X : Cx} {N' : List Str} {scope : Scope} {x y2 : Str} {px py py2 pt : Pos} {elt iter : Expr} {pos : Pos} {te : TE} {wi : TI}
theorem comp_core2 (S : CompSc2 X.N N' X.env.scope scope x y2) (hc : X.calm = true) (he : ∀ cl C s H fp, PE (cxComp X N' scope cl C s H fp) elt te)
    {pins : List (Addr × Obj)} {σ : St} {H : Hp} {s : Shared} {Q : VK} {E : Value → Shared → Prop} {RR : Value → Addr → Result → Shared → Prop} {it : Addr} {fp : List Addr} {tn : Nat → Heap → Prop} {J : It}
    (I : Inv X pins σ H s) (T : Turn X.prog X.w X.K (.Tuple [.Name x px, .Name y2 py] 0 pt) J fp it tn) (st : tn 0 s.heap) (f2 : ∀ b ∈ fp, FpOk X pins H b)
    (hw : compAt2 X.K te σ Q J H)
    (hRR : ∀ D C s' H', Inv X pins σ H' s' → (∃ m, s'.heap.Ns C m) → C ≠ X.env.locals → (∀ y c, X.env.cells.lookup y = some c → c ≠ C) → H' C = none → X.s₀.heap.objs.size ≤ C → (∀ p ∈ X.pn ++ pins, p.1 ≠ C) → Q (.ref D) H' → RR (.ref D) C (.ok .next) s') :
    ∃ cl, closureFor scope X.env = pure cl ∧ wpAny (model X.prog X.w) X.A (newList []) (fun acc s₃ => wpAny (model X.prog X.w) X.A (newFunctionEnv scope X.env.globals cl [] X.env.qual none .none (some X.env)) (fun cenv s₄ =>
      codeAny (model X.prog X.w) X.A (.compStart (.ListComp elt [⟨.Tuple [.Name x px, .Name y2 py] 0 pt, iter, [], 0⟩] scope pos) 0 (.ref it) acc { cenv with scope := relabel scope X.env }) (RR acc cenv.locals) s₄) E s₃) E s := by
  have hfree : ∀ z ∈ scope.names, z.2 = .free → ∃ c, X.env.cells.lookup z.1 = some c := fun z hz hk => by
    rcases S.ok z hz hk with q | q
    · exact I.ok.has z.1 (.inl q)
    · exact I.ok.has z.1 (.inr q)
  refine ⟨_, clos_eq hfree, ?_⟩
  have clS : ∀ y c, (closOf X.env.cells scope.names []).lookup y = some c → X.env.cells.lookup y = some c := fun y c => clos_sound scope.names [] hfree fun q => by cases q
  generalize hcl : closOf X.env.cells scope.names [] = cl at clS
  have clH : ∀ y, scope.names.lookup y = some .free → ∃ c, cl.lookup y = some c := fun y hy => by
    rw [← hcl]
    exact clos_has scope.names [] (lookup_mem hy)
  refine wpAny_newObj_type (wpAny_newFunctionEnv S.cell (by intro y hy; simp at hy) (fun h₁ hns₁ hsb₁ => ?_) S.kind)
  have I3 : Inv X pins σ (upd H s.heap.objs.size (.lst [])) { s with heap := s.heap.push { cls := .type "list", data := .seq ([] : List Value).toArray } } := I.lnew (t' := s.toks) .nil (Nat.zero_le _)
  obtain ⟨W, ⟨m0, w0⟩, turn⟩ := hw s.heap.objs.size I.fresh
  dsimp only at hns₁ hsb₁ ⊢
  generalize hs3 : ({ s with heap := s.heap.push { cls := .type "list", data := .seq ([] : List Value).toArray } } : Shared) = s3 at I3
  have hh3 : s3.heap = s.heap.push { cls := .type "list", data := .seq ([] : List Value).toArray } := by rw [← hs3]
  have hsz3 : s3.heap.objs.size = s.heap.objs.size + 1 := by rw [hh3, Heap.size_push]
  rw [← hh3] at hns₁ hsb₁ ⊢
  have old : ∀ b o, s3.heap.get? b = some o → h₁.get? b = some o := fun b o e => hsb₁.extBut b o (by have := Heap.lt_size e; exact Nat.ne_of_lt this) (Heap.get?_push_of_some _ e)
  have old0 : ∀ b o, s.heap.get? b = some o → h₁.get? b = some o := fun b o e => old b o (by rw [hh3]; exact Heap.get?_push_of_some _ e)
  have CneL : s3.heap.objs.size ≠ X.env.locals := Nat.ne_of_gt I3.lt
  have CneC : ∀ y c, X.env.cells.lookup y = some c → c ≠ s3.heap.objs.size := fun y c e z => by
    obtain ⟨v, q⟩ := I3.cell y c e
    have := q.lt
    rw [z] at this
    exact absurd this (Nat.lt_irrefl _)
  have CneP : ∀ p ∈ X.pn ++ pins, p.1 ≠ s3.heap.objs.size := fun p hp z => by
    have := Heap.lt_size (I3.pin p hp).1
    rw [z] at this
    exact absurd this (Nat.lt_irrefl _)
  have CfreeH : ∀ b o, s3.heap.get? b = some o → b < s3.heap.objs.size := fun b o e => by have := Heap.lt_size e; exact this
  have fpLt : ∀ b ∈ fp, b < s3.heap.objs.size := fun b hb => by
    obtain ⟨o, e, _⟩ := T.obj 0 s.heap st b hb
    rw [hsz3]
    exact Nat.lt_succ_of_lt (Heap.lt_size e)
  have fpD : ∀ b ∈ fp, b ≠ s.heap.objs.size := fun b hb => by
    obtain ⟨o, e, _⟩ := T.obj 0 s.heap st b hb
    exact Nat.ne_of_lt (Heap.lt_size e)

  have ok' : (cxComp X N' scope cl s3.heap.objs.size s3 (upd H s.heap.objs.size (.lst [])) fp).Ok := by
    refine ⟨I3.ok.mod, ?_, I3.ok.glob, I3.ok.blt, Nat.le_refl _, fun y z c h1 h2 => I3.ok.inj y z c (clS y c h1) (clS z c h2), fun y hy => ?_, fun y c hf => (by cases hf), I3.ok.hd, I3.ok.frames, .inl rfl, fun b hb => ⟨Nat.ne_of_lt (fpLt b hb), fun y c e => (f2 b hb).2.2.2.2.1 y c (clS y c e)⟩,
      fun b o e => I3.bs b o e, Nat.le_trans I3.ok.bsz I3.sz, fun b o e hb => ?_, fun b hb z => ?_, I3.stack, I3.stkFree⟩
    · show (relabel scope X.env).kind = .function
      exact S.kind
    · have hy' : (relabel scope X.env).names.lookup y = some .cell ∨ (relabel scope X.env).names.lookup y = some .free := hy
      rw [relabel_lookup] at hy'
      cases q : scope.names.lookup y with
      | none => rw [q] at hy'; rcases hy' with z | z <;> cases z
      | some k =>
        have hm := lookup_mem q
        cases k with
        | free => exact clH y q
        | cell => exact absurd rfl (S.cell _ hm)
        | «local» => rw [q] at hy'; rcases hy' with z | z <;> simp at z
        | globalExplicit => rw [q] at hy'; rcases hy' with z | z <;> simp at z
        | globalImplicit => rw [q] at hy'; rcases hy' with z | z <;> simp at z
    · rcases (f2 b hb).2.2.2.1 with z | z
      · exact I.ok.noex b o e z
      · exact absurd (Nat.lt_of_lt_of_le (Heap.lt_size e) (Nat.le_trans I.ok.bsz z)) (Nat.lt_irrefl _)
    · rcases List.mem_cons.mp (I3.stkSub b z) with q | q
      · exact (f2 b hb).2.1 q
      · exact (f2 b hb).2.2.1 q
  have fpOk' : ∀ {H' : Hp}, (∀ b ∈ fp, H' b = none) → ∀ b ∈ fp, FpOk (cxComp X N' scope cl s3.heap.objs.size s3 (upd H s.heap.objs.size (.lst [])) fp) pins H' b := fun hn b hb =>
    ⟨hn b hb, Nat.ne_of_lt (fpLt b hb), fun z => by
      rcases List.mem_cons.mp (I3.stkSub b z) with q | q
      · exact (f2 b hb).2.1 q
      · exact (f2 b hb).2.2.1 q, .inl hb, fun y c e => (f2 b hb).2.2.2.2.1 y c (clS y c e), (f2 b hb).2.2.2.2.2⟩
  have I4 : Inv (cxComp X N' scope cl s3.heap.objs.size s3 (upd H s.heap.objs.size (.lst [])) fp) pins (none :: none :: σ) (upd H s.heap.objs.size (.lst [])) { s3 with heap := h₁, toks := s3.toks + ([] : List (Str × Value)).length } := by
    refine ⟨ok', rfl, I3.bare, Un.kept old, ⟨_, hns₁, fun i y v e1 e2 vis => ?_⟩, fun y c e => ?_, ?_, fun y c e => I3.freeC y c (clS y c e), fun p hp => ?_, I3.hok.kept old, ?_⟩
    · cases i with
      | zero => cases e2
      | succ i =>
       cases i with
       | zero => cases e2
       | succ i =>
        have e2' : σ[i]? = some (some v) := by simpa using e2
        have hi : i < X.N.length := by rw [← I3.len]; exact (List.getElem?_eq_some_iff.mp e2').1
        have vis' : (relabel scope X.env).names.lookup y = some .local ∨ (relabel scope X.env).names.lookup y = some .cell ∨ (relabel scope X.env).names.lookup y = some .free := vis
        have e1' : N'[i + 2]? = some y := e1
        rcases S.sub i hi with q | q
        · rw [e1'] at q
          have hy : X.N[i]? = some y := q.symm
          have hmem : y ∈ N'.tail.tail := by
            rw [List.mem_iff_getElem?]
            exact ⟨i, by rw [List.getElem?_tail, List.getElem?_tail]; exact e1'⟩
          have hfr : scope.names.lookup y = some .free := by
            rw [relabel_lookup] at vis'
            cases q2 : scope.names.lookup y with
            | none => rw [q2] at vis'; rcases vis' with z | z | z <;> cases z
            | some k =>
              cases k with
              | free => rfl
              | cell => exact absurd rfl (S.cell _ (lookup_mem q2))
              | «local» => exact absurd q2 (S.nol y hmem)
              | globalExplicit => rw [q2] at vis'; rcases vis' with z | z | z <;> simp at z
              | globalImplicit => rw [q2] at vis'; rcases vis' with z | z | z <;> simp at z
          have hok := S.ok (y, .free) (lookup_mem hfr) rfl
          obtain ⟨m, hn, hl⟩ := I3.loc
          have visX : Vis X.env.scope y := by
            rcases hok with z | z
            · exact .inr (.inl z)
            · exact .inr (.inr z)
          obtain ⟨u, r, l⟩ := hl i y v hy e2' visX
          refine ⟨u, r, .inr ⟨?_, ?_⟩⟩
          · show (relabel scope X.env).names.lookup y = some .cell ∨ (relabel scope X.env).names.lookup y = some .free
            rw [relabel_lookup, hfr, Option.map_some]
            by_cases hcnd : (NameKind.free == NameKind.free && X.env.scope.kind == .function && X.env.kindOf y == some .cell) = true
            · left
              rw [if_pos hcnd]
            · right
              rw [if_neg hcnd]
          · rcases l with ⟨k, _⟩ | ⟨k, c, e, z⟩
            · have k' : X.env.scope.names.lookup y = some .local := k
              have hok' : X.env.scope.names.lookup y = some .cell ∨ X.env.scope.names.lookup y = some .free := hok
              rw [k'] at hok'
              rcases hok' with z | z <;> cases z
            · obtain ⟨c', e'⟩ := clH y hfr
              have e3 := clS y c' e'
              rw [e] at e3
              cases e3
              obtain ⟨o, ho, hd⟩ := z
              exact ⟨c, e', o, old c o ho, hd⟩
        · rw [e1'] at q
          cases q
          rw [relabel_lookup, S.noe] at vis'
          rcases vis' with z | z | z <;> cases z
    · obtain ⟨v, o, ho, hd⟩ := I3.cell y c (clS y c e)
      exact ⟨v, o, old c o ho, hd⟩
    · show upd H s.heap.objs.size (.lst []) s3.heap.objs.size = none
      exact I3.hok.fresh (Nat.le_refl _)
    · obtain ⟨e, n, ne, nf, d⟩ := I3.pin p hp
      refine ⟨old _ _ e, n, CneP p hp, fun z => ?_, d⟩
      rcases List.mem_cons.mp (I3.stkSub p.1 z) with q | q
      · exact ne q
      · exact nf q
    · show (none :: none :: σ).length = N'.length
      rw [S.len, List.length_cons, List.length_cons, I3.len]
  have st4 : tn 0 h₁ := T.keep 0 s.heap h₁ st fun b _ o e => old0 b o e

  have loop : ∀ s₄ : Shared, s₄ = { s3 with heap := h₁, toks := s3.toks + ([] : List (Str × Value)).length } →
      codeAny (model X.prog X.w) X.A (.compLoop (.ListComp elt [⟨.Tuple [.Name x px, .Name y2 py] 0 pt, iter, [], 0⟩] scope pos) 0 (.ref it) (.ref s.heap.objs.size) (compEnvC scope cl s3.heap.objs.size X.env)) (RR (.ref s.heap.objs.size) s3.heap.objs.size) s₄ := by
    rintro s₄ rfl
    refine codeAny_compLoop_any (fun n s' => ∃ i v0 v1 ys H', Inv (cxComp X N' scope cl s3.heap.objs.size s3 (upd H s.heap.objs.size (.lst [])) fp) pins (v0 :: v1 :: σ) H' s' ∧ tn i s'.heap ∧ (∀ b ∈ fp, H' b = none) ∧ W i n ys H') ?_ m0
      ⟨0, none, none, [], _, I4, st4, fun b hb => by rw [upd_ne (fpD b hb)]; exact (f2 b hb).1, w0⟩
    rintro n s5 ⟨i, v0, v1, ys, H5, I5, st5, fr5, w5⟩
    rcases turn i n ys H5 w5 with ⟨stop, qn⟩ | ⟨go, hz, N, hN, step⟩
    · refine thn (T.done (cxComp X N' scope cl s3.heap.objs.size s3 (upd H s.heap.objs.size (.lst [])) fp) rfl rfl rfl hc i pins s5 (v0 :: v1 :: σ) H5 (fun _ _ => False) I5 (fpOk' fr5) st5 stop) fun r s6 ⟨hr, I6⟩ => ?_
      subst hr
      have hch : ∀ b ∈ fp, (b ∈ X.ex ∨ X.s₀.heap.objs.size ≤ b) ∧ b ≠ X.env.locals ∧ (∀ x c, X.env.cells.lookup x = some c → c ≠ b) ∧ ∀ p ∈ X.pn ++ pins, p.1 ≠ b := fun b hb =>
        ⟨(f2 b hb).2.2.2.1, (f2 b hb).2.1, (f2 b hb).2.2.2.2.1, (f2 b hb).2.2.2.2.2⟩
      have I7 : Inv X pins σ H5 s6 := I3.call' (ch := fp) I6.os I6.base I6.hok I6.bare hch
      obtain ⟨m, hm, _⟩ := I6.loc
      exact hRR s.heap.objs.size s3.heap.objs.size s6 H5 I7 ⟨m, hm⟩ CneL CneC I6.free (Nat.le_trans I3.sz (Nat.le_refl _)) CneP qn
    · refine thn (T.item (cxComp X N' scope cl s3.heap.objs.size s3 (upd H s.heap.objs.size (.lst [])) fp) rfl rfl rfl hc i pins s5 (v0 :: v1 :: σ) H5 (fun _ _ => False) I5 (fpOk' fr5) st5 go) fun r s6 ⟨u, hr, h6⟩ => ?_
      subst hr
      refine thn h6 fun _ s7 ⟨y, H7, I7, r7, y7, st7, fr7⟩ => ?_
      have I7' := I7.pinned (fpOk' fr7) (T.obj _ _ st7)
      obtain ⟨aT, u0, u1, e7, hT7, step7⟩ := step y H7 y7
      have I7c : Inv (cxComp X N' scope cl s3.heap.objs.size s3 (upd H s.heap.objs.size (.lst [])) fp) (pins ++ pinsAt fp s7.heap) (v0 :: v1 :: σ) H7 s7 := I7'
      refine thn ((show PG _ _ _ from pg_tup (X := cxComp X N' scope cl s3.heap.objs.size s3 (upd H s.heap.objs.size (.lst [])) fp) (es := [.Name x px, .Name y2 py]) (n := 2) hc
        (pgs_cons (pg_name (i := 0) S.nd S.hd (.inl (lookup_relabel_local S.var)) (.inr (lookup_relabel_local S.var))) (pgs_cons (pg_name (i := 1) S.nd S.hd2 (.inl (lookup_relabel_local S.var2)) (.inr (lookup_relabel_local S.var2))) pgs_nil)))
        _ s7 (v0 :: v1 :: σ) H7 y u (fun σ2 H2 => σ2 = some u0 :: some u1 :: σ ∧ H2 = H7) I7c r7 ⟨aT, [u0, u1], e7, hT7, rfl, u0, [u1], rfl, u1, [], rfl, rfl, rfl, rfl⟩) fun _ s8 ⟨σ8, H8, I8, e8, e8'⟩ => ?_
      subst e8 e8'
      have I8' : Inv (cxComp X N' scope cl s3.heap.objs.size s3 (upd H s.heap.objs.size (.lst [])) fp) (pins ++ pinsAt fp s7.heap) (some u0 :: some u1 :: σ) H8 s8 := I8
      refine thn (he cl s3.heap.objs.size s3 (upd H s.heap.objs.size (.lst [])) fp _ s8 (some u0 :: some u1 :: σ) _ N I8' step7) fun w s9 ⟨v, H9, I9, r9, q9⟩ => ?_
      obtain ⟨hD9, m', hm, w9⟩ := hN v H9 q9
      refine thn (mt_append _ s9 (some u0 :: some u1 :: σ) H9 (.ref s.heap.objs.size) [v] (.ref s.heap.objs.size) [w] (fun z H10 => z = .non ∧ H10 = upd H9 s.heap.objs.size (.lst (ys ++ [v]))) I9 rfl (.cons r9 .nil) ⟨s.heap.objs.size, ys, v, rfl, rfl, hD9, hz, rfl, rfl⟩) fun _ s10 ⟨z, H10, I10, _, ez, e10⟩ => ?_
      subst e10
      refine ⟨m', hm, i + 1, some u0, some u1, ys ++ [v], _, I10.unpinned, T.keep _ _ _ st7 fun b hb o e => (I10.pin (b, o) (List.mem_append_right _ (List.mem_append_right _ (mem_pinsAt hb e)))).1, fun b hb => ?_, w9⟩
      obtain ⟨o, e, d⟩ := T.obj _ _ st7 b hb
      exact (I10.pin (b, o) (List.mem_append_right _ (List.mem_append_right _ (mem_pinsAt hb e)))).2.1
  exact codeAny_compStart_list (loop _ (by rw [← hs3])) (T.self X.A 0 _ _ _ st4 (loop _ (by rw [← hs3])))

end
theorem comp_zip {K : PySem.W.Frag} {a b : Addr} {xs ys : List V} {te : TE} {σ : St} {H : Hp} {Q : VK} (f : V → V → V) (hx : SqL K H a xs) (hy : SqL K H b ys) (he : xs.length = ys.length) (hn : xs.length ≤ sizeLine)
    (hs : ∀ (i : Nat) (x y : V) (H' : Hp), xs[i]? = some x → ys[i]? = some y → Same H H' → ∀ N : V → Hp → Prop, (∀ H'', Same H' H'' → N (f x y) H'') → te (some x :: some y :: σ) H' N)
    (hq : ∀ D H', H D = none → Same H H' → H' D = some (.lst (List.zipWith f xs ys)) → Q (.ref D) H') : compAt2 K te σ Q (Itz K a b) H := by
  have hzl : (List.zipWith f xs ys).length = xs.length := by rw [List.length_zipWith, ← he, Nat.min_self]
  intro D hD
  refine ⟨fun i m zs H2 => m = xs.length - i ∧ i ≤ xs.length ∧ zs = (List.zipWith f xs ys).take i ∧ Same H H2 ∧ H2 D = some (.lst zs), ⟨xs.length, rfl, Nat.zero_le _, rfl, fun b o e => ?_, upd_same⟩, ?_⟩
  · rw [upd_ne (ne_of_none e hD)]
    exact e
  · rintro i m zs H2 ⟨rfl, hi, rfl, s2, hd⟩
    by_cases hlt : i < xs.length
    · have h1 : xs[i]? = some xs[i] := List.getElem?_eq_getElem hlt
      have h2 : ys[i]? = some (ys[i]'(by omega)) := List.getElem?_eq_getElem (by omega)
      refine .inr ⟨⟨xs, ys, _, _, s2.seq hx, s2.seq hy, h1, h2⟩, by rw [List.length_take]; omega, fun v H' => v = f xs[i] (ys[i]'(by omega)) ∧ Same H2 H', fun v H' ⟨ev, hs'⟩ => ⟨hs' D _ hd, xs.length - (i + 1), by omega, rfl, hlt, ?app, fun b o e => ?kp, upd_same⟩, fun y H' hy' => ?stp⟩
      case app => rw [ev, List.take_add_one, List.getElem?_zipWith, h1, h2]; rfl
      case kp =>
        rw [upd_ne (ne_of_none e hD)]
        exact hs' b o (s2 b o e)
      case stp =>
        obtain ⟨T, u, v, rfl, hT, rfl, y1, y3⟩ := hy'
        have t2 : Same H2 (upd H2 T (.tup [u, v])) := fun b o e => by rw [upd_ne (ne_of_none e hT)]; exact e
        obtain rfl := Option.some.inj ((y1 xs (s2.seq hx)).symm.trans h1)
        obtain rfl := Option.some.inj ((y3 ys (s2.seq hy)).symm.trans h2)
        exact ⟨T, _, _, rfl, SqT.of upd_same, hs i _ _ _ h1 h2 (s2.trans t2) _ fun H'' h'' => ⟨rfl, t2.trans h''⟩⟩
    · have e : i = xs.length := by omega
      subst e
      rw [List.take_of_length_le (by omega)] at hd
      exact .inl ⟨⟨xs, ys, s2.seq hx, s2.seq hy, .inl (Nat.le_refl _)⟩, hq D H2 hD s2 hd⟩
end L2
namespace L2
open PySem PySem.Spec PyProof.Rows
end L2

set_option Elab.async false
set_option linter.all false
set_option maxRecDepth 100000
set_option maxHeartbeats 4000000

namespace L2
open PySem PySem.Spec PyProof.Rows

end L2

set_option Elab.async false
set_option linter.all false
set_option maxRecDepth 100000
set_option maxHeartbeats 4000000

namespace L2
open PySem PySem.Spec PyProof.Rows

section
variable {X : Cx} {pins : List (Addr × Obj)} {σ : St} {H H' : Hp} {s s' : Shared} {a : Addr} {cls : Value} {E : Value → Shared → Prop}
end
section
variable {X : Cx} {pins : List (Addr × Obj)} {σ : St} {H H' : Hp} {s s' : Shared} {a : Addr} {cls : Value}
end
section
variable {P : Program} {w : World} {K : PySem.W.Frag} {mg : Str → Option Value} {base : Heap} {N : List Str} {qual : Str} {scope : Scope} {f : Addr} {cdv : Value} {A : Around} {outer : List Env} {s : Shared} {H : Hp} {E : XK}
end
section
variable {X : Cx}
end
end L2

set_option Elab.async false
set_option linter.all false
set_option maxRecDepth 100000
set_option maxHeartbeats 4000000

namespace L2
open PySem PySem.Spec PyProof.Rows

section
variable {prog : Program} {w : World} {A : Around} {E : Value → Shared → Prop} {h : Heap} {g : Array GenState} {d : Drawn} {t : Nat} {os : OsState}
variable {nm q : Str} {Cl Ns : Addr} {bs tl : List Value} {hdct : Bool} {sn : List Str} {sub : List Value} {ab : Bool} {col : Option Bool} {dd : Option Addr} {k0 k1 k2 k3 k5 : Option Value}
end
section
variable {M : Model} {A : Around} {E : Value → Shared → Prop} {s : Shared} {env : Env}
variable {nm q : Str} {Cl Ns : Addr} {bs tl : List Value} {hdct : Bool} {sn : List Str} {sub : List Value} {ab : Bool} {col : Option Bool} {dd : Option Addr} {k0 k1 k2 k3 k5 : Option Value} {ni : String}
end
end L2

set_option Elab.async false
set_option linter.all false
set_option maxRecDepth 100000
set_option maxHeartbeats 4000000

namespace L2
open PySem PySem.Spec PyProof.Rows

end L2

set_option Elab.async false
set_option linter.all false
set_option maxRecDepth 100000
set_option maxHeartbeats 4000000

namespace L2
open PySem PySem.Spec PyProof.Rows

section
variable {X : Cx}
end
end L2

set_option Elab.async false
set_option linter.all false
set_option maxRecDepth 100000
set_option maxHeartbeats 4000000

namespace L2
open PySem PySem.Spec PyProof.Rows PySem.Builtin PySem.Builtin.ObjectAttr
section
variable {prog : Program} {w : World} {A : Around} {E : Value → Shared → Prop} {K : PySem.W.Frag} {C f a x0 : Addr} {F : Str} {v : Value} {s : Shared}
end
section
variable {X : Cx}
end
end L2

set_option Elab.async false
set_option linter.all false
set_option maxRecDepth 100000
set_option maxHeartbeats 4000000

namespace L2
open PySem PySem.Spec PyProof.Rows
section
variable {X : Cx} {pins : List (Addr × Obj)} {σ : St} {H : Hp} {s : Shared} {a C x0 : Addr} {E : Value → Shared → Prop} {od : Option Addr}
end
section
variable {X : Cx}
end
end L2

set_option Elab.async false
set_option linter.all false
set_option maxRecDepth 100000
set_option maxHeartbeats 4000000

namespace L2
open PySem PyProof.Rows PySem.Spec
section
variable {X : Cx}
end
namespace EX
open PySem.W PySem.Calls PySem.Builtin PySem.Builtin.ObjectAttr PySem.Builtin.Getset_descriptor
variable {prog : Program} {w : World} {A : Around} {E : Value → Shared → Prop} {s : Shared} {K : PySem.W.Frag} {a C : Addr}
end EX
section
variable {X : Cx}
end
end L2

set_option linter.all false
namespace L2
open PySem PySem.Spec PyProof.Rows
section
variable {X : Cx}
end
end L2

set_option Elab.async false
set_option linter.all false
set_option maxRecDepth 100000
set_option maxHeartbeats 4000000
namespace L2
open PySem PyProof.Rows PySem.Spec
noncomputable def Ite (K : PySem.W.Frag) (a : Addr) : It :=
  ⟨fun i H => ∃ xs x, SqL K H a xs ∧ xs[i]? = some x,
   fun i H x H' => ∃ (T : Addr) (u : V), x = .ref T ∧ H T = none ∧ H' = upd H T (.tup [.int (i : Nat), u]) ∧ ∀ xs, SqL K H a xs → xs[i]? = some u,
   fun i H => ∃ xs, SqL K H a xs ∧ xs.length ≤ i⟩
theorem turn_enum {P : Program} {w : World} {K : PySem.W.Frag} {elts : List Expr} {x1} {pos : Pos} {a e it : Addr} (hne : e ≠ it) :
    Turn P w K (.Tuple elts x1 pos) (Ite K a) [e, it] e (fun i h => (∃ old, IsEnum h e it i old) ∧ h.IsListIter it a i) where
  mem := by simp
  obj := fun i h st c hc => by
    obtain ⟨⟨old, h1⟩, ⟨o4, e4, c4, d4⟩⟩ := st
    simp only [List.mem_cons, List.not_mem_nil, or_false] at hc
    rcases hc with rfl | rfl
    · exact ⟨_, h1, fun v z => by cases z⟩
    · exact ⟨_, e4, fun v z => by rw [d4] at z; cases z⟩
  keep := fun i h h' st k => by
    obtain ⟨⟨old, h1⟩, h4⟩ := st
    exact ⟨⟨old, k e (by simp) _ h1⟩, h4.at fun o e => k it (by simp) o e⟩
  item := by
    intro X hP hw hK hc i pins s σ H E I hf st hg
    subst hP hw hK
    obtain ⟨xs, x, hq1, hx⟩ := hg
    obtain ⟨its, rv, p, hz⟩ := I.list hq1
    obtain ⟨u, hu, ru⟩ := rv.get hx
    obtain ⟨⟨old, h1⟩, h4⟩ := st
    refine wpAny_pyNext_enum_item h1 h4 p.isList (x := u) (by simpa using hu) hne fun h' z1 z2 z3 z4 z5 => ?_
    refine ⟨_, rfl, wpAny_letOwnedTupleGo_enum (s := { s with heap := h', toks := s.toks + 1 }) z1 fun h'' y1 y2 => ?_⟩
    have hT : H s.heap.objs.size = none := I.hok.fresh (Nat.le_refl _)
    have I1 : Inv X pins σ (upd H s.heap.objs.size (.tup [.int (i : Nat), x])) { s with heap := s.heap.push { cls := .type "tuple", data := .seq #[.int i s.toks, u] }, toks := s.toks + 1 } :=
      I.laid (t' := s.toks + 1) (fun b u e => Heap.get?_push_of_some _ e) (Nat.le_refl _) ⟨(by show 2 ≤ sizeLine; rw [sizeLine_eq]; decide), [.int i s.toks, u], .cons ⟨_, rfl⟩ (.cons ru .nil), ⟨_, Heap.get?_push_size _ rfl, rfl, _, rfl⟩⟩
    have nf : ∀ c ∈ [e, it], c ≠ s.heap.objs.size := fun c hc e => by
      have lt : ∃ o, s.heap.get? c = some o := by
        obtain ⟨o4, e4, _⟩ := id h4
        simp only [List.mem_cons, List.not_mem_nil, or_false] at hc
        rcases hc with rfl | rfl
        · exact ⟨_, h1⟩
        · exact ⟨_, e4⟩
      obtain ⟨o, ho⟩ := lt
      have := Heap.lt_size ho
      rw [e] at this
      exact Nat.lt_irrefl _ this
    have hf1 : ∀ c ∈ [e, it], FpOk X pins (upd H s.heap.objs.size (.tup [.int (i : Nat), x])) c := fun c hc => by
      obtain ⟨f0, f⟩ := hf c hc
      exact ⟨by rw [upd_ne (nf c hc)]; exact f0, f⟩
    have I2 : Inv X pins σ (upd H s.heap.objs.size (.tup [.int (i : Nat), x])) { s with heap := h'', toks := s.toks + 1 } :=
      Inv.turnedL (s := { s with heap := s.heap.push { cls := .type "tuple", data := .seq #[.int i s.toks, u] }, toks := s.toks + 1 }) (t' := s.toks + 1) (ch := [e, it]) I1 (fun b o hb e => by
        simp only [List.mem_cons, List.not_mem_nil, or_false, not_or] at hb
        obtain ⟨b1, b2⟩ := hb
        refine (y2.2 b b1).trans ?_
        rcases Heap.get?_push_cases e with ⟨rfl, rfl⟩ | e
        · exact z3
        · exact z5 b o b1 b2 e) hf1
    refine ⟨.ref s.heap.objs.size, _, I2, rfl, ⟨s.heap.objs.size, x, rfl, hT, rfl, fun zs hzs => by rw [I.list_inj hzs hq1]; exact hx⟩, ⟨⟨_, by exact_mod_cast y1⟩, ?_⟩, fun c hc => (hf1 c hc).1⟩
    exact z2.at fun o e => (y2.2 it (Ne.symm hne)).trans e
  done := by
    intro X hP hw hK hc i pins s σ H E I hf st hg
    subst hP hw hK
    obtain ⟨xs, hq1, hl⟩ := hg
    obtain ⟨its, rv, p, hz⟩ := I.list hq1
    obtain ⟨⟨old, h1⟩, h4⟩ := st
    have l1 := rv.length
    refine wpAny_pyNext_enum_end (I.ok.hd hc) h1 h4 p.isList (by simp; omega) fun h' kk => ⟨rfl, ?_⟩
    exact I.turnedL (t' := s.toks) (ch := [e, it]) (fun b o hb e => by
      simp only [List.mem_cons, List.not_mem_nil, or_false, not_or] at hb
      exact kk b o hb.2 e) hf
  self := fun A i s Q E st h => wpAny_pyIter_enum st.1.choose_spec h
section
variable {X : Cx}
noncomputable def iEnum (K : PySem.W.Frag) (ta : TA) : TI := fun σ H R => ta σ H fun xs H1 => ∃ a : Addr, xs = [.ref a] ∧ (∃ us, SqL K H1 a us) ∧ R (Ite K a) H1
theorem pi_enum {a : Expr} {ta : TA} {p pos pos' : Pos} {elts : List Expr} {x1} (hg : Gl X "enumerate") (hm : X.mg "enumerate" = none) (ha : PA X [a] ta) (hs : starEach [a] X.env = [(false, eval a X.env)] := by rfl) :
    PI X (.Tuple elts x1 pos') (.Call (.Name "enumerate" p) [a] [] pos) (iEnum X.K ta) := by
  intro pins s σ H R I h
  refine Call_ (ld_blt I hg hm boot_enumerate (PyProof.Rows.callWith_type1 (thn (ha pos pins s σ H _ I h) fun us s1 ⟨vs, H1, I1, r1, q1⟩ => ?_) (by rw [hs]; rfl) (by rfl)))
  obtain ⟨l1, e, ⟨us1, hq1⟩, q⟩ := q1
  subst e
  cases r1 with
  | cons r rr =>
    cases rr
    cases r
    obtain ⟨its, rv, p, hz⟩ := I1.list hq1
    refine call_enumerate_list p.isList fun h' z1 z2 z3 z4 => ?_
    refine wpAny_pyIter_enum (s := { s1 with heap := h' }) z1 ?_
    have fr : ∀ c, s1.heap.objs.size ≤ c → FpOk X pins H1 c := fun c hc => I1.fpOk hc (I1.hok.fresh hc)
    refine ⟨s1.heap.objs.size + 1, [s1.heap.objs.size + 1, s1.heap.objs.size], _, _, H1, rfl, I1.kept (t' := s1.toks) z4, turn_enum (Nat.succ_ne_self _), ⟨⟨_, z1⟩, z2⟩, fun c hc => fr c ?_, q⟩
    simp only [List.mem_cons, List.not_mem_nil, or_false] at hc
    rcases hc with rfl | rfl
    · exact Nat.le_add_right _ _
    · exact Nat.le_refl _
theorem for_enum {K : PySem.W.Frag} {a : Addr} {xs : List V} {g : TG} {tb : TS} {D : Ends} {σ : St} {H : Hp} (Pv : Nat → St → Hp → Prop) (h0 : Pv 0 σ H) (hl : ∀ i σ H, i ≤ xs.length → Pv i σ H → SqL K H a xs)
    (hs : ∀ i x T σ H, xs[i]? = some x → H T = none → Pv i σ H → g (.ref T) σ (upd H T (.tup [.int (i : Nat), x])) fun σ2 H2 => tb { D with nx := Pv (i + 1), ct := Pv (i + 1), bk := D.nx } σ2 H2) (hd : ∀ σ H, Pv xs.length σ H → D.nx σ H) :
    ∃ W : Nat → Nat → St → Hp → Prop, (∃ m, W 0 m σ H) ∧ ∀ i m σ H, W i m σ H →
      ((Ite K a).stop i H ∧ D.nx σ H) ∨ ((Ite K a).go i H ∧ ∃ N : St → Hp → Prop, (∀ σ' H', N σ' H' → ∃ m', m' < m ∧ W (i + 1) m' σ' H') ∧ ∀ x H', (Ite K a).yld i H x H' → g x σ H' fun σ2 H2 => tb { D with nx := N, ct := N, bk := D.nx } σ2 H2) := by
  refine ⟨fun i m σ H => m = xs.length - i ∧ i ≤ xs.length ∧ Pv i σ H, ⟨xs.length, by simp, Nat.zero_le _, h0⟩, ?_⟩
  rintro i m σ H ⟨rfl, hi, p⟩
  have q1 := hl i σ H hi p
  by_cases hlt : i < xs.length
  · refine .inr ⟨⟨xs, xs[i], q1, by simp [hlt]⟩, Pv (i + 1), fun σ' H' p' => ⟨xs.length - (i + 1), by omega, rfl, hlt, p'⟩, fun x H' y => ?_⟩
    obtain ⟨T, u, rfl, hT, rfl, y1⟩ := y
    exact hs i u T σ _ (y1 xs q1) hT p
  · have e : i = xs.length := by omega
    subst e
    exact .inl ⟨⟨xs, q1, Nat.le_refl _⟩, hd σ H p⟩
end
end L2

set_option Elab.async false
set_option linter.all false
set_option maxRecDepth 100000
set_option maxHeartbeats 4000000
namespace L2
open PySem PyProof.Rows PySem.Spec
noncomputable def Bg (i : Int) : Prop := i.natAbs < 2 ^ 8000
theorem Bg.bits {i : Int} (h : Bg i) : Builtin.Int.intBits i ≤ 8000 := by
  unfold Builtin.Int.intBits
  split
  · exact Nat.zero_le _
  · rename_i hn
    have h0 : i.natAbs ≠ 0 := fun z => hn (by rw [Int.natAbs_eq_zero.mp z]; rfl)
    exact (Nat.log2_lt h0).mpr h
theorem Bg.mulOk {i j : Int} (hi : Bg i) (hj : Bg j) : IntMulOk i j := by
  unfold IntMulOk Builtin.Int.intTooBig
  have h1 := hi.bits
  have h2 := hj.bits
  have h3 : (16000 : Int) ≤ bitsLine := by decide +kernel
  have h4 : decide (((Builtin.Int.intBits i : Nat) : Int) + ((Builtin.Int.intBits j : Nat) : Int) > (bitsLine : Int)) = false := decide_eq_false (by omega)
  rw [h4, Bool.and_false]
  exact Bool.false_ne_true
theorem Bg.noPylong {i j : Int} (hj : Bg j) : Builtin.divisionGoesByPylong i j = false := by
  unfold Builtin.divisionGoesByPylong
  have : ¬ ((if (j == 0) = true then 0 else j.natAbs.log2 / 30 + 1) > 300) := by
    split
    · decide
    · rename_i hn
      have h0 : j.natAbs ≠ 0 := fun z => hn (by rw [Int.natAbs_eq_zero.mp z]; rfl)
      have := (Nat.log2_lt h0).mpr hj
      omega
  dsimp only
  rw [decide_eq_false this]
  rfl
section
variable {X : Cx}
theorem op_mulB : OpR X (binaryOp .Mult) (rI (fun i j => Bg i ∧ Bg j) fun i j => .int (i * j)) := opI fun _ _ _ _ _ _ _ hc q => mul_int q (hc.1.mulOk hc.2)
theorem op_fdivB : OpR X (binaryOp .FloorDiv) (rI (fun _ j => 0 < j ∧ Bg j) fun i j => .int (i / j)) := opI fun i j _ _ _ _ _ hc q => by
  have h1 : (0 : Int) < j := hc.1
  exact floordiv_int (by omega) (by rw [Int.fdiv_eq_ediv_of_nonneg i (by omega)]; exact q) (.inl hc.2.noPylong)
end
section
variable {X : Cx} {N' : List Str} {scope : Scope} {x y2 : Str} {px py py2 pt : Pos} {elt iter : Expr} {pos : Pos} {te : TE} {wi : TI}
theorem pe_comp2 (S : CompSc2 X.N N' X.env.scope scope x y2) (hc : X.calm = true) (hi : PI X (.Tuple [.Name x px, .Name y2 py2] 0 pt) iter wi) (he : ∀ cl C s H fp, PE (cxComp X N' scope cl C s H fp) elt te)
    (hs : ∀ x, foldedSetIterable iter X.env x = pure x := by intro _; rfl) : PE X (.ListComp elt [⟨.Tuple [.Name x px, .Name y2 py2] 0 pt, iter, [], 0⟩] scope pos) (tComp2 X.K wi te) := by
  intro pins s σ H Q I h
  rw [eval_ListComp]
  have hfree : ∀ z ∈ scope.names, z.2 = .free → ∃ c, X.env.cells.lookup z.1 = some c := fun z hz hk => by
    rcases S.ok z hz hk with q | q
    · exact I.ok.has z.1 (.inl q)
    · exact I.ok.has z.1 (.inr q)
  refine wpAny_comprehension_free (use := none) rfl hs (clos_eq hfree) S.kind S.names (thn (hi pins s σ H _ I h) fun xv s1 h1 => thn h1 fun itv s2 h2 => ?_)
  obtain ⟨it, fp, tn, J, H2, e, I2, T, st2, f2, hw⟩ := h2
  subst e
  obtain ⟨cl, hcl, hrun⟩ := comp_core2 (py := py2) (pt := pt) (elt := elt) (iter := iter) (pos := pos) (px := px) (E := X.xe) (RR := fun acc C => compPost (model X.prog X.w) X.A X.xe none (EP X pins σ Q) acc C) S hc he I2 T st2 f2 hw (fun D C s' H' I' ⟨m, hm⟩ n1 n2 n3 n4 n5 q =>
    ⟨m, hm, fun h' hsb => ⟨.ref D, H', I'.turned (it := C) (t' := s'.toks) (fun b o hb e => (hsb.2 b hb).trans e) n3 n1 (.inr n4) n2 n5, rfl, q⟩⟩)
  have ecl : (pure (closOf X.env.cells scope.names []) : Sem (List (Str × Addr))) = pure cl := (clos_eq hfree).symm.trans hcl
  have ecl' : closOf X.env.cells scope.names [] = cl := by
    injection ecl
  rw [ecl']
  exact hrun
end
end L2
namespace L2
open PySem PyProof.Rows PySem.Spec
section
variable {X : Cx}
end
end L2

set_option Elab.async false
set_option linter.all false
set_option maxRecDepth 100000
namespace SR
open PySem PyProof.Rows PySem.Spec
section
variable {prog : Program} {w : World} {A : Around} {E : Value → Shared → Prop} {s : Shared}
end
end SR
namespace L2
open PySem PyProof.Rows PySem.Spec
section
variable {X : Cx}
end
end L2

set_option Elab.async false
set_option linter.all false
set_option maxRecDepth 100000
namespace L2
open PySem PyProof.Rows PySem.Spec
section
variable {X : Cx}
end
end L2
namespace L2
open PySem PyProof.Rows PySem.Spec
section
variable {X : Cx}
end
end L2

set_option Elab.async false
set_option linter.all false
set_option maxRecDepth 100000
namespace L2
open PySem PyProof.Rows PySem.Spec
section
variable {X : Cx}
end
end L2

set_option Elab.async false
set_option linter.all false
set_option maxRecDepth 100000
set_option maxHeartbeats 4000000
namespace L2
open PySem PyProof.Rows PySem.Spec
section
variable {X : Cx}
end
noncomputable def tupIs (K : PySem.W.Frag) (a : Addr) (ns : List Int) : Bool :=
  match K.lookup a with
  | some o => match o.cls, o.data with
    | .type "tuple", .seq its _ => decide (its.size ≤ 1000) && (its.toList.map fun v => match v with | .int i _ => some i | _ => none) == ns.map some
    | _, _ => false
  | none => false
theorem SqT.tupIs {K : PySem.W.Frag} {a : Addr} {ns : List Int} {H : Hp} (h : tupIs K a ns = true) : SqT K H a (ns.map V.int) := by
  unfold L2.tupIs at h
  cases hk : K.lookup a with
  | none => rw [hk] at h; cases h
  | some o =>
    rw [hk] at h
    dsimp only at h
    split at h
    · rename_i its n hc hd
      rw [Bool.and_eq_true, decide_eq_true_iff, beq_iff_eq] at h
      refine .inr ⟨o, its, n, hk, hc, hd, Nat.le_trans h.1 (by rw [sizeLine_eq]; decide), ?_⟩
      have key : ∀ (ns : List Int) (us : List Value), (us.map fun v => match v with | .int i _ => some i | _ => none) = ns.map some → Vals (ns.map V.int) us := fun ns => by
        induction ns with
        | nil =>
          intro us hu
          cases us with
          | nil => exact .nil
          | cons u us => cases hu
        | cons i ns ih =>
          intro us hu
          cases us with
          | nil => cases hu
          | cons u us =>
            rw [List.map_cons, List.map_cons] at hu
            obtain ⟨h1, h2⟩ := List.cons.inj hu
            refine .cons ?_ (ih us h2)
            split at h1
            · rename_i j t
              obtain rfl := Option.some.inj h1
              exact ⟨_, rfl⟩
            · cases h1
      exact key ns _ h.2
    · cases h
end L2

set_option Elab.async false
set_option linter.all false
set_option maxRecDepth 100000
set_option maxHeartbeats 4000000
namespace L2
open PySem PyProof.Rows PySem.Spec
section
variable {X : Cx}
end
noncomputable def RowsAt (K : PySem.W.Frag) (H : Hp) (as : List Addr) (M : List (List Int)) : Prop := as.length = M.length ∧ ∀ (i : Nat) (a : Addr) (r : List Int), as[i]? = some a → M[i]? = some r → SqL K H a (r.map V.int)
section
variable {K : PySem.W.Frag} {H G : Hp} {as : List Addr} {M : List (List Int)}
theorem RowsAt.on (h : RowsAt K H as M) (s : Same H G) : RowsAt K G as M := ⟨h.1, fun i a r e1 e2 => s.seq (h.2 i a r e1 e2)⟩
theorem RowsAt.at (h : RowsAt K H as M) {i : Nat} {v : V} (hv : (as.map V.ref)[i]? = some v) : ∃ (a : Addr) (r : List Int), v = .ref a ∧ M[i]? = some r ∧ SqL K H a (r.map V.int) := by
  rw [List.getElem?_map] at hv
  obtain ⟨a, ha, rfl⟩ := Option.map_eq_some_iff.mp hv
  have hi := (List.getElem?_eq_some_iff.mp ha).1
  obtain ⟨r, hr⟩ : ∃ r, M[i]? = some r := ⟨_, List.getElem?_eq_getElem (by rw [← h.1]; exact hi)⟩
  exact ⟨a, r, rfl, hr, h.2 i a r ha hr⟩
theorem RowsAt.sub (h : RowsAt K H as M) (f : Nat → Nat) (bs : List Addr) (N : List (List Int)) (hl : bs.length = N.length) (h1 : ∀ i b, bs[i]? = some b → as[f i]? = some b) (h2 : ∀ i r, N[i]? = some r → M[f i]? = some r) : RowsAt K H bs N := ⟨hl, fun i a r e1 e2 => h.2 (f i) a r (h1 i a e1) (h2 i r e2)⟩
theorem RowsAt.erase (h : RowsAt K H as M) (p : Nat) : RowsAt K H (as.eraseIdx p) (M.eraseIdx p) :=
  h.sub (fun i => if i < p then i else i + 1) _ _ (by rw [List.length_eraseIdx, List.length_eraseIdx, h.1]) (fun i b e => by rw [List.getElem?_eraseIdx] at e; split <;> simp_all) (fun i b e => by rw [List.getElem?_eraseIdx] at e; split <;> simp_all)
end
theorem compR {K : PySem.W.Frag} {J : It} {as : List Addr} {M : List (List Int)} {te : TE} {σ : St} {H : Hp} {Q : VK} (g : List Int → List Int) (rd : Reads J H (as.map V.ref)) (hR : RowsAt K H as M) (hn : as.length ≤ sizeLine)
    (he : ∀ a r H', r ∈ M → SqL K H' a (r.map V.int) → Same H H' → ∀ N : V → Hp → Prop, (∀ c H'', Same H' H'' → (H' c = none) → H'' c = some (.lst ((g r).map V.int)) → N (.ref c) H'') → te (some (.ref a) :: σ) H' N)
    (hq : ∀ D bs H', H D = none → Same H H' → H' D = some (.lst (bs.map V.ref)) → (∀ b ∈ bs, b ≠ D) → RowsAt K H' bs (M.map g) → Q (.ref D) H') : compAt te σ Q J H := by
  intro D hD
  refine ⟨fun i m ys H2 => m = as.length - i ∧ i ≤ as.length ∧ Same H H2 ∧ H2 D = some (.lst ys) ∧ ∃ bs : List Addr, ys = bs.map V.ref ∧ bs.length = i ∧ ∀ (j : Nat) (b : Addr) (r : List Int), bs[j]? = some b → M[j]? = some r → b ≠ D ∧ H2 b = some (.lst ((g r).map V.int)), ⟨as.length, rfl, Nat.zero_le _, fun b o e => ?_, upd_same, [], rfl, rfl, fun j b r e => by simp at e⟩, ?_⟩
  · rw [upd_ne (ne_of_none e hD)]
    exact e
  · rintro i m ys H2 ⟨rfl, hi, hs, hd, bs, rfl, hl, hb⟩
    by_cases hlt : i < as.length
    · have hlt' : i < (as.map V.ref).length := by rw [List.length_map]; exact hlt
      obtain ⟨a, r, ha, hr, _⟩ := hR.at (i := i) (v := (as.map V.ref)[i]) (List.getElem?_eq_getElem hlt')
      refine .inr ⟨rd.go i H2 hs hlt', by rw [List.length_map]; omega, fun v H' => Same H2 H' ∧ ∃ c, v = .ref c ∧ c ≠ D ∧ H' c = some (.lst ((g r).map V.int)), fun v H' ⟨hs', c, ev, hcD, hc⟩ => ⟨hs' D _ hd, as.length - (i + 1), by omega, rfl, hlt, fun b o e => ?kp, upd_same, bs ++ [c], ?app, by rw [List.length_append, hl]; rfl, fun j b r' e1 e2 => ?la⟩, fun y H' hy => ?stp⟩
      case app =>
        rw [ev, List.map_append]
        rfl
      case kp =>
        rw [upd_ne (ne_of_none e hD)]
        exact hs' b o (hs b o e)
      case la =>
        by_cases hj : j < bs.length
        · rw [List.getElem?_append_left hj] at e1
          obtain ⟨h1, h2⟩ := hb j b r' e1 e2
          exact ⟨h1, by rw [upd_ne h1]; exact hs' b _ h2⟩
        · have hj' : j = bs.length := by
            have := (List.getElem?_eq_some_iff.mp e1).1
            rw [List.length_append, List.length_singleton] at this
            omega
          subst hj'
          rw [List.getElem?_append_right (Nat.le_refl _), Nat.sub_self] at e1
          obtain rfl : c = b := Option.some.inj e1
          rw [hl, hr] at e2
          obtain rfl := Option.some.inj e2
          exact ⟨hcD, by rw [upd_ne hcD]; exact hc⟩
      case stp =>
        obtain ⟨rfl, e2⟩ := rd.yl i H2 y H' hs hy
        obtain ⟨a2, r2, rfl, hr2, hs2⟩ := (hR.on hs).at e2
        rw [hr] at hr2
        obtain rfl := Option.some.inj hr2
        exact he a2 r _ (List.mem_of_getElem? hr) hs2 hs _ fun c H'' s'' hc hc2 => ⟨s'', c, rfl, fun z => (by rw [z, hd] at hc; cases hc), hc2⟩
    · have e : i = as.length := by omega
      have hst := rd.st H2 hs
      rw [List.length_map] at hst
      subst e
      have hlM := hR.1
      refine .inl ⟨hst, hq D bs H2 hD hs hd (fun b hb' => ?_) ⟨by rw [hl, List.length_map, hlM], fun j b r e1 e2 => ?_⟩⟩
      · obtain ⟨j, hj⟩ := List.getElem?_of_mem hb'
        have hjl := (List.getElem?_eq_some_iff.mp hj).1
        exact (hb j b _ hj (List.getElem?_eq_getElem (show j < M.length by omega))).1
      · rw [List.getElem?_map] at e2
        obtain ⟨r', hr', rfl⟩ := Option.map_eq_some_iff.mp e2
        exact SqL.of (hb j b r' e1 hr').2
theorem compI {K : PySem.W.Frag} {J : It} {as : List Addr} {M : List (List Int)} {te : TE} {σ : St} {H : Hp} {Q : VK} (g : List Int → Int) (rd : Reads J H (as.map V.ref)) (hR : RowsAt K H as M) (hn : as.length ≤ sizeLine)
    (he : ∀ a r H', r ∈ M → SqL K H' a (r.map V.int) → Same H H' → ∀ N : V → Hp → Prop, (∀ H'', Same H' H'' → N (.int (g r)) H'') → te (some (.ref a) :: σ) H' N)
    (hq : ∀ D H', H D = none → Same H H' → H' D = some (.lst ((M.map g).map V.int)) → Q (.ref D) H') : compAt te σ Q J H := by
  intro D hD
  have hlM := hR.1
  refine ⟨fun i m ys H2 => m = as.length - i ∧ i ≤ as.length ∧ Same H H2 ∧ H2 D = some (.lst ys) ∧ ys = ((M.take i).map g).map V.int, ⟨as.length, rfl, Nat.zero_le _, fun b o e => ?_, upd_same, rfl⟩, ?_⟩
  · rw [upd_ne (ne_of_none e hD)]
    exact e
  · rintro i m ys H2 ⟨rfl, hi, hs, hd, rfl⟩
    by_cases hlt : i < as.length
    · have hlt' : i < (as.map V.ref).length := by rw [List.length_map]; exact hlt
      have hr : M[i]? = some (M[i]'(by omega)) := List.getElem?_eq_getElem (by omega)
      refine .inr ⟨rd.go i H2 hs hlt', by rw [List.length_map, List.length_map, List.length_take]; omega, fun v H' => v = .int (g (M[i]'(by omega))) ∧ Same H2 H', fun v H' ⟨ev, hs'⟩ => ⟨hs' D _ hd, as.length - (i + 1), by omega, rfl, hlt, fun b o e => ?kp, upd_same, ?app⟩, fun y H' hy => ?stp⟩
      case app =>
        rw [ev, List.take_add_one, hr, List.map_append, List.map_append]
        rfl
      case kp =>
        rw [upd_ne (ne_of_none e hD)]
        exact hs' b o (hs b o e)
      case stp =>
        obtain ⟨rfl, e2⟩ := rd.yl i H2 y H' hs hy
        obtain ⟨a2, r2, rfl, hr2, hs2⟩ := (hR.on hs).at e2
        obtain rfl := Option.some.inj (hr2.symm.trans hr)
        exact he a2 _ _ (List.mem_of_getElem? hr) hs2 hs _ fun H'' s'' => ⟨rfl, s''⟩
    · have e : i = as.length := by omega
      have hst := rd.st H2 hs
      rw [List.length_map] at hst
      subst e
      rw [List.take_of_length_le (by omega)] at hd
      exact .inl ⟨hst, hq D H2 hD hs hd⟩
end L2

set_option Elab.async false
set_option linter.all false
set_option maxRecDepth 100000
namespace L2
open PySem PyProof.Rows
section
variable {X : Cx} {pins : List (Addr × Obj)} {σ : List (Option V)} {H H' : Hp} {s : Shared}
end
section
variable {X : Cx} {tg : Expr}
end
end L2
namespace L2
open PySem PyProof.Rows
section
variable {X : Cx} {o : Expr} {td : TE} {apos cpos : Pos}
end
end L2
namespace L2
open PySem PyProof.Rows PySem.Spec
section
variable {X : Cx}
end
end L2

set_option Elab.async false
set_option linter.all false
set_option maxRecDepth 100000
namespace L2
open PySem PyProof.Rows
section
variable {X : Cx}
end
end L2
namespace L2
open PySem PyProof.Rows PySem.Spec
section
variable {X : Cx}
end
end L2
namespace L2
open PySem PyProof.Rows PySem.Spec
section
variable {X : Cx}
end
end L2

set_option Elab.async false
set_option linter.all false
namespace L2
open PySem
section
variable {X : Cx}
theorem ps_wk {st : Stmt} {t t' : TS} (h : PS X st t) (hw : ∀ (D : Ends) (σ : St) (H : Hp), t' D σ H → t D σ H) : PS X st t' := fun pins s σ H D I q => h pins s σ H D I (hw D σ H q)
end
end L2

set_option Elab.async false
set_option linter.all false
set_option maxRecDepth 100000
namespace L2
open PySem PyProof.Rows
section
variable {X : Cx}
end
end L2

set_option Elab.async false
set_option linter.all false
set_option maxRecDepth 100000
namespace L2
open PySem PySem.Spec PyProof.Rows
section
variable {X : Cx}
theorem call_sumXK (K : PySem.W.Frag) (hK : X.K = K) (hc : X.calm = true) : CallR X (.builtin "sum") (fun xs H Q => ∃ (p : Addr) (ns : List Int), xs = [.ref p] ∧ SqL K H p (ns.map V.int) ∧ Q (.int ns.sum) H) := by
  subst hK
  exact call_sumX hc
end
end L2

set_option Elab.async false
set_option linter.all false
set_option maxRecDepth 100000
set_option maxHeartbeats 4000000
namespace L2
open PySem PySem.Spec PyProof.Rows
theorem call_intB {X : Cx} : CallR X (.type "int") (fun xs H Q => ∃ b : Bool, xs = [.bl b] ∧ Q (.int (if b then 1 else 0)) H) := by
  intro pins s σ H xs us Q I r h
  obtain ⟨b, rfl, q⟩ := h
  obtain ⟨u, rfl, ru⟩ := vals1 r
  obtain rfl : u = .bool b := ru
  exact call_int_bool ⟨.int (if b then 1 else 0), H, I.tok _, ⟨_, rfl⟩, q⟩
theorem compRL {K : PySem.W.Frag} {lo : Int} {n : Nat} {te : TE} {σ : St} {H : Hp} {Q : VK} (g : Nat → List Int) (hn : n ≤ sizeLine)
    (he : ∀ i H', i < n → Same H H' → ∀ N : V → Hp → Prop, (∀ c H'', Same H' H'' → H' c = none → H'' c = some (.lst ((g i).map V.int)) → N (.ref c) H'') → te (some (.int (lo + i)) :: σ) H' N)
    (hq : ∀ D bs H', H D = none → Same H H' → H' D = some (.lst (bs.map V.ref)) → RowsAt K H' bs ((List.range n).map g) → Q (.ref D) H') : compAt te σ Q (Itr lo n) H := by
  intro D hD
  refine ⟨fun i m ys H2 => m = n - i ∧ i ≤ n ∧ Same H H2 ∧ H2 D = some (.lst ys) ∧ ∃ bs : List Addr, ys = bs.map V.ref ∧ bs.length = i ∧ ∀ (j : Nat) (b : Addr), bs[j]? = some b → b ≠ D ∧ H2 b = some (.lst ((g j).map V.int)), ⟨n, rfl, Nat.zero_le _, fun b o e => ?_, upd_same, [], rfl, rfl, fun j b e => by simp at e⟩, ?_⟩
  · rw [upd_ne (ne_of_none e hD)]
    exact e
  · rintro i m ys H2 ⟨rfl, hi, hs, hd, bs, rfl, hl, hb⟩
    by_cases hlt : i < n
    · refine .inr ⟨hlt, by rw [List.length_map]; omega, fun v H' => Same H2 H' ∧ ∃ c, v = .ref c ∧ c ≠ D ∧ H' c = some (.lst ((g i).map V.int)), fun v H' ⟨hs', c, ev, hcD, hc⟩ => ⟨hs' D _ hd, n - (i + 1), by omega, rfl, hlt, fun b o e => ?kp, upd_same, bs ++ [c], ?app, by rw [List.length_append, hl]; rfl, fun j b e1 => ?la⟩, fun y H' hy => ?stp⟩
      case app =>
        rw [ev, List.map_append]
        rfl
      case kp =>
        rw [upd_ne (ne_of_none e hD)]
        exact hs' b o (hs b o e)
      case la =>
        by_cases hj : j < bs.length
        · rw [List.getElem?_append_left hj] at e1
          obtain ⟨h1, h2⟩ := hb j b e1
          exact ⟨h1, by rw [upd_ne h1]; exact hs' b _ h2⟩
        · have hj' : j = bs.length := by
            have := (List.getElem?_eq_some_iff.mp e1).1
            rw [List.length_append, List.length_singleton] at this
            omega
          subst hj'
          rw [List.getElem?_append_right (Nat.le_refl _), Nat.sub_self] at e1
          obtain rfl : c = b := Option.some.inj e1
          exact ⟨hcD, by rw [upd_ne hcD, hl]; exact hc⟩
      case stp =>
        obtain ⟨e1, e2⟩ := hy
        subst e1 e2
        exact he i _ hlt hs _ fun c H'' s'' hc hc2 => ⟨s'', c, rfl, fun z => (by rw [z, hd] at hc; cases hc), hc2⟩
    · have e : i = n := by omega
      subst e
      refine .inl ⟨Nat.le_refl _, hq D bs H2 hD hs hd ⟨by rw [hl, List.length_map, List.length_range], fun j b r e1 e2 => ?_⟩⟩
      rw [List.getElem?_map] at e2
      obtain ⟨j', hj', rfl⟩ := Option.map_eq_some_iff.mp e2
      obtain ⟨h1, h2⟩ := List.getElem?_eq_some_iff.mp hj'
      rw [List.getElem_range] at h2
      subst h2
      exact SqL.of (hb j b e1).2
end L2

set_option Elab.async false
set_option linter.all false
set_option maxRecDepth 100000
namespace L2
open PySem PyProof.Rows PySem.Spec
section
variable {X : Cx}
theorem op_ne_L0 (K : PySem.W.Frag) (hK : X.K = K) (hu : X.A.units < cLine) : OpR X (compareOp .NotEq) (fun x y H Q => ∃ (p b : Addr) (ys : List V), x = .ref p ∧ y = .ref b ∧ SqL K H p ys ∧ SqL K H b [] ∧ Q (.bl (!ys.isEmpty)) H) := by
  subst hK
  intro pins s σ H x y v u Q I rx ry h
  obtain ⟨p, b, ys, rfl, rfl, h1, h2, q⟩ := h
  cases rx
  cases ry
  obtain ⟨its, r, pl, _⟩ := I.list h1
  obtain ⟨its2, r2, pl2, _⟩ := I.list h2
  have l1 := r.length
  have l2 := r2.length
  cases ys with
  | nil =>
    have e1 : its = [] := List.length_eq_zero_iff.mp l1.symm
    have e2 : its2 = [] := List.length_eq_zero_iff.mp l2.symm
    subst e1 e2
    refine SeqAt.RcNeAt.lists (e := fun _ => true) pl.isList pl2.isList rfl hu (fun j g1 g2 => absurd g1 (by simp)) _ _ _ _ ?_
    exact ⟨.bl _, H, I, rfl, q⟩
  | cons y ys =>
    refine SeqAt.RcNeAt.lists_lengths pl.isList pl2.isList (by rw [List.size_toArray, List.size_toArray, bne_iff_ne]; simp only [List.length_cons, List.length_nil] at l1 l2; omega) hu _ _ _ _ ?_
    exact ⟨.bl _, H, I, rfl, q⟩
end
end L2

set_option Elab.async false
set_option linter.all false
set_option maxRecDepth 100000
set_option maxHeartbeats 4000000
namespace K30
open PySem L2
seal L2.PSs L2.PS L2.PE L2.PA L2.PT L2.PW L2.PI L2.PG L2.PGs L2.PO L2.PTy L2.PH L2.OpR L2.CallR L2.IxR L2.SlR L2.UnR L2.PSet
noncomputable def top (i : Nat) : Stmt := PySem.Challenge.pw_onceround_k30_determinants_of_products.main.body.getD i (.Pass ⟨0, 0, 0, 0⟩)
noncomputable abbrev s_further_times : Stmt := top 6
noncomputable abbrev s_inverse : Stmt := top 7
noncomputable abbrev s_lowered : Stmt := top 8
noncomputable abbrev s_first_other_than_nought : Stmt := top 9
noncomputable abbrev s_determinant_rest : Stmt := top 10
noncomputable abbrev s_greatest_of : Stmt := top 11
noncomputable abbrev s_determinant : Stmt := top 12
noncomputable abbrev s__law_cell_at : Stmt := top 14
noncomputable abbrev s__law_whole : Stmt := top 15
noncomputable abbrev s__law_number : Stmt := top 16
noncomputable abbrev s__law_product : Stmt := top 17
noncomputable abbrev s__law_pair : Stmt := top 18
noncomputable abbrev s_law : Stmt := top 19
theorem sc_further_times : FnScope ["place", "last", "times"] ["place", "last"] (defScope s_further_times) := ⟨rfl, rfl, rfl, by decide +kernel, rfl, by decide +kernel, by decide +kernel⟩
theorem sc_inverse : FnScope ["number", "prime", "last", "rest", "last_times", "times", "quotient", "next_rest", "more_times"] ["number", "prime"] (defScope s_inverse) := ⟨rfl, rfl, rfl, by decide +kernel, rfl, by decide +kernel, by decide +kernel⟩
theorem sc_lowered : FnScope ["row", "top", "back", "prime", "times"] ["row", "top", "back", "prime"] (defScope s_lowered) := ⟨rfl, rfl, rfl, by decide +kernel, rfl, by decide +kernel, by decide +kernel⟩
noncomputable def csc_lowered_0 : Scope := { kind := PySem.ScopeKind.function, names := [ (PySem.Str.ofString ".0", PySem.NameKind.local), (PySem.Str.ofString "number", PySem.NameKind.local), (PySem.Str.ofString "above", PySem.NameKind.local), (PySem.Str.ofString "times", PySem.NameKind.free)], isGenerator := false, isCoroutine := false, more := [] : PySem.Scope }
theorem cs_lowered_0 : CompSc2 ["row", "top", "back", "prime", "times"] ["number", "above", "row", "top", "back", "prime", "times"] (defScope s_lowered) csc_lowered_0 "number" "above" := ⟨rfl, by decide +kernel, by decide +kernel, rfl, rfl, by decide +kernel, rfl, rfl, rfl, by decide +kernel, rfl, by decide +kernel, by decide +kernel⟩
theorem sc_first_other_than_nought : FnScope ["numbers", "place", "number"] ["numbers"] (defScope s_first_other_than_nought) := ⟨rfl, rfl, rfl, by decide +kernel, rfl, by decide +kernel, by decide +kernel⟩
theorem sc_determinant_rest : FnScope ["square", "prime", "rows", "rest", "place", "top", "back"] ["square", "prime"] (defScope s_determinant_rest) := ⟨rfl, rfl, rfl, by decide +kernel, rfl, by decide +kernel, by decide +kernel⟩
noncomputable def csc_determinant_rest_0 : Scope := { kind := PySem.ScopeKind.function, names := [ (PySem.Str.ofString ".0", PySem.NameKind.local), (PySem.Str.ofString "row", PySem.NameKind.local), (PySem.Str.ofString "prime", PySem.NameKind.free)], isGenerator := false, isCoroutine := false, more := [] : PySem.Scope }
theorem cs_determinant_rest_0 : CompSc ["square", "prime", "rows", "rest", "place", "top", "back"] ["row", "square", "prime", "rows", "rest", "place", "top", "back"] (defScope s_determinant_rest) csc_determinant_rest_0 "row" := ⟨rfl, by decide +kernel, by decide +kernel, rfl, by decide +kernel, rfl, rfl, by decide +kernel, rfl, by decide +kernel, by decide +kernel⟩
noncomputable def csc_determinant_rest_1 : Scope := { kind := PySem.ScopeKind.function, names := [ (PySem.Str.ofString ".0", PySem.NameKind.local), (PySem.Str.ofString "number", PySem.NameKind.local), (PySem.Str.ofString "prime", PySem.NameKind.free)], isGenerator := false, isCoroutine := false, more := [] : PySem.Scope }
theorem cs_determinant_rest_1 : CompSc ["square", "prime", "rows", "rest", "place", "top", "back"] ["number", "square", "prime", "rows", "rest", "place", "top", "back"] (defScope s_determinant_rest) csc_determinant_rest_1 "number" := ⟨rfl, by decide +kernel, by decide +kernel, rfl, by decide +kernel, rfl, rfl, by decide +kernel, rfl, by decide +kernel, by decide +kernel⟩
noncomputable def csc_determinant_rest_2 : Scope := { kind := PySem.ScopeKind.function, names := [ (PySem.Str.ofString ".0", PySem.NameKind.local), (PySem.Str.ofString "row", PySem.NameKind.local), (PySem.Str.ofString "lowered", PySem.NameKind.globalImplicit), (PySem.Str.ofString "back", PySem.NameKind.free), (PySem.Str.ofString "prime", PySem.NameKind.free), (PySem.Str.ofString "top", PySem.NameKind.free)], isGenerator := false, isCoroutine := false, more := [] : PySem.Scope }
theorem cs_determinant_rest_2 : CompSc ["square", "prime", "rows", "rest", "place", "top", "back"] ["row", "square", "prime", "rows", "rest", "place", "top", "back"] (defScope s_determinant_rest) csc_determinant_rest_2 "row" := ⟨rfl, by decide +kernel, by decide +kernel, rfl, by decide +kernel, rfl, rfl, by decide +kernel, rfl, by decide +kernel, by decide +kernel⟩
theorem sc_greatest_of : FnScope ["square", "bound", "row"] ["square"] (defScope s_greatest_of) := ⟨rfl, rfl, rfl, by decide +kernel, rfl, by decide +kernel, by decide +kernel⟩
noncomputable def csc_greatest_of_0 : Scope := { kind := PySem.ScopeKind.function, names := [ (PySem.Str.ofString ".0", PySem.NameKind.local), (PySem.Str.ofString "number", PySem.NameKind.local), (PySem.Str.ofString "abs", PySem.NameKind.globalImplicit)], isGenerator := false, isCoroutine := false, more := [] : PySem.Scope }
theorem cs_greatest_of_0 : CompSc ["square", "bound", "row"] ["number", "square", "bound", "row"] (defScope s_greatest_of) csc_greatest_of_0 "number" := ⟨rfl, by decide +kernel, by decide +kernel, rfl, by decide +kernel, rfl, rfl, by decide +kernel, rfl, by decide +kernel, by decide +kernel⟩
theorem sc_determinant : FnScope ["square", "bound", "result", "modulus", "place", "times", "prime", "lacking"] ["square"] (defScope s_determinant) := ⟨rfl, rfl, rfl, by decide +kernel, rfl, by decide +kernel, by decide +kernel⟩
theorem sc__law_cell_at : FnScope ["script", "k"] ["script", "k"] (defScope s__law_cell_at) := ⟨rfl, rfl, rfl, by decide +kernel, rfl, by decide +kernel, by decide +kernel⟩
theorem sc__law_whole : FnScope ["found", "due"] ["found", "due"] (defScope s__law_whole) := ⟨rfl, rfl, rfl, by decide +kernel, rfl, by decide +kernel, by decide +kernel⟩
theorem sc__law_number : FnScope ["script", "k", "cell"] ["script", "k"] (defScope s__law_number) := ⟨rfl, rfl, rfl, by decide +kernel, rfl, by decide +kernel, by decide +kernel⟩
theorem sc__law_product : FnScope ["one", "other", "many", "made", "i"] ["one", "other"] (defScope s__law_product) := ⟨rfl, rfl, rfl, by decide +kernel, rfl, by decide +kernel, by decide +kernel⟩
noncomputable def csc__law_product_0 : Scope := { kind := PySem.ScopeKind.function, names := [ (PySem.Str.ofString ".0", PySem.NameKind.local), (PySem.Str.ofString "j", PySem.NameKind.cell), (PySem.Str.ofString "sum", PySem.NameKind.globalImplicit), (PySem.Str.ofString "range", PySem.NameKind.globalImplicit), (PySem.Str.ofString "i", PySem.NameKind.free), (PySem.Str.ofString "many", PySem.NameKind.free), (PySem.Str.ofString "one", PySem.NameKind.free), (PySem.Str.ofString "other", PySem.NameKind.free)], isGenerator := false, isCoroutine := false, more := [] : PySem.Scope }
theorem cs__law_product_0 : CompScC ["one", "other", "many", "made", "i"] ["j", "one", "other", "many", "made", "i"] (defScope s__law_product) csc__law_product_0 "j" := ⟨rfl, by decide +kernel, by decide +kernel, rfl, by decide +kernel, rfl, rfl, by decide +kernel, rfl, by decide +kernel, by decide +kernel⟩
noncomputable def csc__law_product_1 : Scope := { kind := PySem.ScopeKind.function, names := [ (PySem.Str.ofString ".0", PySem.NameKind.local), (PySem.Str.ofString "k", PySem.NameKind.local), (PySem.Str.ofString "i", PySem.NameKind.free), (PySem.Str.ofString "j", PySem.NameKind.free), (PySem.Str.ofString "one", PySem.NameKind.free), (PySem.Str.ofString "other", PySem.NameKind.free)], isGenerator := false, isCoroutine := false, more := [] : PySem.Scope }
theorem cs__law_product_1 {env : Env} : CompSc ["j", "one", "other", "many", "made", "i"] ["k", "j", "one", "other", "many", "made", "i"] (relabel csc__law_product_0 env) csc__law_product_1 "k" := ⟨rfl, by decide +kernel, by decide +kernel, rfl, relabel_ok (by decide +kernel) env, rfl, rfl, by decide +kernel, rfl, by decide +kernel, by decide +kernel⟩
theorem sc__law_pair : FnScope ["script", "many", "one", "other", "i"] ["script", "many"] (defScope s__law_pair) := ⟨rfl, rfl, rfl, by decide +kernel, rfl, by decide +kernel, by decide +kernel⟩
noncomputable def csc__law_pair_0 : Scope := { kind := PySem.ScopeKind.function, names := [ (PySem.Str.ofString ".0", PySem.NameKind.local), (PySem.Str.ofString "j", PySem.NameKind.local), (PySem.Str.ofString "_law_number", PySem.NameKind.globalImplicit), (PySem.Str.ofString "int", PySem.NameKind.globalImplicit), (PySem.Str.ofString "i", PySem.NameKind.free), (PySem.Str.ofString "script", PySem.NameKind.free)], isGenerator := false, isCoroutine := false, more := [] : PySem.Scope }
theorem cs__law_pair_0 : CompSc ["script", "many", "one", "other", "i"] ["j", "script", "many", "one", "other", "i"] (defScope s__law_pair) csc__law_pair_0 "j" := ⟨rfl, by decide +kernel, by decide +kernel, rfl, by decide +kernel, rfl, rfl, by decide +kernel, rfl, by decide +kernel, by decide +kernel⟩
noncomputable def csc__law_pair_1 : Scope := { kind := PySem.ScopeKind.function, names := [ (PySem.Str.ofString ".0", PySem.NameKind.local), (PySem.Str.ofString "j", PySem.NameKind.local), (PySem.Str.ofString "_law_number", PySem.NameKind.globalImplicit), (PySem.Str.ofString "i", PySem.NameKind.free), (PySem.Str.ofString "script", PySem.NameKind.free)], isGenerator := false, isCoroutine := false, more := [] : PySem.Scope }
theorem cs__law_pair_1 : CompSc ["script", "many", "one", "other", "i"] ["j", "script", "many", "one", "other", "i"] (defScope s__law_pair) csc__law_pair_1 "j" := ⟨rfl, by decide +kernel, by decide +kernel, rfl, by decide +kernel, rfl, rfl, by decide +kernel, rfl, by decide +kernel, by decide +kernel⟩
theorem sc_law : FnScope ["script", "many", "one", "other", "square", "due", "k", "across", "rows", "at", "row"] ["script"] (defScope s_law) := ⟨rfl, rfl, rfl, by decide +kernel, rfl, by decide +kernel, by decide +kernel⟩
noncomputable def csc_law_0 : Scope := { kind := PySem.ScopeKind.function, names := [ (PySem.Str.ofString ".0", PySem.NameKind.local), (PySem.Str.ofString "j", PySem.NameKind.cell), (PySem.Str.ofString "range", PySem.NameKind.globalImplicit), (PySem.Str.ofString "many", PySem.NameKind.free), (PySem.Str.ofString "square", PySem.NameKind.free)], isGenerator := false, isCoroutine := false, more := [] : PySem.Scope }
theorem cs_law_0 : CompScC ["script", "many", "one", "other", "square", "due", "k", "across", "rows", "at", "row"] ["j", "script", "many", "one", "other", "square", "due", "k", "across", "rows", "at", "row"] (defScope s_law) csc_law_0 "j" := ⟨rfl, by decide +kernel, by decide +kernel, rfl, by decide +kernel, rfl, rfl, by decide +kernel, rfl, by decide +kernel, by decide +kernel⟩
noncomputable def csc_law_1 : Scope := { kind := PySem.ScopeKind.function, names := [ (PySem.Str.ofString ".0", PySem.NameKind.local), (PySem.Str.ofString "i", PySem.NameKind.local), (PySem.Str.ofString "j", PySem.NameKind.free), (PySem.Str.ofString "square", PySem.NameKind.free)], isGenerator := false, isCoroutine := false, more := [] : PySem.Scope }
theorem cs_law_1 {env : Env} : CompSc ["j", "script", "many", "one", "other", "square", "due", "k", "across", "rows", "at", "row"] ["i", "j", "script", "many", "one", "other", "square", "due", "k", "across", "rows", "at", "row"] (relabel csc_law_0 env) csc_law_1 "i" := ⟨rfl, by decide +kernel, by decide +kernel, rfl, relabel_ok (by decide +kernel) env, rfl, rfl, by decide +kernel, rfl, by decide +kernel, by decide +kernel⟩
set_option genInjectivity false in
structure Adr where
  KNOWN_TIMES : Addr
  u_FIRST_PRIME : Value
  u_STEP : Value

set_option genInjectivity false in
structure Txt (K : PySem.W.Frag) (mg : Str → Option Value) (ad : Adr) : Prop where
  b_abs : mg "abs" = none
  b_bool : mg "bool" = none
  b_enumerate : mg "enumerate" = none
  b_int : mg "int" = none
  b_isinstance : mg "isinstance" = none
  b_len : mg "len" = none
  b_list : mg "list" = none
  b_range : mg "range" = none
  b_sum : mg "sum" = none
  b_zip : mg "zip" = none
  m_KNOWN_TIMES : mg "KNOWN_TIMES" = some (.ref ad.KNOWN_TIMES)
  g_FIRST_PRIME : mg "FIRST_PRIME" = some ad.u_FIRST_PRIME
  r_FIRST_PRIME : RelV (.int 2305843009213693951) ad.u_FIRST_PRIME
  g_STEP : mg "STEP" = some ad.u_STEP
  r_STEP : RelV (.int 6277101735386680763835789423207666416102355444464034512896) ad.u_STEP
  kt : tupIs K ad.KNOWN_TIMES [133, 211, 598, 652, 721, 850, 1282, 1417, 1582, 1681, 1726, 1837, 1885, 2017, 2377, 2383, 2452, 2476, 2530, 2611, 2662, 2698, 2773, 2878, 2917, 2980, 2998, 3082, 3238, 3250, 3343, 3421, 3427, 3670, 3817, 4162, 4252, 4447, 4468, 4621, 4630, 4747, 4867, 4891, 4915, 5128, 5143, 5236, 5401, 5587, 5650, 5803, 5833, 5923, 5986, 6202, 6235, 6286, 6496, 6526, 6736, 7093, 7561, 7696, 7831, 7855, 7882, 7927, 8143, 8248] = true

section
variable {P : Program} {w : World} {K : PySem.W.Frag} {mg : Str → Option Value} {base : Heap} {ad : Adr}

theorem same_upd {H : Hp} {D : Addr} {o : HO} (h : H D = none) : Same H (upd H D o) := fun b u e => by rw [upd_ne (ne_of_none e h)]; exact e
theorem itP {c A B : Prop} [Decidable c] (hc : c) (h : A) : if c then A else B := by rw [if_pos hc]; exact h
theorem itN {c A B : Prop} [Decidable c] (hc : ¬ c) (h : B) : if c then A else B := by rw [if_neg hc]; exact h
theorem cut_from {xs : List V} {k : Nat} (h : k ≤ xs.length) : cutV xs (some (k : Int)) none = xs.drop k := by
  unfold cutV
  rw [HT.sIx_none, show HT.sIx xs.length 0 (some (k : Int)) = min k xs.length from HT.sIx_nat _ _ k, Nat.min_eq_left h, List.take_of_length_le (by rw [List.length_drop]; exact Nat.le_refl _)]
theorem cut_to {xs : List V} {k : Nat} (h : k ≤ xs.length) : cutV xs none (some (k : Int)) = xs.take k := by
  unfold cutV
  rw [HT.sIx_none, List.drop_zero, Nat.sub_zero, HT.sIx_nat, Nat.min_eq_left h]
theorem bg_le {i : Int} {n : Nat} (h : i.natAbs ≤ n) (hn : n < 2 ^ 8000) : Bg i := Nat.lt_of_le_of_lt h hn
theorem lt8000 {n k : Nat} (h : n < 2 ^ k) (hk : k ≤ 8000) : n < 2 ^ 8000 := Nat.lt_of_lt_of_le h (Nat.pow_le_pow_right (by decide) hk)
theorem int_at0 {ns : List Int} {j : Nat} (h : j < ns.length) : (ns.map V.int)[j]? = some (.int (ns.getD j 0)) := by
  rw [List.getElem?_map, List.getD_eq_getElem?_getD, List.getElem?_eq_getElem h]
  rfl

theorem SqL.keepTwo {K : PySem.W.Frag} {H G : Hp} {a : Addr} {xs : List V} (h : SqL K H a xs) (k : ∀ o, H a = some o → G a = some o) : SqL K G a xs := by
  rcases h with (h | ⟨q, h⟩) | h
  · exact .inl (.inl (k _ h))
  · exact .inl (.inr ⟨q, k _ h⟩)
  · exact .inr h

noncomputable def spInvs : Sp := fun vs H Q _ => ∃ (num : Int) (pr : Nat), vs = [.int num, .int (pr : Nat)] ∧ Dt.PrimeN pr ∧ pr < 2 ^ 1000 ∧ num % (pr : Int) ≠ 0 ∧ ∀ inv : Int, Dt.Cg pr (inv * num) 1 → 0 ≤ inv ∧ inv < pr → Q (.int inv) H
theorem ok_inverse {f : Addr} {fd : FuncData} (F : Fun K "inverse" "inverse" s_inverse f fd) (tt : Txt K mg ad) : FnOk P w K mg base (CX1 P w) 1 f fd ["number", "prime"] spInvs := by
  refine F.okN sc_inverse (fun vs H Q E h => ?_) (fun cdv A outer s H vs Q E hr h => ?_)
  · obtain ⟨num, pr, rfl, _⟩ := h
    rfl
  · obtain ⟨num, pr, rfl, hp, hpl, h0, q⟩ := h
    have hp1 := hp.1
    have hpos : (0 : Int) < (pr : Int) := by omega
    have h8 := lt8000 hpl (by decide)
    obtain ⟨r, hr'⟩ : ∃ r : Nat, num % (pr : Int) = r := ⟨(num % pr).toNat, by have := Int.emod_nonneg num (show (pr : Int) ≠ 0 by omega); omega⟩
    have hrl : r < pr := by have := Int.emod_lt_of_pos num hpos; omega
    refine ⟨_, (pss_cons (ps_set (i := 2) sc_inverse.nd rfl (Or.inl rfl) (pv 1))
      (pss_cons (ps_set (i := 3) sc_inverse.nd rfl (Or.inl rfl) (pe_op op_mod (pv 0) (pv 1)))
      (pss_cons (ps_set (i := 4) sc_inverse.nd rfl (Or.inl rfl) pe_int)
      (pss_cons (ps_set (i := 5) sc_inverse.nd rfl (Or.inl rfl) pe_int)
      (pss_cons (ps_while PassesOwn.never (pt_cmpR op_ne_I (pv 3) pe_int (nomark _)) (pss_cons (ps_set (i := 6) sc_inverse.nd rfl (Or.inl rfl) (pe_op op_fdivB (pv 2) (pv 3)))
      (pss_cons (ps_set (i := 7) sc_inverse.nd rfl (Or.inl rfl) (pe_op op_sub (pv 2) (pe_op op_mulB (pv 6) (pv 3))))
      (pss_cons (ps_set (i := 2) sc_inverse.nd rfl (Or.inl rfl) (pv 3))
      (pss_cons (ps_set (i := 3) sc_inverse.nd rfl (Or.inl rfl) (pv 7))
      (pss_cons (ps_set (i := 8) sc_inverse.nd rfl (Or.inl rfl) (pe_op op_sub (pv 4) (pe_op op_mulB (pv 6) (pv 5))))
      (pss_cons (ps_set (i := 4) sc_inverse.nd rfl (Or.inl rfl) (pv 5))
      (pss_one (ps_set (i := 5) sc_inverse.nd rfl (Or.inl rfl) (pv 8))))))))))
      (pss_one (ps_ret (pe_op op_mod (pv 5) (pv 1))))))))), ?_⟩
    refine ⟨_, rfl, ?_⟩
    refine ⟨_, rfl, _, rfl, _, _, rfl, rfl, hpos, ?_⟩
    refine ⟨fun m σ H2 => H2 = H ∧ ∃ (last rest : Nat) (lt t : Int) (v6 v7 v8 : Option V), m = rest ∧ Dt.Euc pr num last rest lt t ∧ (last ≤ pr ∧ rest ≤ pr) ∧ σ = [some (.int num), some (.int (pr : Nat)), some (.int (last : Nat)), some (.int (rest : Nat)), some (.int lt), some (.int t), v6, v7, v8],
      ⟨_, rfl, pr, r, 0, 1, none, none, none, rfl, Dt.Euc.init hp hr' (by omega), ⟨Nat.le_refl _, by omega⟩, by rw [← hr']; rfl⟩, ?_⟩
    rintro m σ H2 ⟨rfl, last, rest, lt, t, v6, v7, v8, rfl, he, ⟨hl, hrp⟩, rfl⟩
    have hpo := he.pos
    obtain ⟨ht, hlt⟩ := he.tle
    refine ⟨_, rfl, _, rfl, _, rfl, _, rfl, ?_⟩
    by_cases h1 : m = 1
    · refine itN (by rw [decide_eq_true (by omega)]; exact Bool.false_ne_true) ?_
      exact ⟨_, rfl, _, rfl, _, _, rfl, rfl, hpos, q _ (he.fin h1) ⟨Int.emod_nonneg _ (by omega), Int.emod_lt_of_pos _ hpos⟩⟩
    · refine itP (by rw [decide_eq_false (by omega)]; rfl) ?_
      refine ⟨_, fun σ' H' z => z, ?_⟩
      have hq1 := Nat.div_le_self last m
      have bm : Bg ((m : Nat) : Int) := bg_le (n := pr) (by rw [Int.natAbs_natCast]; exact hrp) h8
      have bq : Bg ((last / m : Nat) : Int) := bg_le (n := pr) (by rw [Int.natAbs_natCast]; omega) h8
      refine ⟨_, rfl, _, rfl, _, _, rfl, rfl, ⟨by show (0 : Int) < (m : Int); omega, bm⟩, ?_⟩
      refine ⟨_, rfl, _, rfl, _, rfl, _, _, rfl, rfl, ⟨bq, bm⟩, _, _, rfl, rfl, ?_⟩
      have e1 : ((last : Nat) : Int) - ((last / m : Nat) : Int) * ((m : Nat) : Int) = ((last % m : Nat) : Int) := by
        have h := congrArg (fun n : Nat => (n : Int)) (Nat.div_add_mod last m)
        simp only [Int.natCast_add, Int.natCast_mul] at h
        rw [Int.mul_comm] at h
        omega
      refine ⟨_, rfl, ?_⟩
      refine ⟨_, rfl, ?_⟩
      refine ⟨_, rfl, _, rfl, _, rfl, _, _, rfl, rfl, ⟨bq, bg_le ht h8⟩, _, _, rfl, rfl, ?_⟩
      refine ⟨_, rfl, ?_⟩
      refine ⟨_, rfl, ?_⟩
      have hml := Nat.mod_lt last (show m > 0 by omega)
      exact ⟨last % m, hml, rfl, m, last % m, t, _, _, _, _, rfl, he.step h1, ⟨hrp, by omega⟩, by rw [← e1]; rfl⟩

noncomputable def low (back : Int) (pr : Nat) (top row : List Int) : List Int := List.zipWith (fun x y => x - row.getD 0 0 * back % (pr : Int) * y) (row.drop 1) (top.drop 1)
set_option genInjectivity false in
structure LowOk (back : Int) (pr n : Nat) (top row : List Int) : Prop where
  l1 : row.length = n + 1
  l2 : top.length = n + 1
  sz : n ≤ 1000
  pos : 0 < pr
  ps : pr < 2 ^ 1000
  b0 : Bg (row.getD 0 0)
  bk : back.natAbs ≤ pr
  tp : ∀ y ∈ top, y.natAbs ≤ pr
noncomputable def spLow (K : PySem.W.Frag) : Sp := fun vs H Q _ => ∃ (a b : Addr) (back : Int) (pr n : Nat) (row top : List Int), vs = [.ref a, .ref b, .int back, .int (pr : Nat)] ∧ SqL K H a (row.map V.int) ∧ SqL K H b (top.map V.int) ∧ LowOk back pr n top row ∧ ∀ D H', H D = none → Same H H' → H' D = some (.lst ((low back pr top row).map V.int)) → Q (.ref D) H'
theorem ok_lowered {f : Addr} {fd : FuncData} (F : Fun K "lowered" "lowered" s_lowered f fd) (tt : Txt K mg ad) : FnOk P w K mg base (CX1 P w) 1 f fd ["row", "top", "back", "prime"] (spLow K) := by
  refine F.okN sc_lowered (fun vs H Q E h => ?_) (fun cdv A outer s H vs Q E hr h => ?_)
  · obtain ⟨a, b, back, pr, n, row, top, rfl, _⟩ := h
    rfl
  · obtain ⟨a, b, back, pr, n, row, top, rfl, hA, hB, ok, q⟩ := h
    have hs : sizeLine = 16777216 := sizeLine_eq
    obtain ⟨l1, l2, sz, pos, ps, b0, bk, tp⟩ := ok
    have hpos : (0 : Int) < (pr : Int) := by omega
    have h8 := lt8000 ps (by decide)
    have t0 := Int.emod_nonneg (row.getD 0 0 * back) (show (pr : Int) ≠ 0 by omega)
    have t1 := Int.emod_lt_of_pos (row.getD 0 0 * back) hpos
    refine ⟨_, (pss_cons (ps_set (i := 4) sc_lowered.nd rfl (Or.inr rfl) (pe_op op_mod (pe_op op_mulB (pe_ix ix_list (pv 0) pe_int (fun _ _ => rfl)) (pv 2)) (pv 3)))
      (pss_cons (ps_if (pt_cmpR op_eq_I (pv 4) pe_int (nomark _)) (pss_one (ps_ret (pe_slice sl_list (pv 0) (po_some pe_int) po_none))) pss_nil)
      (pss_one (ps_ret (pe_comp2 cs_lowered_0 rfl (pi_zip (by rfl) tt.b_zip (pa_cons (pe_slice sl_list (pv 0) (po_some pe_int) po_none) (pa_cons (pe_slice sl_list (pv 1) (po_some pe_int) po_none) pa_nil))) (fun cl C s' H' fp => (pe_op op_sub (pv 0) (pe_op op_mulB (pv 6) (pv 1))))))))), ?_⟩
    refine ⟨_, rfl, a, _, _, _, rfl, rfl, hA, atI_nat (j := 0) (int_at0 (by omega)), _, rfl, _, _, rfl, rfl, ⟨b0, bg_le bk h8⟩, _, rfl, _, _, rfl, rfl, hpos, ?_⟩
    refine ⟨_, rfl, _, rfl, _, rfl, _, rfl, ?_⟩
    have cA : cutV (row.map V.int) (some (1 : Int)) none = (row.drop 1).map V.int := by rw [List.map_drop]; exact cut_from (k := 1) (by rw [List.length_map]; omega)
    have cB : cutV (top.map V.int) (some (1 : Int)) none = (top.drop 1).map V.int := by rw [List.map_drop]; exact cut_from (k := 1) (by rw [List.length_map]; omega)
    by_cases hz : row.getD 0 0 * back % (pr : Int) = 0
    · refine itP (decide_eq_true hz) ?_
      refine ⟨_, rfl, _, rfl, a, _, rfl, hA, fun p hp => ?_⟩
      rw [cA]
      refine q p _ hp (same_upd hp) ?_
      rw [upd_same]
      congr 3
      unfold low
      rw [hz]
      refine List.ext_getElem? fun i => ?_
      rw [List.getElem?_zipWith]
      by_cases hi : i < n
      · rw [List.getElem?_eq_getElem (l := row.drop 1) (by rw [List.length_drop]; omega), List.getElem?_eq_getElem (l := top.drop 1) (by rw [List.length_drop]; omega)]
        show some _ = some _
        rw [Int.zero_mul, Int.sub_zero]
      · rw [List.getElem?_eq_none (by rw [List.length_drop]; omega)]
    · refine itN (fun z => hz (of_decide_eq_true z)) ?_
      refine ⟨_, rfl, _, rfl, a, _, rfl, hA, fun p1 hp1 => ?_⟩
      rw [cA]
      have t1' := same_upd (o := .lst ((row.drop 1).map V.int)) hp1
      refine ⟨_, rfl, _, rfl, b, _, rfl, t1'.seq hB, fun p2 hp2 => ?_⟩
      rw [cB]
      have t2' := same_upd (o := .lst ((top.drop 1).map V.int)) hp2
      refine ⟨p1, p2, rfl, ⟨_, SqL.of (t2' p1 _ upd_same)⟩, ⟨_, SqL.of upd_same⟩, ?_⟩
      refine comp_zip (fun x y => match x, y with | .int i, .int j => .int (i - row.getD 0 0 * back % (pr : Int) * j) | _, _ => .non) (SqL.of (t2' p1 _ upd_same)) (SqL.of upd_same) (by rw [List.length_map, List.length_map, List.length_drop, List.length_drop, l1, l2]) (by rw [List.length_map, List.length_drop]; omega) (fun i x y H' hx hy s' N hN => ?_) fun D H' hD s' hd => ?_
      · rw [List.getElem?_map] at hx hy
        obtain ⟨i1, hi1, rfl⟩ := Option.map_eq_some_iff.mp hx
        obtain ⟨j1, hj1, rfl⟩ := Option.map_eq_some_iff.mp hy
        have hj2 := tp j1 (List.mem_of_mem_drop (List.mem_of_getElem? hj1))
        exact ⟨_, rfl, _, rfl, _, rfl, _, _, rfl, rfl, ⟨bg_le (n := pr) (by omega) h8, bg_le hj2 h8⟩, _, _, rfl, rfl, hN H' (Same.refl _)⟩
      · have hD0 : H D = none := by
          cases e : H D with
          | none => rfl
          | some o => have := (t1'.trans t2') D o e; rw [hD] at this; cases this
        refine q D H' hD0 (t1'.trans (t2'.trans s')) ?_
        rw [hd]
        congr 3
        unfold low
        rw [List.zipWith_map, List.map_zipWith]

noncomputable def spFirst (K : PySem.W.Frag) : Sp := fun vs H Q _ => ∃ (a : Addr) (ns : List Int), vs = [.ref a] ∧ SqL K H a (ns.map V.int) ∧ (∀ H', Same H H' → (∀ x ∈ ns, x = 0) → Q .non H') ∧ ∀ (p : Nat) (H' : Hp), Same H H' → p < ns.length → ns.getD p 0 ≠ 0 → Q (.int (p : Nat)) H'
theorem ok_first_other_than_nought {f : Addr} {fd : FuncData} (F : Fun K "first_other_than_nought" "first_other_than_nought" s_first_other_than_nought f fd) (tt : Txt K mg ad) : FnOk P w K mg base (CX1 P w) 1 f fd ["numbers"] (spFirst K) := by
  refine F.okN sc_first_other_than_nought (fun vs H Q E h => ?_) (fun cdv A outer s H vs Q E hr h => ?_)
  · obtain ⟨a, ns, rfl, _⟩ := h
    rfl
  · obtain ⟨a, ns, rfl, hA, q0, q1⟩ := h
    refine ⟨_, (pss_cons (ps_for PassesOwn.never rfl (pi_enum (by rfl) tt.b_enumerate (pa_cons (pv 0) pa_nil)) (pg_tup rfl (pgs_cons (pg_name (i := 1) sc_first_other_than_nought.nd rfl (Or.inl rfl)) (pgs_cons (pg_name (i := 2) sc_first_other_than_nought.nd rfl (Or.inl rfl)) pgs_nil))) (pss_one (ps_if (pt_cmpR op_ne_I (pv 2) pe_int (nomark _)) (pss_one (ps_ret (pv 1))) pss_nil)))
      (pss_one (ps_ret pe_non))), ?_⟩
    refine ⟨_, rfl, a, rfl, ⟨_, hA⟩, ?_⟩
    refine for_enum (K := K) (a := a) (xs := ns.map V.int) (fun i σ H2 => Same H H2 ∧ (∀ j, j < i → ns.getD j 0 = 0) ∧ ∃ v1 v2 : Option V, σ = [some (.ref a), v1, v2]) ⟨Same.refl _, fun j hj => absurd hj (Nat.not_lt_zero j), none, none, rfl⟩ (fun i σ H2 _ h => h.1.seq hA) ?_ ?_
    · rintro i x p σ H2 hx hp ⟨s2, hz, v1, v2, rfl⟩
      have hi : i < ns.length := by have := (List.getElem?_eq_some_iff.mp hx).1; rwa [List.length_map] at this
      rw [int_at0 hi] at hx
      obtain rfl := Option.some.inj hx
      have t2 := same_upd (o := .tup [.int (i : Nat), .int (ns.getD i 0)]) hp
      refine ⟨p, _, rfl, SqT.of upd_same, rfl, _, _, rfl, _, _, rfl, rfl, ?_⟩
      refine ⟨_, rfl, _, rfl, _, rfl, _, rfl, ?_⟩
      by_cases h0 : ns.getD i 0 = 0
      · refine itN (by rw [decide_eq_true h0]; exact Bool.false_ne_true) ?_
        exact ⟨s2.trans t2, fun j hj => by
          rcases Nat.lt_or_ge j i with z | z
          · exact hz j z
          · rw [show j = i by omega]; exact h0, _, _, rfl⟩
      · refine itP (by rw [decide_eq_false h0]; rfl) ?_
        exact ⟨_, rfl, q1 i _ (s2.trans t2) hi h0⟩
    · rintro σ H2 ⟨s2, hz, v1, v2, rfl⟩
      rw [List.length_map] at hz
      exact q0 H2 s2 fun x hx => by
        obtain ⟨j, hj⟩ := List.getElem?_of_mem hx
        have hjl := (List.getElem?_eq_some_iff.mp hj).1
        have := hz j hjl
        rwa [List.getD_eq_getElem?_getD, hj] at this

set_option genInjectivity false in
structure RestOk (M : List (List Int)) (n pr E : Nat) : Prop where
  len : M.length = n
  row : ∀ r ∈ M, r.length = n
  sz : n ≤ 100
  pm : Dt.PrimeN pr
  ps : pr < 2 ^ 1000
  be : ∀ r ∈ M, ∀ x ∈ r, x.natAbs ≤ E
  bd : E + n * (pr * pr) < 2 ^ 8000
noncomputable def spRest (K : PySem.W.Frag) : Sp := fun vs H Q _ => ∃ (a : Addr) (as : List Addr) (M : List (List Int)) (n pr E : Nat), vs = [.ref a, .int (pr : Nat)] ∧ SqL K H a (as.map V.ref) ∧ RowsAt K H as M ∧ RestOk M n pr E ∧ ∀ (r : Int) (H' : Hp), Same H H' → 0 ≤ r ∧ r < pr → Dt.Cg pr r (Dt.det n (Dt.ent M)) → Q (.int r) H'
theorem getD_mem {ns : List Int} {j : Nat} (h : j < ns.length) : ns.getD j 0 ∈ ns := by
  rw [List.getD_eq_getElem?_getD, List.getElem?_eq_getElem h]
  exact List.getElem_mem h
theorem low_len {back : Int} {pr n : Nat} {top row : List Int} (h : LowOk back pr n top row) : (low back pr top row).length = n := by
  unfold low
  have := h.l1
  have := h.l2
  rw [List.length_zipWith, List.length_drop, List.length_drop]
  omega
theorem low_get {back : Int} {pr n : Nat} {top row : List Int} (h : LowOk back pr n top row) {k : Nat} (hk : k < n) : (low back pr top row).getD k 0 = row.getD (k + 1) 0 - row.getD 0 0 * back % (pr : Int) * top.getD (k + 1) 0 := by
  have h1 := h.l1
  have h2 := h.l2
  unfold low
  rw [List.getD_eq_getElem?_getD, List.getElem?_zipWith, List.getElem?_drop, List.getElem?_drop, Nat.add_comm 1 k, List.getElem?_eq_getElem (show k + 1 < row.length by omega), List.getElem?_eq_getElem (show k + 1 < top.length by omega), List.getD_eq_getElem?_getD (l := row) (i := k + 1), List.getElem?_eq_getElem (show k + 1 < row.length by omega), List.getD_eq_getElem?_getD (l := top), List.getElem?_eq_getElem (show k + 1 < top.length by omega)]
  rfl
theorem low_abs {back : Int} {pr n E : Nat} {top row : List Int} (h : LowOk back pr n top row) (hE : ∀ x ∈ row, x.natAbs ≤ E) : ∀ x ∈ low back pr top row, x.natAbs ≤ E + pr * pr := fun x hx => by
  obtain ⟨k, hk⟩ := List.getElem?_of_mem hx
  have hkl := (List.getElem?_eq_some_iff.mp hk).1
  rw [low_len h] at hkl
  have h1 := h.l1
  have h2 := h.l2
  have e := low_get h hkl
  rw [List.getD_eq_getElem?_getD, hk] at e
  have e : x = _ := e
  have b1 := hE _ (getD_mem (ns := row) (j := k + 1) (by omega))
  have b2 := h.tp _ (getD_mem (ns := top) (j := k + 1) (by omega))
  have hp := h.pos
  have t0 := Int.emod_nonneg (row.getD 0 0 * back) (show (pr : Int) ≠ 0 by omega)
  have t1 := Int.emod_lt_of_pos (row.getD 0 0 * back) (show (0 : Int) < pr by omega)
  have b3 := Int.natAbs_sub_le (row.getD (k + 1) 0) (row.getD 0 0 * back % (pr : Int) * top.getD (k + 1) 0)
  rw [Int.natAbs_mul] at b3
  have b4 : (row.getD 0 0 * back % (pr : Int)).natAbs * (top.getD (k + 1) 0).natAbs ≤ pr * pr := Nat.mul_le_mul (by omega) b2
  rw [e]
  omega
theorem ok_determinant_rest {f : Addr} {fd : FuncData} (F : Fun K "determinant_rest" "determinant_rest" s_determinant_rest f fd) (tt : Txt K mg ad) (C_first_other_than_nought : Cal P w K mg base (CX1 P w) "first_other_than_nought" 1 ["numbers"] (spFirst K)) (C_inverse : Cal P w K mg base (CX1 P w) "inverse" 1 ["number", "prime"] spInvs) (C_lowered : Cal P w K mg base (CX1 P w) "lowered" 1 ["row", "top", "back", "prime"] (spLow K)) : FnOk P w K mg base (CX1 P w) 2 f fd ["square", "prime"] (spRest K) := by
  refine F.okN sc_determinant_rest (fun vs H Q E h => ?_) (fun cdv A outer s H vs Q E hr h => ?_)
  · obtain ⟨a, as, M, n, pr, E0, rfl, _⟩ := h
    rfl
  · obtain ⟨a, as, M, n, pr, B, rfl, hA, hR, ok, q⟩ := h
    have hs : sizeLine = 16777216 := sizeLine_eq
    have hu := Nat.lt_of_succ_lt (hu_of hr)
    obtain ⟨len, row, sz, pm, ps, be, bd⟩ := ok
    have hp1 := pm.1
    have hpos : (0 : Int) < (pr : Int) := by omega
    have h8 := lt8000 ps (by decide)
    refine ⟨_, (pss_cons (ps_set (i := 2) sc_determinant_rest.nd rfl (Or.inl rfl) (pe_callTy call_list_of (by rfl) tt.b_list (by decide +kernel) (pa_cons (pv 0) pa_nil)))
      (pss_cons (ps_set (i := 3) sc_determinant_rest.nd rfl (Or.inl rfl) pe_int)
      (pss_cons (ps_while PassesOwn.never (pt_cmpR (op_ne_L0 K rfl hu) (pv 2) (pe_lst pa_nil) (nomark _)) (pss_cons (ps_set (i := 4) sc_determinant_rest.nd rfl (Or.inl rfl) (pe_cal C_first_other_than_nought hr pass1 (pa_cons (pe_comp cs_determinant_rest_0 rfl (pi_list (pv 2)) (fun cl C s' H' fp => (pe_op op_mod (pe_ix (ix_list_K K rfl) (pv 0) pe_int (fun _ _ => rfl)) (pv 2)))) pa_nil)))
      (pss_cons (ps_if (pt_cmp (pc_isN (pv 4))) (pss_one (ps_ret pe_int)) pss_nil)
      (pss_cons (ps_set (i := 5) sc_determinant_rest.nd rfl (Or.inr rfl) (pe_comp cs_determinant_rest_1 rfl (pi_list (pe_ix ix_list (pv 2) (pv 4) (fun _ _ => rfl))) (fun cl C s' H' fp => (pe_op op_mod (pv 0) (pv 2)))))
      (pss_cons (ps_set (i := 6) sc_determinant_rest.nd rfl (Or.inr rfl) (pe_cal C_inverse hr pass1 (pa_cons (pe_ix ix_list (pv 5) pe_int (fun _ _ => rfl)) (pa_cons (pv 1) pa_nil))))
      (pss_cons (ps_set (i := 3) sc_determinant_rest.nd rfl (Or.inl rfl) (pe_op op_mod (pe_op op_mulB (pv 3) (pe_ix ix_list (pv 5) pe_int (fun _ _ => rfl))) (pv 1)))
      (pss_cons (ps_wk (t' := (fun D σ H => ∃ (x0 x2 : V) (pr : Nat) (rst : Int) (p : Nat) (v5 v6 : Option V), σ = [some x0, some (.int (pr : Nat)), some x2, some (.int rst), some (.int (p : Nat)), v5, v6] ∧ D.nx [some x0, some (.int (pr : Nat)), some x2, some (.int (if p % 2 = 1 then (pr : Int) - rst else rst)), some (.int (p : Nat)), v5, v6] H)) (ps_if (pt_cmpR op_eq_I (pe_op op_mod (pv 4) pe_int) pe_int (nomark _)) (pss_one (ps_set (i := 3) sc_determinant_rest.nd rfl (Or.inl rfl) (pe_op op_sub (pv 1) (pv 3)))) pss_nil) ?rA)
      (pss_one (ps_setComp (i := 2) cs_determinant_rest_2 rfl (pi_list (pe_op op_catL (pe_slice sl_list (pv 2) po_none (po_some (pv 4))) (pe_slice sl_list (pv 2) (po_some (pe_op op_add (pv 4) pe_int)) po_none))) (fun cl C s' H' fp => (pe_cal C_lowered hr pass1 (pa_cons (pv 0) (pa_cons (pv 6) (pa_cons (pv 7) (pa_cons (pv 2) pa_nil)))))) sc_determinant_rest.nd rfl rfl)))))))))
      (pss_one (ps_ret (pv 3)))))), ?_⟩
    case rA =>
      rintro D σ H ⟨x0, x2, pr, rst, p, v5, v6, rfl, nxt⟩
      refine ⟨_, rfl, _, _, rfl, rfl, (by show (0 : Int) < 2; decide), _, rfl, _, rfl, _, rfl, ?_⟩
      by_cases h2 : p % 2 = 1
      · refine itP (decide_eq_true (by omega)) ?_
        refine ⟨_, rfl, _, rfl, _, _, rfl, rfl, ?_⟩
        rw [if_pos h2] at nxt
        exact nxt
      · refine itN (fun z => h2 (by have := of_decide_eq_true z; omega)) ?_
        rw [if_neg h2] at nxt
        exact nxt
    refine ⟨_, rfl, a, _, rfl, .inl hA, fun L0 hL0 => ?_⟩
    have t0 := same_upd (o := .lst (as.map V.ref)) hL0
    refine ⟨fun m σ G => ∃ (Lr : Addr) (bs : List Addr) (N : List (List Int)) (k : Nat) (rest : Int) (v4 v5 v6 : Option V), Same H G ∧ G Lr = some (.lst (bs.map V.ref)) ∧ RowsAt K G bs N ∧ N.length = m ∧ (∀ r ∈ N, r.length = m) ∧ m + k = n ∧ (∀ r ∈ N, ∀ x ∈ r, x.natAbs ≤ B + k * (pr * pr)) ∧ (0 < rest ∧ rest < pr) ∧ Dt.Cg pr (rest * Dt.det m (Dt.ent N)) (Dt.det n (Dt.ent M)) ∧ σ = [some (.ref a), some (.int (pr : Nat)), some (.ref Lr), some (.int rest), v4, v5, v6],
      ⟨n, L0, as, M, 0, 1, none, none, none, t0, upd_same, hR.on t0, len, row, by omega, fun r hr x hx => by rw [Nat.zero_mul]; exact be r hr x hx, ⟨by decide, by omega⟩, by rw [Int.one_mul]; exact Dt.Cg.refl _, rfl⟩, ?_⟩
    rintro m σ G ⟨Lr, bs, N, k, rest, v4, v5, v6, sG, hL, hN, hNl, hNr, hmk, hNb, hrest, hcg, rfl⟩
    have hbl := hN.1
    refine ⟨_, rfl, (by show 0 ≤ sizeLine; omega), fun E1 hE1 => ?_⟩
    have tE := same_upd (o := .lst []) hE1
    refine ⟨Lr, E1, _, rfl, rfl, SqL.of (tE Lr _ hL), SqL.of upd_same, _, rfl, ?_⟩
    cases m with
    | zero =>
      obtain rfl : bs = [] := List.length_eq_zero_iff.mp (by omega)
      refine iteF ?_
      refine ⟨_, rfl, q rest _ (sG.trans tE) ⟨by omega, hrest.2⟩ ?_⟩
      have e : rest * Dt.det 0 (Dt.ent N) = rest := Int.mul_one rest
      rw [e] at hcg
      exact hcg
    | succ m =>
      refine itP (by cases bs with | nil => rw [List.length_nil] at hbl; omega | cons y r => rfl) ?_
      refine ⟨_, fun σ' H' z => z, ?_⟩
      have hL2 := tE Lr _ hL
      have hN2 := hN.on tE
      generalize upd G E1 (.lst []) = G2 at tE hL2 hN2
      refine ⟨_, rfl, Lr, rfl, ⟨_, SqL.of hL2⟩, ?_⟩
      refine compI (fun r => r.getD 0 0 % (pr : Int)) (reads_list (SqL.of hL2)) hN2 (by omega) (fun a' r G' hrm hS s' N' hN' => ?_) fun D1 G3 hD1 s3 hd3 => ?_
      · exact ⟨_, rfl, a', _, _, _, rfl, rfl, hS, atI_nat (j := 0) (int_at0 (by rw [hNr r hrm]; omega)), _, rfl, _, _, rfl, rfl, hpos, hN' G' (Same.refl _)⟩
      have hL3 := s3 Lr _ hL2
      have hN3 := hN2.on s3
      have sG3 := sG.trans (tE.trans s3)
      refine ⟨D1, _, rfl, SqL.of hd3, fun G4 s4 hall => ?_, fun p G4 s4 hp hne => ?_⟩
      · refine ⟨_, rfl, _, rfl, iteT ?_⟩
        refine q 0 G4 (sG3.trans s4) ⟨Int.le_refl _, hpos⟩ ?_
        have h0 := Dt.elim0 (m := pr) (M := N) (n := m) (fun r hrm => Int.dvd_of_emod_eq_zero (hall _ (List.mem_map.mpr ⟨r, hrm, rfl⟩))) hNl
        have h1 := (Dt.Cg.refl (m := pr) rest).mul h0
        rw [Int.mul_zero] at h1
        exact h1.symm.trans hcg
      · rw [List.length_map] at hp
        obtain ⟨rp, hrp⟩ : ∃ rp, N[p]? = some rp := ⟨_, List.getElem?_eq_getElem hp⟩
        obtain ⟨bp, hbp⟩ : ∃ bp, bs[p]? = some bp := ⟨_, List.getElem?_eq_getElem (by omega)⟩
        have hrpm := List.mem_of_getElem? hrp
        have hrl := hNr rp hrpm
        have hne2 : rp.getD 0 0 % (pr : Int) ≠ 0 := by
          rw [List.getD_eq_getElem?_getD, List.getElem?_map, hrp] at hne
          exact hne
        refine ⟨_, rfl, _, rfl, iteF ?_⟩
        have hL4 := s4 Lr _ hL3
        have hN4 := hN3.on s4
        have hS4 := hN4.2 p bp rp hbp hrp
        refine ⟨_, rfl, _, rfl, Lr, _, _, _, rfl, rfl, SqL.of hL4, atI_nat (j := p) (by rw [List.getElem?_map, hbp]; rfl), bp, rfl, ⟨_, hS4⟩, ?_⟩
        refine compG (fun v => match v with | .int i => .int (i % (pr : Int)) | _ => .non) (reads_list hS4) (by rw [List.length_map]; omega) (fun v G' hv s' N' hN' => ?_) fun D2 G5 hD2 s5 hd5 => ?_
        · obtain ⟨i, hi, rfl⟩ := List.mem_map.mp hv
          exact ⟨_, rfl, _, rfl, _, _, rfl, rfl, hpos, hN' G' (Same.refl _)⟩
        have hd5 : G5 D2 = some (.lst ((rp.map fun i => i % (pr : Int)).map V.int)) := by rw [hd5, List.map_map, List.map_map]; rfl
        have htl : (rp.map fun i => i % (pr : Int)).length = m + 1 := by rw [List.length_map, hrl]
        have htop : ∀ k, k < m + 1 → (rp.map fun i => i % (pr : Int)).getD k 0 = rp.getD k 0 % (pr : Int) := fun k hk => by
          rw [List.getD_eq_getElem?_getD, List.getElem?_map, List.getD_eq_getElem?_getD, List.getElem?_eq_getElem (by omega)]
          rfl
        have htb : ∀ y ∈ rp.map (fun i => i % (pr : Int)), y.natAbs ≤ pr := fun y hy => by
          obtain ⟨i, _, rfl⟩ := List.mem_map.mp hy
          have := Int.emod_nonneg i (show (pr : Int) ≠ 0 by omega)
          have := Int.emod_lt_of_pos i hpos
          omega
        have ht0 : (rp.map fun i => i % (pr : Int)).getD 0 0 % (pr : Int) ≠ 0 := by rw [htop 0 (by omega), Int.emod_emod]; exact hne2
        have htc : ∀ k, k < m + 1 → Dt.Cg pr ((rp.map fun i => i % (pr : Int)).getD k 0) ((N.getD p []).getD k 0) := fun k hk => by
          rw [htop k hk, List.getD_eq_getElem?_getD (l := N), hrp]
          exact Dt.cg_mod _
        generalize rp.map (fun i => i % (pr : Int)) = top at hd5 htl htop htb ht0 htc
        have sG5 := sG3.trans (s4.trans s5)
        have hL5 := s5 Lr _ hL4
        have hN5 := hN4.on s5
        refine ⟨_, rfl, D2, _, _, _, rfl, rfl, SqL.of hd5, atI_nat (j := 0) (int_at0 (by omega)), _, rfl, top.getD 0 0, pr, rfl, pm, ps, ht0, fun inv hinv hib => ?_⟩
        have ht0b := htb _ (getD_mem (ns := top) (j := 0) (by omega))
        refine ⟨_, rfl, _, rfl, D2, _, _, _, rfl, rfl, SqL.of hd5, atI_nat (j := 0) (int_at0 (by omega)), _, _, rfl, rfl, ⟨bg_le (n := pr) (by omega) h8, bg_le ht0b h8⟩, _, rfl, _, _, rfl, rfl, hpos, ?_⟩
        refine ⟨_, _, pr, _, p, _, _, rfl, ?_⟩
        have hpl : p ≤ bs.length := by omega
        have c1 : cutV (bs.map V.ref) none (some ((p : Nat) : Int)) = (bs.take p).map V.ref := by rw [List.map_take]; exact cut_to (by rw [List.length_map]; omega)
        have c2 : cutV (bs.map V.ref) (some ((p : Nat) + 1 : Int)) none = (bs.drop (p + 1)).map V.ref := by rw [List.map_drop]; exact cut_from (k := p + 1) (by rw [List.length_map]; omega)
        refine ⟨_, rfl, _, rfl, _, rfl, Lr, _, rfl, SqL.of hL5, fun p1 hp1 => ?_⟩
        rw [c1]
        have u1 := same_upd (o := .lst ((bs.take p).map V.ref)) hp1
        refine ⟨_, rfl, _, rfl, _, _, rfl, rfl, _, rfl, Lr, _, rfl, SqL.of (u1 Lr _ hL5), fun p2 hp2 => ?_⟩
        rw [c2]
        have u2 := same_upd (o := .lst ((bs.drop (p + 1)).map V.ref)) hp2
        refine ⟨p1, p2, _, _, rfl, rfl, SqL.of (u2 p1 _ upd_same), SqL.of upd_same, (by rw [List.length_map, List.length_map, List.length_take, List.length_drop]; omega), fun p3 hp3 => ?_⟩
        rw [show (bs.take p).map V.ref ++ (bs.drop (p + 1)).map V.ref = (bs.eraseIdx p).map V.ref by rw [← List.map_append, List.eraseIdx_eq_take_drop_succ]]
        have u3 := same_upd (o := .lst ((bs.eraseIdx p).map V.ref)) hp3
        have u123 := u1.trans (u2.trans u3)
        refine ⟨p3, rfl, ⟨_, SqL.of upd_same⟩, ?_⟩
        have hlok : ∀ r ∈ N, LowOk inv pr m top r := fun r hrm => ⟨hNr r hrm, htl, by omega, by omega, ps, bg_le (hNb r hrm _ (getD_mem (by rw [hNr r hrm]; omega))) (Nat.lt_of_le_of_lt (Nat.add_le_add_left (Nat.mul_le_mul_right _ (show k ≤ n by omega)) B) bd), by omega, htb⟩
        have hsub : ∀ r ∈ N.eraseIdx p, r ∈ N := fun r hr => List.mem_of_mem_eraseIdx hr
        refine compR (low inv pr top) (reads_list (SqL.of upd_same)) ((hN5.erase p).on u123) (by rw [List.length_eraseIdx]; split <;> omega) (fun a' r G' hrm hS s' N' hN' => ?_) fun D4 cs G6 hD4 s6 hd6 _ hR6 => ?_
        · exact ⟨_, rfl, _, rfl, _, rfl, _, rfl, a', D2, inv, pr, m, r, top, rfl, hS, SqL.of (s' D2 _ (u123 D2 _ hd5)), hlok r (hsub r hrm), fun D G'' hD s'' hd => hN' D G'' s'' hD hd⟩
        · have hel := Dt.elim (m := pr) (n := m) (p := p) (M := N) (top := top) (back := inv) (t := fun r => r.getD 0 0 * inv % (pr : Int)) (low := low inv pr top) (by omega) hNl htc (by rw [Int.mul_comm]; exact hinv) (fun r _ => Dt.cg_mod _) fun r hrm k hk => low_get (hlok r hrm) hk
          obtain ⟨r1, r2⟩ := Dt.rest_step hrest hinv hel hcg
          refine ⟨m, Nat.lt_succ_self m, D4, cs, (N.eraseIdx p).map (low inv pr top), k + 1, _, _, _, _, sG5.trans (u123.trans s6), hd6, hR6, by rw [List.length_map, List.length_eraseIdx, if_pos (by omega)]; omega, fun r hr => ?_, by omega, fun r hr => ?_, r1, r2, rfl⟩
          · obtain ⟨r', hr', rfl⟩ := List.mem_map.mp hr
            exact low_len (hlok r' (hsub r' hr'))
          · obtain ⟨r', hr', rfl⟩ := List.mem_map.mp hr
            rw [Nat.add_mul, Nat.one_mul, ← Nat.add_assoc]
            exact low_abs (hlok r' (hsub r' hr')) (hNb r' (hsub r' hr'))

set_option genInjectivity false in
structure SqOk (M : List (List Int)) (n : Nat) : Prop where
  len : M.length = n
  row : ∀ r ∈ M, r.length = n
  sz : n ≤ 64
  sm : ∀ r ∈ M, Dt.rs n r ≤ 2 ^ 110
theorem SqOk.part {M : List (List Int)} {n : Nat} (h : SqOk M n) (i : Nat) : Dt.pL ((M.take i).map (Dt.rs n)) < 2 ^ 8000 := by
  have h1 := Dt.pL_le (R := 2 ^ 110) (l := (M.take i).map (Dt.rs n)) fun x hx => by
    obtain ⟨r, hr, rfl⟩ := List.mem_map.mp hx
    exact h.sm r (List.mem_of_mem_take hr)
  rw [List.length_map, List.length_take, ← Nat.pow_mul] at h1
  have := h.len
  have := h.sz
  exact Nat.lt_of_le_of_lt h1 (Nat.pow_lt_pow_right (by decide) (by omega))
noncomputable def spGreat (K : PySem.W.Frag) : Sp := fun vs H Q _ => ∃ (a : Addr) (as : List Addr) (M : List (List Int)) (n : Nat), vs = [.ref a] ∧ SqL K H a (as.map V.ref) ∧ RowsAt K H as M ∧ SqOk M n ∧ ∀ H', Same H H' → Q (.int (Dt.pL (M.map (Dt.rs n)) : Nat)) H'
theorem ok_greatest_of {f : Addr} {fd : FuncData} (F : Fun K "greatest_of" "greatest_of" s_greatest_of f fd) (tt : Txt K mg ad) : FnOk P w K mg base (CX1 P w) 1 f fd ["square"] (spGreat K) := by
  refine F.okN sc_greatest_of (fun vs H Q E h => ?_) (fun cdv A outer s H vs Q E hr h => ?_)
  · obtain ⟨a, as, M, n, rfl, _⟩ := h
    rfl
  · obtain ⟨a, as, M, n, rfl, hA, hR, ok, q⟩ := h
    have hs : sizeLine = 16777216 := sizeLine_eq
    have hrl := hR.1
    have hlen := ok.len
    have hsz := ok.sz
    refine ⟨_, (pss_cons (ps_set (i := 1) sc_greatest_of.nd rfl (Or.inl rfl) pe_int)
      (pss_cons (ps_for PassesOwn.never rfl (pi_list (pv 0)) (pg_name (i := 2) sc_greatest_of.nd rfl (Or.inl rfl)) (pss_one (ps_set (i := 1) sc_greatest_of.nd rfl (Or.inl rfl) (pe_op op_mulB (pv 1) (pe_callB (call_sumX rfl) (by rfl) tt.b_sum PyProof.Rows.boot_sum (pa_cons (pe_comp cs_greatest_of_0 rfl (pi_list (pv 2)) (fun cl C s' H' fp => (pe_callB call_abs (by rfl) tt.b_abs PyProof.Rows.boot_abs (pa_cons (pv 0) pa_nil)))) pa_nil))))))
      (pss_one (ps_ret (pv 1))))), ?_⟩
    refine ⟨_, rfl, a, rfl, ⟨_, hA⟩, ?_⟩
    refine for_list (K := K) (a := a) (xs := as.map V.ref) (fun i σ G => Same H G ∧ ∃ v2 : Option V, σ = [some (.ref a), some (.int (Dt.pL ((M.take i).map (Dt.rs n)) : Nat)), v2]) ⟨Same.refl _, none, rfl⟩ (fun i σ G _ h => h.1.seq hA) ?_ ?_
    · rintro i v σ G hi ⟨sG, v2, rfl⟩
      obtain ⟨a', r, rfl, hr', hS⟩ := (hR.on sG).at hi
      have hrm := List.mem_of_getElem? hr'
      have hrl2 := ok.row r hrm
      refine ⟨_, rfl, _, rfl, a', rfl, ⟨_, hS⟩, ?_⟩
      refine compG (fun v => match v with | .int i => .int (if i < 0 then -i else i) | _ => .non) (reads_list hS) (by rw [List.length_map]; omega) (fun v G' hv s' N' hN' => ?_) fun D2 G5 hD2 s5 hd5 => ?_
      · obtain ⟨i, hi, rfl⟩ := List.mem_map.mp hv
        exact ⟨_, rfl, _, rfl, hN' G' (Same.refl _)⟩
      have hd5 : G5 D2 = some (.lst ((r.map fun i => if i < 0 then -i else i).map V.int)) := by rw [hd5, List.map_map, List.map_map]; rfl
      refine ⟨D2, _, rfl, SqL.of hd5, ?_⟩
      rw [Dt.sN_list hrl2]
      have e : Dt.pL ((M.take (i + 1)).map (Dt.rs n)) = Dt.pL ((M.take i).map (Dt.rs n)) * Dt.rs n r := by rw [List.take_add_one, hr', List.map_append]; exact Dt.pL_snoc _ _
      refine ⟨_, _, rfl, rfl, ⟨bg_le (by rw [Int.natAbs_natCast]; exact Nat.le_refl _) (ok.part i), bg_le (n := 2 ^ 110) (by rw [Int.natAbs_natCast]; exact ok.sm r hrm) (lt8000 (k := 111) (by decide +kernel) (by decide))⟩, ?_⟩
      refine ⟨sG.trans s5, some (.ref a'), ?_⟩
      rw [e, Int.natCast_mul]
      rfl
    · rintro σ G ⟨sG, v2, rfl⟩
      rw [List.length_map, List.take_of_length_le (by omega)]
      exact ⟨_, rfl, q G sG⟩
noncomputable def kts : List Int := [133, 211, 598, 652, 721, 850, 1282, 1417, 1582, 1681, 1726, 1837, 1885, 2017, 2377, 2383, 2452, 2476, 2530, 2611, 2662, 2698, 2773, 2878, 2917, 2980, 2998, 3082, 3238, 3250, 3343, 3421, 3427, 3670, 3817, 4162, 4252, 4447, 4468, 4621, 4630, 4747, 4867, 4891, 4915, 5128, 5143, 5236, 5401, 5587, 5650, 5803, 5833, 5923, 5986, 6202, 6235, 6286, 6496, 6526, 6736, 7093, 7561, 7696, 7831, 7855, 7882, 7927, 8143, 8248]

noncomputable def spTimes : Sp := fun vs H Q _ => ∃ (j : Nat) (last : Int), vs = [.int (j : Nat), .int last] ∧ j < 7 ∧ Q (.int (kts.getD j 0)) H
theorem ok_further_times {f : Addr} {fd : FuncData} (F : Fun K "further_times" "further_times" s_further_times f fd) (tt : Txt K mg ad) : FnOk P w K mg base (CX1 P w) 1 f fd ["place", "last"] spTimes := by
  refine F.okN sc_further_times (fun vs H Q E h => ?_) (fun cdv A outer s H vs Q E hr h => ?_)
  · obtain ⟨j, last, rfl, _⟩ := h
    rfl
  · obtain ⟨j, last, rfl, hj, q⟩ := h
    have hkt : SqT K H ad.KNOWN_TIMES (kts.map V.int) := SqT.tupIs tt.kt
    have hkl : (kts.map V.int).length = 70 := rfl
    refine ⟨_, (pss_cons (ps_if (pt_cmpR op_lt (pv 0) (pe_callB call_len_seq (by rfl) tt.b_len PySem.boot_len (pa_cons (pe_glob (v := .ref ad.KNOWN_TIMES) (by rfl) tt.m_KNOWN_TIMES rfl) pa_nil)) (nomark _)) (pss_one (ps_ret (pe_ix ix_tup (pe_glob (v := .ref ad.KNOWN_TIMES) (by rfl) tt.m_KNOWN_TIMES rfl) (pv 0) (fun _ _ => rfl)))) pss_nil)
      pss_dead), ?_⟩
    refine ⟨_, rfl, ad.KNOWN_TIMES, _, rfl, .inr hkt, _, _, rfl, rfl, _, rfl, ?_⟩
    rw [hkl]
    refine itP (decide_eq_true (by omega)) ?_
    exact ⟨_, rfl, ad.KNOWN_TIMES, _, _, _, rfl, rfl, hkt, atI_nat (j := j) (int_at0 (by show j < 70; omega)), q⟩

theorem pr_eq : ∀ j, j < 7 → kts.getD j 0 * 6277101735386680763835789423207666416102355444464034512896 + 1 = ((Dt.pr j : Nat) : Int) := by decide +kernel
theorem kts_le : ∀ j, j < 7 → (kts.getD j 0).natAbs < 2 ^ 20 := by decide +kernel
noncomputable def spDet (K : PySem.W.Frag) : Sp := fun vs H Q _ => ∃ (a : Addr) (as : List Addr) (M : List (List Int)) (n : Nat), vs = [.ref a] ∧ SqL K H a (as.map V.ref) ∧ RowsAt K H as M ∧ SqOk M n ∧ 2 * Dt.pL (M.map (Dt.rs n)) < Dt.md 7 ∧ ∀ H', Same H H' → Q (.int (Dt.det n (Dt.ent M))) H'
theorem num_ok {n p : Nat} (hn : n ≤ 64) (hp : p < 2 ^ 250) : 2 ^ 110 + n * (p * p) < 2 ^ 8000 := by
  have h1 : n * (p * p) ≤ 64 * (2 ^ 250 * 2 ^ 250) := Nat.mul_le_mul hn (Nat.mul_le_mul (Nat.le_of_lt hp) (Nat.le_of_lt hp))
  exact Nat.lt_of_le_of_lt (Nat.add_le_add_left h1 _) (by decide +kernel)
theorem SqOk.rest {M : List (List Int)} {n p : Nat} (h : SqOk M n) (hp : Dt.PrimeN p) (hl : p < 2 ^ 250) : RestOk M n p (2 ^ 110) :=
  ⟨h.len, h.row, Nat.le_trans h.sz (by decide), hp, Nat.lt_of_lt_of_le hl (Nat.pow_le_pow_right (by decide) (by decide)), fun r hr x hx => Nat.le_trans (Dt.rs_mem (h.row r hr) hx) (h.sm r hr), num_ok h.sz hl⟩
theorem ok_determinant {f : Addr} {fd : FuncData} (F : Fun K "determinant" "determinant" s_determinant f fd) (tt : Txt K mg ad) (C_greatest_of : Cal P w K mg base (CX1 P w) "greatest_of" 1 ["square"] (spGreat K)) (C_determinant_rest : Cal P w K mg base (CX1 P w) "determinant_rest" 2 ["square", "prime"] (spRest K)) (C_further_times : Cal P w K mg base (CX1 P w) "further_times" 1 ["place", "last"] spTimes) (C_inverse : Cal P w K mg base (CX1 P w) "inverse" 1 ["number", "prime"] spInvs) :
    FnOk P w K mg base (CX1 P w) 3 f fd ["square"] (spDet K) := by
  refine F.okN sc_determinant (fun vs H Q E h => ?_) (fun cdv A outer s H vs Q E hr h => ?_)
  · obtain ⟨a, as, M, n, rfl, _⟩ := h
    rfl
  · obtain ⟨a, as, M, n, rfl, hA, hR, ok, hlt, q⟩ := h
    have hs : sizeLine = 16777216 := sizeLine_eq
    have hdet := Dt.det_le (M := M) ok.len
    have hbnd := ok.part n
    rw [List.take_of_length_le (by rw [ok.len]; exact Nat.le_refl _)] at hbnd
    generalize hB : Dt.pL (M.map (Dt.rs n)) = B at hlt hdet hbnd
    generalize hDD : Dt.det n (Dt.ent M) = DD at q hdet
    have bB : Bg ((B : Nat) : Int) := bg_le (by rw [Int.natAbs_natCast]; exact Nat.le_refl _) hbnd
    refine ⟨_, (pss_cons (ps_set (i := 1) sc_determinant.nd rfl (Or.inl rfl) (pe_cal C_greatest_of hr pass1 (pa_cons (pv 0) pa_nil)))
      (pss_cons (ps_set (i := 2) sc_determinant.nd rfl (Or.inl rfl) (pe_cal C_determinant_rest hr pass1 (pa_cons (pv 0) (pa_cons (pe_glob (by rfl) tt.g_FIRST_PRIME tt.r_FIRST_PRIME) pa_nil))))
      (pss_cons (ps_set (i := 3) sc_determinant.nd rfl (Or.inl rfl) (pe_glob (by rfl) tt.g_FIRST_PRIME tt.r_FIRST_PRIME))
      (pss_cons (ps_set (i := 4) sc_determinant.nd rfl (Or.inl rfl) pe_int)
      (pss_cons (ps_set (i := 5) sc_determinant.nd rfl (Or.inl rfl) pe_int)
      (pss_cons (ps_while PassesOwn.never (pt_cmpR op_le (pv 3) (pe_op op_mulB pe_int (pv 1)) (nomark _)) (pss_cons (ps_set (i := 5) sc_determinant.nd rfl (Or.inl rfl) (pe_cal C_further_times hr pass1 (pa_cons (pv 4) (pa_cons (pv 5) pa_nil))))
      (pss_cons (ps_set (i := 4) sc_determinant.nd rfl (Or.inl rfl) (pe_op op_add (pv 4) pe_int))
      (pss_cons (ps_set (i := 6) sc_determinant.nd rfl (Or.inl rfl) (pe_op op_add (pe_op op_mulB (pv 5) (pe_glob (by rfl) tt.g_STEP tt.r_STEP)) pe_int))
      (pss_cons (ps_set (i := 7) sc_determinant.nd rfl (Or.inl rfl) (pe_op op_sub (pe_cal C_determinant_rest hr pass1 (pa_cons (pv 0) (pa_cons (pv 6) pa_nil))) (pv 2)))
      (pss_cons (ps_set (i := 2) sc_determinant.nd rfl (Or.inl rfl) (pe_op op_add (pv 2) (pe_op op_mulB (pe_op op_mod (pe_op op_mulB (pv 7) (pe_cal C_inverse hr pass1 (pa_cons (pv 3) (pa_cons (pv 6) pa_nil)))) (pv 6)) (pv 3))))
      (pss_one (ps_set (i := 3) sc_determinant.nd rfl (Or.inl rfl) (pe_op op_mulB (pv 3) (pv 6))))))))))
      (pss_cons (ps_if (pt_cmpR op_gt (pv 2) (pv 1) (nomark _)) (pss_one (ps_ret (pe_op op_sub (pv 2) (pv 3)))) pss_nil)
      (pss_one (ps_ret (pv 2)))))))))), ?_⟩
    refine ⟨_, rfl, a, as, M, n, rfl, hA, hR, ok, fun G1 s1 => ?_⟩
    rw [hB]
    refine ⟨_, rfl, a, as, M, n, 2305843009213693951, 2 ^ 110, rfl, s1.seq hA, hR.on s1, ok.rest Dt.mers (by decide +kernel), fun res G2 s2 hres hcg => ?_⟩
    rw [hDD] at hcg
    refine ⟨fun m σ G => ∃ (j : Nat) (res times : Int) (v6 v7 : Option V), m = 7 - j ∧ j ≤ 7 ∧ Same H G ∧ (0 ≤ res ∧ res < (Dt.md j : Nat)) ∧ Dt.Cg (Dt.md j : Nat) res DD ∧ σ = [some (.ref a), some (.int (B : Nat)), some (.int res), some (.int (Dt.md j : Nat)), some (.int (j : Nat)), some (.int times), v6, v7],
      ⟨_, 0, res, 0, none, none, rfl, by omega, s1.trans s2, hres, hcg, rfl⟩, ?_⟩
    rintro m σ G ⟨j, res, times, v6, v7, rfl, hj, sG, hres, hcg, rfl⟩
    refine ⟨_, rfl, _, rfl, _, _, rfl, rfl, ⟨bg_le (n := 2) (by decide) (by decide +kernel), bB⟩, _, _, rfl, rfl, _, rfl, ?_⟩
    by_cases hle : Dt.md j ≤ 2 * B
    · refine itP (decide_eq_true (by omega)) ?_
      have hj7 : j < 7 := by
        rcases Nat.lt_or_ge j 7 with z | z
        · exact z
        · rw [show j = 7 by omega] at hle
          omega
      obtain ⟨k1, k2, k3, k4⟩ := Dt.pr_ok j hj7
      have ePr := pr_eq j hj7
      have hpp := Dt.pr_prime hj7
      have hp1 := hpp.1
      have l1 := lt8000 k1 (by decide)
      have l3 := lt8000 k3 (by decide)
      have l4 := lt8000 k4 (by decide)
      have bP : Bg ((Dt.pr j : Nat) : Int) := bg_le (by rw [Int.natAbs_natCast]; exact Nat.le_refl _) l1
      have bM : Bg ((Dt.md j : Nat) : Int) := bg_le (by rw [Int.natAbs_natCast]; exact Nat.le_refl _) l3
      refine ⟨_, fun σ' H' z => z, ?_⟩
      refine ⟨_, rfl, _, rfl, j, times, rfl, hj7, ?_⟩
      refine ⟨_, rfl, _, _, rfl, rfl, ?_⟩
      refine ⟨_, rfl, _, _, rfl, rfl, ⟨bg_le (Nat.le_of_lt (kts_le j hj7)) (lt8000 (k := 21) (by decide +kernel) (by decide)), bg_le (n := 2 ^ 200) (by decide +kernel) (lt8000 (k := 201) (by decide +kernel) (by decide))⟩, _, _, rfl, rfl, ?_⟩
      refine ⟨_, rfl, _, rfl, a, as, M, n, Dt.pr j, 2 ^ 110, congrArg (fun z => [V.ref a, V.int z]) ePr, sG.seq hA, hR.on sG, ok.rest hpp k1, fun r2 G3 s3 hr2 hc2 => ?_⟩
      rw [hDD] at hc2
      refine ⟨_, rfl, _, _, rfl, rfl, ?_⟩
      refine ⟨_, rfl, _, rfl, _, rfl, _, rfl, ((Dt.md j : Nat) : Int), Dt.pr j, congrArg (fun z => [V.int ((Dt.md j : Nat) : Int), V.int z]) ePr, hpp, Nat.lt_of_lt_of_le k1 (Nat.pow_le_pow_right (by decide) (by decide)), (fun z => k2 (by exact_mod_cast z)), fun inv hi hib => ?_⟩
      have q1 := Int.emod_nonneg ((r2 - res) * inv) (show ((Dt.pr j : Nat) : Int) ≠ 0 by omega)
      have q2 := Int.emod_lt_of_pos ((r2 - res) * inv) (show (0 : Int) < ((Dt.pr j : Nat) : Int) by omega)
      obtain ⟨c1, c2, c3⟩ := Dt.crt (M1 := Dt.md j) (pr := Dt.pr j) (D := DD) (res := res) (r2 := r2) (inv := inv) (by omega) (by omega) hcg hc2 hi hres
      refine ⟨_, _, rfl, rfl, ⟨bg_le (n := Dt.md j + Dt.pr j) (by omega) (Nat.lt_of_lt_of_le (Nat.add_lt_add k3 k1) (by decide +kernel)), bg_le (n := Dt.pr j) (by omega) l1⟩, _, rfl, _, _, rfl, rfl, (by show (0 : Int) < _; rw [ePr]; omega), _, rfl, _, _, rfl, rfl, ⟨?_, bM⟩, _, _, rfl, rfl, ?_⟩
      · show Bg ((r2 - res) * inv % _)
        rw [ePr]
        exact bg_le (n := Dt.pr j) (by omega) l1
      refine ⟨_, rfl, _, rfl, _, _, rfl, rfl, ⟨bM, by rw [ePr]; exact bP⟩, ?_⟩
      refine ⟨7 - (j + 1), by omega, j + 1, res + (r2 - res) * inv % (Dt.pr j : Nat) * (Dt.md j : Nat), kts.getD j 0, some (.int (kts.getD j 0 * 6277101735386680763835789423207666416102355444464034512896 + 1)), some (.int (r2 - res)), rfl, by omega, sG.trans s3, ⟨c2, c3⟩, c1, ?_⟩
      rw [← ePr, show ((Dt.md (j + 1) : Nat) : Int) = (Dt.md j : Nat) * (kts.getD j 0 * 6277101735386680763835789423207666416102355444464034512896 + 1) by rw [ePr]; exact Int.natCast_mul ..]
      rfl
    · refine itN (fun z => hle (by have := of_decide_eq_true z; omega)) ?_
      have hfr := Dt.from_rest (M := Dt.md j) (D := DD) (res := res) (bd := (B : Nat)) (by omega) (by omega) hcg hres
      refine ⟨_, rfl, _, rfl, _, _, rfl, rfl, _, rfl, ?_⟩
      by_cases hgt : ((B : Nat) : Int) < res
      · rw [if_pos hgt] at hfr
        refine itP (decide_eq_true hgt) ?_
        refine ⟨_, rfl, _, rfl, _, _, rfl, rfl, ?_⟩
        rw [← hfr] at q
        exact q G sG
      · rw [if_neg hgt] at hfr
        refine itN (fun z => hgt (of_decide_eq_true z)) ?_
        rw [← hfr] at q
        exact ⟨_, rfl, q G sG⟩

noncomputable def spWhole : Sp := fun vs H Q _ => ∃ x : Int, vs = [.int x, .int x] ∧ Q (.bl true) H
theorem ok__law_whole {f : Addr} {fd : FuncData} (F : Fun K "_law_whole" "_law_whole" s__law_whole f fd) (tt : Txt K mg ad) : FnOk P w K mg base (CX1 P w) 1 f fd ["found", "due"] spWhole := by
  refine F.okN sc__law_whole (fun vs H Q E h => ?_) (fun cdv A outer s H vs Q E hr h => ?_)
  · obtain ⟨x, rfl, _⟩ := h
    rfl
  · obtain ⟨x, rfl, q⟩ := h
    refine ⟨_, (pss_one (ps_ret (pe_and (pe_callB call_isinst (by rfl) tt.b_isinstance PyProof.Rows.boot_isinstance (pa_cons (pv 0) (pa_cons (pe_bltn (v := .ty "int") (u := .type "int") (by rfl) tt.b_int (by decide +kernel) rfl) pa_nil))) (pe_and (pe_not (pe_callB call_isinst (by rfl) tt.b_isinstance PyProof.Rows.boot_isinstance (pa_cons (pv 0) (pa_cons (pe_bltn (v := .ty "bool") (u := .type "bool") (by rfl) tt.b_bool (by decide +kernel) rfl) pa_nil)))) (pe_one (pe_cmpR op_eq_I (pv 0) (pv 1) (nomark _))))))), ?_⟩
    refine ⟨_, rfl, _, _, _, _, rfl, .int _, kit_same _, _, rfl, iteT ?_⟩
    refine ⟨_, rfl, _, _, _, _, rfl, .int _, kit_int_bool, _, rfl, _, rfl, iteT ?_⟩
    refine ⟨_, rfl, _, rfl, _, rfl, _, rfl, ?_⟩
    rw [decide_eq_true rfl]
    exact q

noncomputable def spCell (K : PySem.W.Frag) : Sp := fun vs H Q _ => ∃ (a : Addr) (ns : List Int) (k : Nat), vs = [.ref a, .int (k : Nat)] ∧ SqL K H a (ns.map V.int) ∧ Q (.int (ns.getD k 0)) H
theorem ok__law_cell_at {f : Addr} {fd : FuncData} (F : Fun K "_law_cell_at" "_law_cell_at" s__law_cell_at f fd) (tt : Txt K mg ad) : FnOk P w K mg base (CX1 P w) 1 f fd ["script", "k"] (spCell K) := by
  refine F.okN sc__law_cell_at (fun vs H Q E h => ?_) (fun cdv A outer s H vs Q E hr h => ?_)
  · obtain ⟨a, ns, k, rfl, _⟩ := h
    rfl
  · obtain ⟨a, ns, k, rfl, hS, q⟩ := h
    refine ⟨_, (pss_cons (ps_if (pt_cmpR op_lt (pv 1) (pe_callB call_len_seq (by rfl) tt.b_len PySem.boot_len (pa_cons (pv 0) pa_nil)) (nomark _)) (pss_one (ps_ret (pe_ix ix_list (pv 0) (pv 1) (fun _ _ => rfl)))) pss_nil)
      (pss_one (ps_ret pe_int))), ?_⟩
    refine ⟨_, rfl, _, rfl, a, _, rfl, .inl hS, _, _, rfl, rfl, _, rfl, ?_⟩
    rw [List.length_map]
    refine ite2 (fun h0 => ?_) (fun h0 => ?_)
    · have h1 : k < ns.length := by have := of_decide_eq_true h0; omega
      rw [List.getD_eq_getElem?_getD, List.getElem?_eq_getElem h1] at q
      exact ⟨_, rfl, _, rfl, a, _, _, _, rfl, rfl, hS, atI_nat (by rw [List.getElem?_map, List.getElem?_eq_getElem h1]; rfl), q⟩
    · have h1 : ¬ k < ns.length := fun z => h0 (decide_eq_true (by omega))
      rw [List.getD_eq_getElem?_getD, List.getElem?_eq_none (by omega)] at q
      exact q

noncomputable def numC (ns : List Int) (k : Nat) : Int := if 0 < ns.length then 11 * (k : Int) * k + 3 * k + ns.getD (k % ns.length) 0 / (1 + ((k / ns.length : Nat) : Int)) else 11 * (k : Int) * k + 3 * k
noncomputable def numF (ns : List Int) (k : Nat) : Int := if numC ns k % 5 = 4 then numC ns k / 5 % (2 * 10 ^ 12 + 1) - 10 ^ 12 else numC ns k / 5 % 13 - 6
theorem numF_le (ns : List Int) (k : Nat) : (numF ns k).natAbs ≤ 10 ^ 12 := by
  unfold numF
  generalize numC ns k = c
  have e : (10 : Int) ^ 12 = 1000000000000 := by decide
  have e2 : (10 : Nat) ^ 12 = 1000000000000 := by decide
  rw [e, e2]
  split <;> omega
noncomputable def spNum (K : PySem.W.Frag) : Sp := fun vs H Q _ => ∃ (a : Addr) (ns : List Int) (k : Nat), vs = [.ref a, .int (k : Nat)] ∧ SqL K H a (ns.map V.int) ∧ ns.length ≤ 63 ∧ k ≤ 1000 ∧ Q (.int (numF ns k)) H
theorem ok__law_number {f : Addr} {fd : FuncData} (F : Fun K "_law_number" "_law_number" s__law_number f fd) (tt : Txt K mg ad) : FnOk P w K mg base (CX1 P w) 1 f fd ["script", "k"] (spNum K) := by
  refine F.okN sc__law_number (fun vs H Q E h => ?_) (fun cdv A outer s H vs Q E hr h => ?_)
  · obtain ⟨a, ns, k, rfl, _⟩ := h
    rfl
  · obtain ⟨a, ns, k, rfl, hS, hl, hk, q⟩ := h
    refine ⟨_, (pss_cons (ps_set (i := 2) sc__law_number.nd rfl (Or.inl rfl) (pe_op op_add (pe_op op_mul (pe_op op_mul pe_int (pv 1)) (pv 1)) (pe_op op_mul pe_int (pv 1))))
      (pss_cons (ps_wk (t' := (fun D σ H => ∃ (a : Addr) (ns : List Int) (k : Nat) (c : Int), σ = [some (.ref a), some (.int (k : Nat)), some (.int c)] ∧ SqL K H a (ns.map V.int) ∧ ns.length ≤ 63 ∧ k ≤ 1000 ∧ D.nx [some (.ref a), some (.int (k : Nat)), some (.int (if 0 < ns.length then c + ns.getD (k % ns.length) 0 / (1 + ((k / ns.length : Nat) : Int)) else c))] H)) (ps_if (pt_cmpR op_gt (pe_callB call_len_seq (by rfl) tt.b_len PySem.boot_len (pa_cons (pv 0) pa_nil)) pe_int (nomark _)) (pss_one (ps_set (i := 2) sc__law_number.nd rfl (Or.inl rfl) (pe_op op_add (pv 2) (pe_op op_fdiv (pe_ix ix_list (pv 0) (pe_op op_mod (pv 1) (pe_callB call_len_seq (by rfl) tt.b_len PySem.boot_len (pa_cons (pv 0) pa_nil))) (fun _ _ => rfl)) (pe_op op_add pe_int (pe_op op_fdiv (pv 1) (pe_callB call_len_seq (by rfl) tt.b_len PySem.boot_len (pa_cons (pv 0) pa_nil)))))))) pss_nil) ?rA)
      (pss_cons (ps_if (pt_cmpR op_eq_I (pe_op op_mod (pv 2) pe_int) pe_int (nomark _)) (pss_one (ps_ret (pe_op op_sub (pe_op op_mod (pe_op op_fdiv (pv 2) pe_int) (pe_op op_add (pe_op op_mul pe_int (pe_op op_pow pe_int pe_int)) pe_int)) (pe_op op_pow pe_int pe_int)))) pss_nil)
      (pss_one (ps_ret (pe_op op_sub (pe_op op_mod (pe_op op_fdiv (pv 2) pe_int) pe_int) pe_int)))))), ?_⟩
    case rA =>
      rintro D σ H ⟨a, ns, k, c, rfl, hS, hl, hk, nxt⟩
      refine ⟨_, rfl, a, _, rfl, .inl hS, _, _, rfl, rfl, _, rfl, ?_⟩
      rw [List.length_map]
      by_cases h1 : 0 < ns.length
      · rw [if_pos h1] at nxt
        refine itP (decide_eq_true (by omega)) ?_
        have hm := Nat.mod_lt k h1
        have hd := Nat.div_le_self k ns.length
        refine ⟨_, rfl, _, rfl, _, rfl, _, rfl, a, _, rfl, .inl hS, _, _, rfl, rfl, (by show (0 : Int) < (((ns.map V.int).length : Nat) : Int); rw [List.length_map]; omega), a, _, _, _, rfl, rfl, hS, (by
          show atI (ns.map V.int) (((k : Nat) : Int) % (((ns.map V.int).length : Nat) : Int)) = some (V.int (ns.getD (k % ns.length) 0))
          rw [List.length_map, show ((k : Nat) : Int) % ((ns.length : Nat) : Int) = ((k % ns.length : Nat) : Int) from rfl]
          exact atI_nat (int_at0 (by omega))), _, rfl, _, rfl, a, _, rfl, .inl hS, _, _, rfl, rfl, ⟨(by show (0 : Int) < (((ns.map V.int).length : Nat) : Int); rw [List.length_map]; omega), (by show (((ns.map V.int).length : Nat) : Int) < (1073741824 : Int); rw [List.length_map]; omega)⟩, _, _, rfl, rfl, _, _, rfl, rfl, ?_, _, _, rfl, rfl, ?_⟩
        · show CDiv _ (1 + ((k : Nat) : Int) / (((ns.map V.int).length : Nat) : Int))
          rw [List.length_map, show ((k : Nat) : Int) / ((ns.length : Nat) : Int) = ((k / ns.length : Nat) : Int) from rfl]
          generalize k / ns.length = dd at hd
          exact ⟨by omega, by omega⟩
        · rw [show ((k / ns.length : Nat) : Int) = ((k : Nat) : Int) / (((ns.map V.int).length : Nat) : Int) by rw [List.length_map]; rfl] at nxt
          exact nxt
      · rw [if_neg h1] at nxt
        refine itN (fun z => h1 (by have := of_decide_eq_true z; omega)) ?_
        exact nxt
    refine ⟨_, rfl, _, _, rfl, rfl, .inl ⟨by decide, by decide⟩, _, rfl, _, _, rfl, rfl, .inr ⟨by omega, by omega⟩, _, rfl, _, _, rfl, rfl, .inl ⟨by decide, by decide⟩, _, _, rfl, rfl, ?_⟩
    refine ⟨a, ns, k, _, rfl, hS, hl, hk, ?_⟩
    unfold numF at q
    have e0 : (if 0 < ns.length then 11 * (k : Int) * k + 3 * k + ns.getD (k % ns.length) 0 / (1 + ((k / ns.length : Nat) : Int)) else 11 * (k : Int) * k + 3 * k) = numC ns k := rfl
    rw [e0]
    generalize numC ns k = c at q
    refine ⟨_, rfl, _, _, rfl, rfl, (by show (0 : Int) < 5; decide), _, rfl, _, rfl, _, rfl, ?_⟩
    by_cases h4 : c % 5 = 4
    · rw [if_pos h4] at q
      refine itP (decide_eq_true h4) ?_
      exact ⟨_, rfl, _, _, rfl, rfl, ⟨by decide, by decide⟩, _, _, rfl, rfl, ⟨by decide, by decide, by decide⟩, _, _, rfl, rfl, .inl ⟨by decide, by decide⟩, _, _, rfl, rfl, _, _, rfl, rfl, (by show (0 : Int) < 2 * 10 ^ (12 : Int).toNat + 1; decide), _, _, rfl, rfl, ⟨by decide, by decide, by decide⟩, _, _, rfl, rfl, q⟩
    · rw [if_neg h4] at q
      refine itN (fun z => h4 (of_decide_eq_true z)) ?_
      exact ⟨_, rfl, _, _, rfl, rfl, ⟨by decide, by decide⟩, _, _, rfl, rfl, (by show (0 : Int) < 13; decide), _, _, rfl, rfl, q⟩

noncomputable def oneR (ns : List Int) (n i : Nat) : List Int := (List.range n).map fun j => if j < i then numF ns (i * 14 + j) else if i = j then 1 else 0
noncomputable def othR (ns : List Int) (n i : Nat) : List Int := (List.range n).map fun j => if i ≤ j then numF ns (200 + i * 14 + j) else 0
noncomputable def oneM (ns : List Int) (n : Nat) : List (List Int) := (List.range n).map (oneR ns n)
noncomputable def othM (ns : List Int) (n : Nat) : List (List Int) := (List.range n).map (othR ns n)
noncomputable def Raw2 (G : Hp) (E F : Addr) (as : List Addr) (M : List (List Int)) : Prop := as.length = M.length ∧ ∀ (i : Nat) (a : Addr) (r : List Int), as[i]? = some a → M[i]? = some r → (a ≠ E ∧ a ≠ F) ∧ G a = some (.lst (r.map V.int))
theorem Raw2.on {G G' : Hp} {E F : Addr} {as : List Addr} {M : List (List Int)} (h : Raw2 G E F as M) (k : ∀ b o, b ≠ E → b ≠ F → G b = some o → G' b = some o) : Raw2 G' E F as M := ⟨h.1, fun i a r e1 e2 => ⟨(h.2 i a r e1 e2).1, k a _ (h.2 i a r e1 e2).1.1 (h.2 i a r e1 e2).1.2 (h.2 i a r e1 e2).2⟩⟩
theorem Raw2.rows {K : PySem.W.Frag} {G : Hp} {E F : Addr} {as : List Addr} {M : List (List Int)} (h : Raw2 G E F as M) : RowsAt K G as M := ⟨h.1, fun i a r e1 e2 => SqL.of (h.2 i a r e1 e2).2⟩
theorem Raw2.more {G : Hp} {E F c : Addr} {as : List Addr} {M : List (List Int)} {r : List Int} (h : Raw2 G E F as M) (hc : c ≠ E ∧ c ≠ F) (he : G c = some (.lst (r.map V.int))) : Raw2 G E F (as ++ [c]) (M ++ [r]) := by
  refine ⟨by rw [List.length_append, List.length_append, h.1]; rfl, fun i a vs e1 e2 => ?_⟩
  by_cases q : i < as.length
  · rw [List.getElem?_append_left q] at e1
    rw [List.getElem?_append_left (by rw [← h.1]; exact q)] at e2
    exact h.2 i a vs e1 e2
  · have hi : i = as.length := by
      have := (List.getElem?_eq_some_iff.mp e1).1
      rw [List.length_append, List.length_singleton] at this
      omega
    subst hi
    rw [List.getElem?_append_right (Nat.le_refl _), Nat.sub_self] at e1
    rw [h.1, List.getElem?_append_right (Nat.le_refl _), Nat.sub_self] at e2
    obtain rfl : c = a := Option.some.inj e1
    obtain rfl : r = vs := Option.some.inj e2
    exact ⟨hc, he⟩
noncomputable def spPair (K : PySem.W.Frag) : Sp := fun vs H Q _ => ∃ (a : Addr) (ns : List Int) (n : Nat), vs = [.ref a, .int (n : Nat)] ∧ SqL K H a (ns.map V.int) ∧ ns.length ≤ 63 ∧ n ≤ 14 ∧ ∀ (D E F : Addr) (as bs : List Addr) (H' : Hp), Same H H' → H' D = some (.tup [.ref E, .ref F]) → H' E = some (.lst (as.map V.ref)) → H' F = some (.lst (bs.map V.ref)) → RowsAt K H' as (oneM ns n) → RowsAt K H' bs (othM ns n) → Q (.ref D) H'
theorem ok__law_pair {f : Addr} {fd : FuncData} (F : Fun K "_law_pair" "_law_pair" s__law_pair f fd) (tt : Txt K mg ad) (C__law_number : Cal P w K mg base (CX1 P w) "_law_number" 1 ["script", "k"] (spNum K)) : FnOk P w K mg base (CX1 P w) 2 f fd ["script", "many"] (spPair K) := by
  refine F.okN sc__law_pair (fun vs H Q E h => ?_) (fun cdv A outer s H vs Q E hr h => ?_)
  · obtain ⟨a, ns, n, rfl, _⟩ := h
    rfl
  · obtain ⟨a, ns, n, rfl, hS, hlen, hn, q⟩ := h
    have hs : sizeLine = 16777216 := sizeLine_eq
    refine ⟨_, (pss_cons (ps_set (i := 2) sc__law_pair.nd rfl (Or.inl rfl) (pe_lst pa_nil))
      (pss_cons (ps_set (i := 3) sc__law_pair.nd rfl (Or.inl rfl) (pe_lst pa_nil))
      (pss_cons (ps_for PassesOwn.never rfl (pi_range1 (by rfl) tt.b_range (pa_cons (pv 1) pa_nil)) (pg_name (i := 4) sc__law_pair.nd rfl (Or.inr rfl)) (pss_cons (ps_expr (pe_bm PySem.F.plainAttrs_list PySem.F.slot_list_append PySem.F.type_list_append mt_append (pv 2) (pa_cons (pe_comp cs__law_pair_0 rfl (pi_range1 (by rfl) tt.b_range (pa_cons (pv 1) pa_nil)) (fun cl C s' H' fp => (pe_ifExp (pt_cmpR op_lt (pv 0) (pv 5) (nomark _)) (pe_cal C__law_number hr pass1 (pa_cons (pv 1) (pa_cons (pe_op op_add (pe_op op_mul (pv 5) pe_int) (pv 0)) pa_nil))) (pe_callTy call_intB (by rfl) tt.b_int (by decide +kernel) (pa_cons (pe_cmpR op_eq_I (pv 5) (pv 0) (nomark _)) pa_nil))))) pa_nil)))
      (pss_one (ps_expr (pe_bm PySem.F.plainAttrs_list PySem.F.slot_list_append PySem.F.type_list_append mt_append (pv 3) (pa_cons (pe_comp cs__law_pair_1 rfl (pi_range1 (by rfl) tt.b_range (pa_cons (pv 1) pa_nil)) (fun cl C s' H' fp => (pe_ifExp (pt_cmpR op_ge (pv 0) (pv 5) (nomark _)) (pe_cal C__law_number hr pass1 (pa_cons (pv 1) (pa_cons (pe_op op_add (pe_op op_add pe_int (pe_op op_mul (pv 5) pe_int)) (pv 0)) pa_nil))) pe_int))) pa_nil))))))
      (pss_one (ps_ret (pe_tup (pa_cons (pv 2) (pa_cons (pv 3) pa_nil)))))))), ?_⟩
    refine ⟨(by show 0 ≤ sizeLine; omega), fun E hE => ?_⟩
    have tE := same_upd (o := .lst []) hE
    refine ⟨(by show 0 ≤ sizeLine; omega), fun F hF => ?_⟩
    have tF := same_upd (o := .lst []) hF
    have hEF : E ≠ F := fun z => by rw [← z, upd_same] at hF; cases hF
    have hHF : H F = none := by
      cases e : H F with
      | none => rfl
      | some o => have := tE F o e; rw [hF] at this; cases this
    refine ⟨_, rfl, _, rfl, by omega, by omega, ?_⟩
    rw [Int.toNat_natCast]
    refine for_range (fun i σ G => (∀ b o, b ≠ E → b ≠ F → H b = some o → G b = some o) ∧ ∃ (as bs : List Addr) (v4 : Option V), G E = some (.lst (as.map V.ref)) ∧ G F = some (.lst (bs.map V.ref)) ∧ Raw2 G E F as ((List.range i).map (oneR ns n)) ∧ Raw2 G E F bs ((List.range i).map (othR ns n)) ∧ σ = [some (.ref a), some (.int (n : Nat)), some (.ref E), some (.ref F), v4])
      ⟨fun b o _ _ e => (tE.trans tF) b o e, [], [], none, tF E _ upd_same, upd_same, ⟨rfl, fun i a r e => by simp at e⟩, ⟨rfl, fun i a r e => by simp at e⟩, rfl⟩ ?_ ?_
    · rintro i σ G hi ⟨kG, as, bs, v4, hGE, hGF, hR1, hR2, rfl⟩
      have hS1 : ∀ {G' : Hp}, (∀ b o, b ≠ E → b ≠ F → G b = some o → G' b = some o) → SqL K G' a (ns.map V.int) := fun {G'} k => SqL.keepTwo hS fun o e => k a o (fun z => by rw [z, hE] at e; cases e) (fun z => by rw [z, hHF] at e; cases e) (kG a o (fun z => by rw [z, hE] at e; cases e) (fun z => by rw [z, hHF] at e; cases e) e)
      have ha1 := hR1.1
      have ha2 := hR2.1
      rw [List.length_map, List.length_range] at ha1 ha2
      refine ⟨_, rfl, .inl ⟨rfl, _, SqL.of hGE⟩, _, rfl, _, rfl, by omega, by omega, ?_⟩
      rw [Int.toNat_natCast]
      refine comp_range (fun j => .int (if j < i then numF ns (i * 14 + j) else if i = j then 1 else 0)) (by omega) (fun j G' hj s' N hN => ?_) fun D1 G1 hD1 s1 hd1 => ?_
      · have hg := hN G' (Same.refl _)
        refine ⟨_, rfl, _, rfl, _, _, rfl, rfl, _, rfl, ?_⟩
        by_cases hji : j < i
        · rw [if_pos hji] at hg
          refine itP (decide_eq_true (by omega)) ?_
          refine ⟨_, rfl, _, rfl, _, _, rfl, rfl, .inr ⟨by decide, by decide⟩, _, rfl, _, _, rfl, rfl, a, ns, i * 14 + j, congrArg (fun z => [V.ref a, V.int z]) (by show (0 + (i : Int)) * 14 + (0 + (j : Int)) = _; omega), hS1 fun b o _ _ e => s' b o e, hlen, by omega, hg⟩
        · rw [if_neg hji] at hg
          refine itN (fun z => hji (by have := of_decide_eq_true z; omega)) ?_
          refine ⟨_, rfl, _, rfl, _, rfl, _, rfl, _, rfl, ?_⟩
          by_cases hij : i = j
          · rw [if_pos hij] at hg
            rw [decide_eq_true (show (0 + (i : Int)) = 0 + (j : Int) by omega)]
            exact hg
          · rw [if_neg hij] at hg
            rw [decide_eq_false (show ¬ (0 + (i : Int)) = 0 + (j : Int) by omega)]
            exact hg
      have hd1 : G1 D1 = some (.lst ((oneR ns n i).map V.int)) := by rw [hd1]; unfold oneR; rw [List.map_map]; rfl
      have hD1E : D1 ≠ E := fun z => by rw [z, hGE] at hD1; cases hD1
      have hD1F : D1 ≠ F := fun z => by rw [z, hGF] at hD1; cases hD1
      refine ⟨E, _, _, rfl, rfl, s1 E _ hGE, (by rw [List.length_map]; omega), ?_⟩
      generalize hG2 : upd G1 E (.lst (as.map V.ref ++ [.ref D1])) = G2
      have hE2 : G2 E = some (.lst ((as ++ [D1]).map V.ref)) := by rw [← hG2, upd_same, List.map_append]; rfl
      have k2 : ∀ b o, b ≠ E → G b = some o → G2 b = some o := fun b o hb e => by rw [← hG2, upd_ne hb]; exact s1 b o e
      have hF2 := k2 F _ (fun z => hEF z.symm) hGF
      have hd2 : G2 D1 = some (.lst ((oneR ns n i).map V.int)) := by rw [← hG2, upd_ne hD1E]; exact hd1
      refine ⟨_, rfl, .inl ⟨rfl, _, SqL.of hF2⟩, _, rfl, _, rfl, by omega, by omega, ?_⟩
      rw [Int.toNat_natCast]
      refine comp_range (fun j => .int (if i ≤ j then numF ns (200 + i * 14 + j) else 0)) (by omega) (fun j G' hj s' N hN => ?_) fun D3 G3 hD3 s3 hd3 => ?_
      · have hg := hN G' (Same.refl _)
        refine ⟨_, rfl, _, rfl, _, _, rfl, rfl, _, rfl, ?_⟩
        by_cases hji : i ≤ j
        · rw [if_pos hji] at hg
          refine itP (decide_eq_true (by omega)) ?_
          refine ⟨_, rfl, _, rfl, _, _, rfl, rfl, .inr ⟨by decide, by decide⟩, _, _, rfl, rfl, _, rfl, _, _, rfl, rfl, a, ns, 200 + i * 14 + j, congrArg (fun z => [V.ref a, V.int z]) (by show 200 + (0 + (i : Int)) * 14 + (0 + (j : Int)) = _; omega), hS1 fun b o hb _ e => s' b o (k2 b o hb e), hlen, by omega, hg⟩
        · rw [if_neg hji] at hg
          refine itN (fun z => hji (by have := of_decide_eq_true z; omega)) ?_
          exact hg
      have hd3 : G3 D3 = some (.lst ((othR ns n i).map V.int)) := by rw [hd3]; unfold othR; rw [List.map_map]; rfl
      have hD3E : D3 ≠ E := fun z => by rw [z, hE2] at hD3; cases hD3
      have hD3F : D3 ≠ F := fun z => by rw [z, hF2] at hD3; cases hD3
      refine ⟨F, _, _, rfl, rfl, s3 F _ hF2, (by rw [List.length_map]; omega), ?_⟩
      have k4 : ∀ b o, b ≠ F → G2 b = some o → upd G3 F (.lst (bs.map V.ref ++ [.ref D3])) b = some o := fun b o hb e => by rw [upd_ne hb]; exact s3 b o e
      refine ⟨fun b o h1 h2 e => k4 b o h2 (k2 b o h1 (kG b o h1 h2 e)), as ++ [D1], bs ++ [D3], _, k4 E _ hEF hE2, by rw [upd_same, List.map_append]; rfl, ?_, ?_, rfl⟩
      · rw [List.range_succ, List.map_append]
        exact (hR1.on fun b o h1 h2 e => k4 b o h2 (k2 b o h1 e)).more ⟨hD1E, hD1F⟩ (k4 D1 _ hD1F hd2)
      · rw [List.range_succ, List.map_append]
        exact (hR2.on fun b o h1 h2 e => k4 b o h2 (k2 b o h1 e)).more ⟨hD3E, hD3F⟩ (by rw [upd_ne hD3F]; exact hd3)
    · rintro σ G ⟨kG, as, bs, v4, hGE, hGF, hR1, hR2, rfl⟩
      refine ⟨_, rfl, _, rfl, (by show 2 ≤ sizeLine; omega), fun D hD => ?_⟩
      have tD := same_upd (o := .tup [.ref E, .ref F]) hD
      exact q D E F as bs _ (fun b o e => tD b o (kG b o (fun z => by rw [z, hE] at e; cases e) (fun z => by rw [z, hHF] at e; cases e) e)) upd_same (tD E _ hGE) (tD F _ hGF) (hR1.rows.on tD) (hR2.rows.on tD)
noncomputable def RawAt (G : Hp) (D : Addr) (as : List Addr) (M : List (List Int)) : Prop := as.length = M.length ∧ ∀ (i : Nat) (a : Addr) (r : List Int), as[i]? = some a → M[i]? = some r → a ≠ D ∧ G a = some (.lst (r.map V.int))
theorem RawAt.on {G G' : Hp} {D : Addr} {as : List Addr} {M : List (List Int)} (h : RawAt G D as M) (k : ∀ b o, b ≠ D → G b = some o → G' b = some o) : RawAt G' D as M := ⟨h.1, fun i a r e1 e2 => ⟨(h.2 i a r e1 e2).1, k a _ (h.2 i a r e1 e2).1 (h.2 i a r e1 e2).2⟩⟩
theorem RawAt.rows {K : PySem.W.Frag} {G : Hp} {D : Addr} {as : List Addr} {M : List (List Int)} (h : RawAt G D as M) : RowsAt K G as M := ⟨h.1, fun i a r e1 e2 => SqL.of (h.2 i a r e1 e2).2⟩
theorem RawAt.more {G : Hp} {D c : Addr} {as : List Addr} {M : List (List Int)} {r : List Int} (h : RawAt G D as M) (hc : c ≠ D) (he : G c = some (.lst (r.map V.int))) : RawAt G D (as ++ [c]) (M ++ [r]) := by
  refine ⟨by rw [List.length_append, List.length_append, h.1]; rfl, fun i a vs e1 e2 => ?_⟩
  by_cases q : i < as.length
  · rw [List.getElem?_append_left q] at e1
    rw [List.getElem?_append_left (by rw [← h.1]; exact q)] at e2
    exact h.2 i a vs e1 e2
  · have hi : i = as.length := by
      have := (List.getElem?_eq_some_iff.mp e1).1
      rw [List.length_append, List.length_singleton] at this
      omega
    subst hi
    rw [List.getElem?_append_right (Nat.le_refl _), Nat.sub_self] at e1
    rw [h.1, List.getElem?_append_right (Nat.le_refl _), Nat.sub_self] at e2
    obtain rfl : c = a := Option.some.inj e1
    obtain rfl : r = vs := Option.some.inj e2
    exact ⟨hc, he⟩

set_option genInjectivity false in
structure Sm (M : List (List Int)) (n c : Nat) : Prop where
  len : M.length = n
  row : ∀ r ∈ M, r.length = n
  le : ∀ r ∈ M, ∀ x ∈ r, x.natAbs ≤ c
theorem range_get {α : Type} {n i : Nat} (g : Nat → α) (h : i < n) : ((List.range n).map g)[i]? = some (g i) := by
  rw [List.getElem?_map, List.getElem?_eq_getElem (by rw [List.length_range]; exact h), List.getElem_range]
  rfl
theorem range_getD {n i : Nat} (g : Nat → Int) (h : i < n) : ((List.range n).map g).getD i 0 = g i := by
  rw [List.getD_eq_getElem?_getD, range_get g h]
  rfl
theorem range_row {n i : Nat} (g : Nat → List Int) (h : i < n) : ((List.range n).map g).getD i [] = g i := by
  rw [List.getD_eq_getElem?_getD, range_get g h]
  rfl
theorem sum_range (f : Nat → Int) : ∀ n : Nat, ((List.range n).map f).sum = Dt.sumN n f
  | 0 => rfl
  | n + 1 => by
    rw [List.range_succ, List.map_append, List.sum_append, sum_range f n]
    show _ + (f n + 0) = _ + f n
    omega
theorem Sm.at {M : List (List Int)} {n c i : Nat} (h : Sm M n c) (hi : i < n) : ∃ r, M[i]? = some r ∧ r.length = n ∧ (∀ x ∈ r, x.natAbs ≤ c) ∧ ∀ k, Dt.ent M i k = r.getD k 0 := by
  have hl := h.len
  have e : M[i]? = some (M[i]'(by omega)) := List.getElem?_eq_getElem (by omega)
  refine ⟨_, e, h.row _ (List.mem_of_getElem? e), h.le _ (List.mem_of_getElem? e), fun k => ?_⟩
  unfold Dt.ent
  rw [List.getD_eq_getElem?_getD (l := M), e]
  rfl
theorem Sm.le2 {M : List (List Int)} {n c i k : Nat} (h : Sm M n c) (hi : i < n) (hk : k < n) : (Dt.ent M i k).natAbs ≤ c := by
  obtain ⟨r, _, h2, h3, h4⟩ := h.at hi
  rw [h4]
  exact h3 _ (getD_mem (by omega))
noncomputable def prodR (A B : Dt.Mx) (n i : Nat) : List Int := (List.range n).map fun j => Dt.sumN n fun k => A i k * B k j
noncomputable def prodM (A B : Dt.Mx) (n : Nat) : List (List Int) := (List.range n).map (prodR A B n)
noncomputable def spProd (K : PySem.W.Frag) : Sp := fun vs H Q _ => ∃ (a b : Addr) (as bs : List Addr) (M N : List (List Int)) (n : Nat), vs = [.ref a, .ref b] ∧ SqL K H a (as.map V.ref) ∧ SqL K H b (bs.map V.ref) ∧ RowsAt K H as M ∧ RowsAt K H bs N ∧ Sm M n (10 ^ 12) ∧ Sm N n (10 ^ 12) ∧ n ≤ 14 ∧ ∀ (D : Addr) (cs : List Addr) (H' : Hp), Same H H' → H' D = some (.lst (cs.map V.ref)) → RowsAt K H' cs (prodM (Dt.ent M) (Dt.ent N) n) → (∀ b ∈ cs, ∃ o, H' b = some o) → Q (.ref D) H'
theorem ok__law_product {f : Addr} {fd : FuncData} (F : Fun K "_law_product" "_law_product" s__law_product f fd) (tt : Txt K mg ad) : FnOk P w K mg base (CX1 P w) 1 f fd ["one", "other"] (spProd K) := by
  refine F.okN sc__law_product (fun vs H Q E h => ?_) (fun cdv A outer s H vs Q E hr h => ?_)
  · obtain ⟨a, b, as, bs, M, N, n, rfl, _⟩ := h
    rfl
  · obtain ⟨a, b, as, bs, M, N, n, rfl, hA, hB, hR, hT, sM, sN, hn, q⟩ := h
    have hs : sizeLine = 16777216 := sizeLine_eq
    have hal := hR.1
    have hbl := hT.1
    have hMl := sM.len
    have hNl := sN.len
    have hL : (as.map V.ref).length = n := by rw [List.length_map]; omega
    refine ⟨_, (pss_cons (ps_set (i := 2) sc__law_product.nd rfl (Or.inr rfl) (pe_callB call_len_seq (by rfl) tt.b_len PySem.boot_len (pa_cons (pv 0) pa_nil)))
      (pss_cons (ps_set (i := 3) sc__law_product.nd rfl (Or.inl rfl) (pe_lst pa_nil))
      (pss_cons (ps_for PassesOwn.never rfl (pi_range1 (by rfl) tt.b_range (pa_cons (pv 2) pa_nil)) (pg_name (i := 4) sc__law_product.nd rfl (Or.inr rfl)) (pss_one (ps_expr (pe_bm PySem.F.plainAttrs_list PySem.F.slot_list_append PySem.F.type_list_append mt_append (pv 3) (pa_cons (pe_compC cs__law_product_0 rfl (pi_range1 (by rfl) tt.b_range (pa_cons (pv 2) pa_nil)) (fun cl C s' H' fp => (pe_callB (call_sumXK K rfl rfl) (by rfl) tt.b_sum PyProof.Rows.boot_sum (pa_cons (pe_comp cs__law_product_1 rfl (pi_range1 (by rfl) tt.b_range (pa_cons (pv 3) pa_nil)) (fun cl C s' H' fp => (pe_op op_mul (pe_ix (ix_list_K K rfl) (pe_ix (ix_list_K K rfl) (pv 2) (pv 6) (fun _ _ => rfl)) (pv 0) (fun _ _ => rfl)) (pe_ix (ix_list_K K rfl) (pe_ix (ix_list_K K rfl) (pv 3) (pv 0) (fun _ _ => rfl)) (pv 1) (fun _ _ => rfl))))) pa_nil)))) pa_nil)))))
      (pss_one (ps_ret (pv 3)))))), ?_⟩
    refine ⟨_, rfl, a, _, rfl, .inl hA, ?_⟩
    rw [hL]
    refine ⟨(by show 0 ≤ sizeLine; omega), fun D hD => ?_⟩
    have tD := same_upd (o := .lst []) hD
    refine ⟨_, rfl, _, rfl, by omega, by omega, ?_⟩
    rw [Int.toNat_natCast]
    refine for_range (fun i σ G => (∀ b o, b ≠ D → H b = some o → G b = some o) ∧ ∃ (cs : List Addr) (v4 : Option V), G D = some (.lst (cs.map V.ref)) ∧ RawAt G D cs ((List.range i).map (prodR (Dt.ent M) (Dt.ent N) n)) ∧ σ = [some (.ref a), some (.ref b), some (.int (n : Nat)), some (.ref D), v4])
      ⟨fun b o _ e => tD b o e, [], none, upd_same, ⟨rfl, fun i a r e => by simp at e⟩, rfl⟩ ?_ ?_
    · rintro i σ G hi ⟨kG, cs, v4, hG, hC, rfl⟩
      have sG : Same H G := fun b o e => kG b o (fun z => by rw [z, hD] at e; cases e) e
      have hcl := hC.1
      rw [List.length_map, List.length_range] at hcl
      refine ⟨_, rfl, .inl ⟨rfl, _, SqL.of hG⟩, _, rfl, _, rfl, by omega, by omega, ?_⟩
      rw [Int.toNat_natCast]
      refine comp_range (fun j => .int (Dt.sumN n fun k => Dt.ent M i k * Dt.ent N k j)) (by omega) (fun j G' hj s' Nx hN => ?_) fun D1 G1 hD1 s1 hd1 => ?_
      · refine ⟨_, rfl, _, rfl, by omega, by omega, ?_⟩
        rw [Int.toNat_natCast]
        refine comp_range (fun k => .int (Dt.ent M i k * Dt.ent N k j)) (by omega) (fun k G2 hk s2 N2 hN2 => ?_) fun D2 G2 hD2 s2 hd2 => ?_
        · have sG2 := sG.trans (s'.trans s2)
          obtain ⟨r1, e1, l1, b1, x1⟩ := sM.at hi
          obtain ⟨r2, e2, l2, b2, x2⟩ := sN.at hk
          obtain ⟨a1, f1⟩ : ∃ a1, as[i]? = some a1 := ⟨_, List.getElem?_eq_getElem (by omega)⟩
          obtain ⟨a2, f2⟩ : ∃ a2, bs[k]? = some a2 := ⟨_, List.getElem?_eq_getElem (by omega)⟩
          have g := hN2 G2 (Same.refl _)
          have hb := b1 _ (getD_mem (ns := r1) (j := k) (by omega))
          rw [x1, x2] at g
          have i1 : atI (as.map V.ref) (0 + (i : Int)) = some (.ref a1) := by rw [Int.zero_add]; exact atI_nat (by rw [List.getElem?_map, f1]; rfl)
          have i2 : atI (r1.map V.int) (0 + (k : Int)) = some (.int (r1.getD k 0)) := by rw [Int.zero_add]; exact atI_nat (int_at0 (by omega))
          have i3 : atI (bs.map V.ref) (0 + (k : Int)) = some (.ref a2) := by rw [Int.zero_add]; exact atI_nat (by rw [List.getElem?_map, f2]; rfl)
          have i4 : atI (r2.map V.int) (0 + (j : Int)) = some (.int (r2.getD j 0)) := by rw [Int.zero_add]; exact atI_nat (int_at0 (by omega))
          have e12 : (10 : Nat) ^ 12 = 1000000000000 := by decide
          rw [e12] at hb
          exact ⟨_, rfl, _, rfl, a, _, _, _, rfl, rfl, sG2.seq hA, i1, _, rfl, a1, _, _, _, rfl, rfl, sG2.seq (hR.2 i a1 r1 f1 e1), i2, _, rfl, _, rfl, b, _, _, _, rfl, rfl, sG2.seq hB, i3, _, rfl, a2, _, _, _, rfl, rfl, sG2.seq (hT.2 k a2 r2 f2 e2), i4, _, _, rfl, rfl, .inl ⟨by omega, by omega⟩, g⟩
        · have hd2 : G2 D2 = some (.lst (((List.range n).map fun k => Dt.ent M i k * Dt.ent N k j).map V.int)) := by rw [hd2, List.map_map]; rfl
          refine ⟨D2, _, rfl, SqL.of hd2, ?_⟩
          rw [sum_range]
          exact hN G2 s2
      have hd1 : G1 D1 = some (.lst ((prodR (Dt.ent M) (Dt.ent N) n i).map V.int)) := by rw [hd1]; unfold prodR; rw [List.map_map]; rfl
      have hD1D : D1 ≠ D := fun z => by rw [z, hG] at hD1; cases hD1
      refine ⟨D, _, _, rfl, rfl, s1 D _ hG, (by rw [List.length_map]; omega), ?_⟩
      have k2 : ∀ b o, b ≠ D → G b = some o → upd G1 D (.lst (cs.map V.ref ++ [.ref D1])) b = some o := fun b o hb e => by rw [upd_ne hb]; exact s1 b o e
      refine ⟨fun b o hb e => k2 b o hb (kG b o hb e), cs ++ [D1], _, by rw [upd_same, List.map_append]; rfl, ?_, rfl⟩
      rw [List.range_succ, List.map_append]
      exact (hC.on k2).more hD1D (by rw [upd_ne hD1D]; exact hd1)
    · rintro σ G ⟨kG, cs, v4, hG, hC, rfl⟩
      exact ⟨_, rfl, q D cs G (fun b o e => kG b o (fun z => by rw [z, hD] at e; cases e) e) hG hC.rows fun b hb => by
        obtain ⟨i, hi⟩ := List.getElem?_of_mem hb
        have hil := (List.getElem?_eq_some_iff.mp hi).1
        exact ⟨_, (hC.2 i b _ hi (List.getElem?_eq_getElem (by rw [← hC.1]; exact hil))).2⟩⟩
theorem sN_c {f : Nat → Nat} {c : Nat} : ∀ {n : Nat}, (∀ k, k < n → f k ≤ c) → Dt.sN n f ≤ n * c
  | 0, _ => Nat.zero_le _
  | n + 1, h => by
    show Dt.sN n f + f n ≤ (n + 1) * c
    rw [Nat.add_mul, Nat.one_mul]
    exact Nat.add_le_add (sN_c fun k hk => h k (by omega)) (h n (by omega))

theorem one_at {ns : List Int} {n i k : Nat} (hi : i < n) (hk : k < n) : Dt.ent (oneM ns n) i k = if k < i then numF ns (i * 14 + k) else if i = k then 1 else 0 := by
  unfold Dt.ent oneM
  rw [range_row _ hi]
  exact range_getD _ hk
theorem oth_at {ns : List Int} {n i k : Nat} (hi : i < n) (hk : k < n) : Dt.ent (othM ns n) i k = if i ≤ k then numF ns (200 + i * 14 + k) else 0 := by
  unfold Dt.ent othM
  rw [range_row _ hi]
  exact range_getD _ hk
theorem one_sm (ns : List Int) (n : Nat) : Sm (oneM ns n) n (10 ^ 12) := by
  refine ⟨by unfold oneM; rw [List.length_map, List.length_range], fun r hr => ?_, fun r hr x hx => ?_⟩
  · obtain ⟨i, _, rfl⟩ := List.mem_map.mp hr
    unfold oneR
    rw [List.length_map, List.length_range]
  · obtain ⟨i, _, rfl⟩ := List.mem_map.mp hr
    obtain ⟨j, _, rfl⟩ := List.mem_map.mp hx
    split
    · exact numF_le _ _
    · split <;> decide
theorem oth_sm (ns : List Int) (n : Nat) : Sm (othM ns n) n (10 ^ 12) := by
  refine ⟨by unfold othM; rw [List.length_map, List.length_range], fun r hr => ?_, fun r hr x hx => ?_⟩
  · obtain ⟨i, _, rfl⟩ := List.mem_map.mp hr
    unfold othR
    rw [List.length_map, List.length_range]
  · obtain ⟨i, _, rfl⟩ := List.mem_map.mp hr
    obtain ⟨j, _, rfl⟩ := List.mem_map.mp hx
    split
    · exact numF_le _ _
    · decide
theorem prod_at {A B : Dt.Mx} {n i j : Nat} (hi : i < n) (hj : j < n) : Dt.ent (prodM A B n) i j = Dt.sumN n fun k => A i k * B k j := by
  unfold Dt.ent prodM
  rw [range_row _ hi]
  exact range_getD _ hj
theorem sum_le {f : Nat → Int} {c : Nat} : ∀ {n : Nat}, (∀ k, k < n → (f k).natAbs ≤ c) → (Dt.sumN n f).natAbs ≤ n * c
  | 0, _ => Nat.zero_le _
  | n + 1, h => by
    have h1 := sum_le (n := n) fun k hk => h k (by omega)
    have h2 := h n (by omega)
    have h3 := Int.natAbs_add_le (Dt.sumN n f) (f n)
    show (Dt.sumN n f + f n).natAbs ≤ (n + 1) * c
    rw [Nat.add_mul, Nat.one_mul]
    omega
theorem prod_sm {M N : List (List Int)} {n : Nat} (hM : Sm M n (10 ^ 12)) (hN : Sm N n (10 ^ 12)) (hn : n ≤ 14) : Sm (prodM (Dt.ent M) (Dt.ent N) n) n (14 * 10 ^ 24) := by
  refine ⟨by unfold prodM; rw [List.length_map, List.length_range], fun r hr => ?_, fun r hr x hx => ?_⟩
  · obtain ⟨i, _, rfl⟩ := List.mem_map.mp hr
    unfold prodR
    rw [List.length_map, List.length_range]
  · obtain ⟨i, hi, rfl⟩ := List.mem_map.mp hr
    obtain ⟨j, hj, rfl⟩ := List.mem_map.mp hx
    have hi := List.mem_range.mp hi
    have hj := List.mem_range.mp hj
    refine Nat.le_trans (sum_le (c := 10 ^ 24) fun k hk => ?_) (Nat.mul_le_mul_right _ hn)
    rw [Int.natAbs_mul, show (10 : Nat) ^ 24 = 10 ^ 12 * 10 ^ 12 by decide]
    exact Nat.mul_le_mul (hM.le2 hi hk) (hN.le2 hk hj)
theorem sm_ok {M : List (List Int)} {n : Nat} (h : Sm M n (14 * 10 ^ 24)) (hn : n ≤ 14) : SqOk M n ∧ 2 * Dt.pL (M.map (Dt.rs n)) < Dt.md 7 := by
  have h1 : ∀ r ∈ M, Dt.rs n r ≤ 14 * (14 * 10 ^ 24) := fun r hrm => by
    refine Nat.le_trans (sN_c (c := 14 * 10 ^ 24) fun k hk => h.le r hrm _ (getD_mem (by rw [h.row r hrm]; exact hk))) ?_
    exact Nat.mul_le_mul_right _ hn
  refine ⟨⟨h.len, h.row, by omega, fun r hrm => Nat.le_trans (h1 r hrm) (by decide +kernel)⟩, ?_⟩
  have h2 := Dt.pL_le (R := 14 * (14 * 10 ^ 24)) (l := M.map (Dt.rs n)) fun x hx => by
    obtain ⟨r, hr, rfl⟩ := List.mem_map.mp hx
    exact h1 r hr
  rw [List.length_map, h.len] at h2
  have h3 : (14 * (14 * 10 ^ 24)) ^ n ≤ (14 * (14 * 10 ^ 24)) ^ 14 := Nat.pow_le_pow_right (by decide) hn
  have h4 : 2 * (14 * (14 * 10 ^ 24)) ^ 14 < Dt.md 7 := by decide +kernel
  omega
noncomputable def dueF (ns : List Int) (m : Nat) : Int := Dt.pI m fun k => numF ns (200 + k * 14 + k)
theorem det_sq (ns : List Int) (n : Nat) : Dt.det n (Dt.ent (prodM (Dt.ent (oneM ns n)) (Dt.ent (othM ns n)) n)) = dueF ns n := by
  rw [Dt.det_congr (B := fun i j => Dt.sumN n fun k => Dt.ent (oneM ns n) i k * Dt.ent (othM ns n) k j) fun i j hi hj => prod_at hi hj, Dt.det_prod (T := Dt.ent (oneM ns n)) fun i k h1 h2 => by rw [one_at (by omega) h2, if_neg (by omega), if_neg (by omega)], Dt.pI_one fun i hi => by rw [one_at hi hi, if_neg (by omega), if_pos rfl], Int.one_mul, Dt.det_upper fun i k h1 h2 => by rw [oth_at h2 (by omega), if_neg (by omega)]]
  exact Dt.pI_congr fun i hi => by rw [oth_at hi hi, if_pos (Nat.le_refl _)]
noncomputable def acrM (A : Dt.Mx) (n : Nat) : List (List Int) := (List.range n).map fun j => (List.range n).map fun i => A i j
theorem acr_at {A : Dt.Mx} {n i j : Nat} (hi : i < n) (hj : j < n) : Dt.ent (acrM A n) j i = A i j := by
  unfold Dt.ent acrM
  rw [range_row _ hj]
  exact range_getD _ hi
theorem det_acr (ns : List Int) (n : Nat) : Dt.det n (Dt.ent (acrM (Dt.ent (prodM (Dt.ent (oneM ns n)) (Dt.ent (othM ns n)) n)) n)) = dueF ns n := by
  rw [Dt.det_congr (B := fun j i => Dt.sumN n fun k => (fun j k => Dt.ent (othM ns n) k j) j k * (fun k i => Dt.ent (oneM ns n) i k) k i) fun j i hj hi => by
    rw [acr_at hi hj, prod_at hi hj]
    exact Dt.sum_congr fun k _ => Int.mul_comm .., Dt.det_prod (T := fun j k => Dt.ent (othM ns n) k j) (B := fun k i => Dt.ent (oneM ns n) i k) fun j k h1 h2 => by
    show Dt.ent (othM ns n) k j = 0
    rw [oth_at h2 (by omega), if_neg (by omega)], Dt.det_upper (U := fun k i => Dt.ent (oneM ns n) i k) fun k i h1 h2 => by
    show Dt.ent (oneM ns n) i k = 0
    rw [one_at (by omega) h2, if_neg (by omega), if_neg (by omega)], Dt.pI_one (f := fun i => Dt.ent (oneM ns n) i i) fun i hi => by rw [one_at hi hi, if_neg (by omega), if_pos rfl], Int.mul_one]
  exact Dt.pI_congr fun i hi => by rw [oth_at hi hi, if_pos (Nat.le_refl _)]
theorem acr_sm {M : List (List Int)} {n c : Nat} (h : Sm M n c) : Sm (acrM (Dt.ent M) n) n c := by
  refine ⟨by unfold acrM; rw [List.length_map, List.length_range], fun r hr => ?_, fun r hr x hx => ?_⟩
  · obtain ⟨i, _, rfl⟩ := List.mem_map.mp hr
    rw [List.length_map, List.length_range]
  · obtain ⟨j, hj, rfl⟩ := List.mem_map.mp hr
    obtain ⟨i, hi, rfl⟩ := List.mem_map.mp hx
    exact h.le2 (List.mem_range.mp hi) (List.mem_range.mp hj)
theorem due_le (ns : List Int) : ∀ m : Nat, (dueF ns m).natAbs ≤ 2 ^ (40 * m)
  | 0 => Nat.le_refl _
  | m + 1 => by
    show (dueF ns m * numF ns (200 + m * 14 + m)).natAbs ≤ 2 ^ (40 * (m + 1))
    rw [Int.natAbs_mul, Nat.mul_add, Nat.pow_add]
    exact Nat.mul_le_mul (due_le ns m) (Nat.le_trans (numF_le _ _) (by decide))
theorem set2_get {α : Type} {xs : List α} {n k t : Nat} {x y : α} (hl : xs.length = n) (hk : k < n) (ht : t < n) (hx : xs[k]? = some x) (hy : xs[t]? = some y) (i : Nat) : ((xs.set t x).set k y)[i]? = xs[if i = k then t else if i = t then k else i]? := by
  by_cases h1 : i = k
  · subst h1
    rw [if_pos rfl, List.getElem?_set_self (by rw [List.length_set]; omega), hy]
  · rw [if_neg h1, List.getElem?_set_ne (fun z => h1 z.symm)]
    by_cases h2 : i = t
    · subst h2
      rw [if_pos rfl, List.getElem?_set_self (by omega), hx]
    · rw [if_neg h2, List.getElem?_set_ne (fun z => h2 z.symm)]
theorem det_set2 {N : List (List Int)} {n k t : Nat} {x y : List Int} (hl : N.length = n) (hk : k < n) (ht : t < n) (hkt : k ≤ t) (hx : N[k]? = some x) (hy : N[t]? = some y) : Dt.det n (Dt.ent ((N.set t x).set k y)) = if t = k then Dt.det n (Dt.ent N) else 0 - Dt.det n (Dt.ent N) := by
  have e : ∀ i j, Dt.ent ((N.set t x).set k y) i j = Dt.ent N (if i = k then t else if i = t then k else i) j := fun i j => by
    unfold Dt.ent
    rw [List.getD_eq_getElem?_getD (l := (N.set t x).set k y), set2_get hl hk ht hx hy, ← List.getD_eq_getElem?_getD]
  by_cases h : t = k
  · rw [if_pos h]
    refine Dt.det_congr fun i j _ _ => ?_
    rw [e]
    congr 1
    split
    · omega
    · split <;> omega
  · rw [if_neg h, Int.zero_sub, ← Dt.swap2 (A := Dt.ent N) (p := k) (q := t) (by omega) ht]
    refine Dt.det_congr fun i j _ _ => ?_
    rw [e]
    unfold Dt.setR
    by_cases h2 : i = k
    · rw [if_pos h2, if_neg (show ¬ i = t by omega), if_pos h2]
    · rw [if_neg h2]
      by_cases h1 : i = t
      · rw [if_pos h1, if_pos h1]
      · rw [if_neg h1, if_neg h1, if_neg h2]
noncomputable def spLaw (K : PySem.W.Frag) : Sp := fun vs H Q _ => ∃ (a : Addr) (ns : List Int), vs = [.ref a] ∧ SqL K H a (ns.map V.int) ∧ ns.length ≤ 63 ∧ ∀ H', Q (.bl true) H'
theorem ok_law {f : Addr} {fd : FuncData} (F : Fun K "law" "law" s_law f fd) (tt : Txt K mg ad) (C__law_cell_at : Cal P w K mg base (CX1 P w) "_law_cell_at" 1 ["script", "k"] (spCell K)) (C__law_pair : Cal P w K mg base (CX1 P w) "_law_pair" 2 ["script", "many"] (spPair K)) (C__law_product : Cal P w K mg base (CX1 P w) "_law_product" 1 ["one", "other"] (spProd K)) (C_determinant : Cal P w K mg base (CX1 P w) "determinant" 3 ["square"] (spDet K)) (C__law_whole : Cal P w K mg base (CX1 P w) "_law_whole" 1 ["found", "due"] spWhole) :
    FnOk P w K mg base (CX1 P w) 4 f fd ["script"] (spLaw K) := by
  refine F.okN sc_law (fun vs H Q E h => ?_) (fun cdv A outer s H vs Q E hr h => ?_)
  · obtain ⟨a, ns, rfl, _⟩ := h
    rfl
  · obtain ⟨a, ns, rfl, hS, hlen, q⟩ := h
    have hs : sizeLine = 16777216 := sizeLine_eq
    refine ⟨_, (pss_cons (ps_set (i := 1) sc_law.nd rfl (Or.inr rfl) (pe_op op_mod (pe_cal C__law_cell_at hr pass1 (pa_cons (pv 0) (pa_cons pe_int pa_nil))) pe_int))
      (pss_cons (ps_asg (pe_cal C__law_pair hr pass1 (pa_cons (pv 0) (pa_cons (pv 1) pa_nil))) (pg_tup rfl (pgs_cons (pg_name (i := 2) sc_law.nd rfl (Or.inl rfl)) (pgs_cons (pg_name (i := 3) sc_law.nd rfl (Or.inl rfl)) pgs_nil))))
      (pss_cons (ps_set (i := 4) sc_law.nd rfl (Or.inr rfl) (pe_cal C__law_product hr pass1 (pa_cons (pv 2) (pa_cons (pv 3) pa_nil))))
      (pss_cons (ps_set (i := 5) sc_law.nd rfl (Or.inl rfl) pe_int)
      (pss_cons (ps_for PassesOwn.never rfl (pi_range1 (by rfl) tt.b_range (pa_cons (pv 1) pa_nil)) (pg_name (i := 6) sc_law.nd rfl (Or.inl rfl)) (pss_one (ps_set (i := 5) sc_law.nd rfl (Or.inl rfl) (pe_op op_mulB (pv 5) (pe_ix ix_list (pe_ix ix_list (pv 3) (pv 6) (fun _ _ => rfl)) (pv 6) (fun _ _ => rfl))))))
      (pss_cons (ps_if (pt_not (pt_val (pe_cal C__law_whole hr pass1 (pa_cons (pe_cal C_determinant hr pass1 (pa_cons (pv 4) pa_nil)) (pa_cons (pv 5) pa_nil))))) (pss_one (ps_ret pe_bl)) pss_nil)
      (pss_cons (ps_setCompC (i := 7) cs_law_0 rfl (pi_range1 (by rfl) tt.b_range (pa_cons (pv 1) pa_nil)) (fun cl C s' H' fp => (pe_comp cs_law_1 rfl (pi_range1 (by rfl) tt.b_range (pa_cons (pv 2) pa_nil)) (fun cl C s' H' fp => (pe_ix (ix_list_K K rfl) (pe_ix (ix_list_K K rfl) (pv 6) (pv 0) (fun _ _ => rfl)) (pv 1) (fun _ _ => rfl))))) sc_law.nd rfl rfl)
      (pss_cons (ps_if (pt_not (pt_val (pe_cal C__law_whole hr pass1 (pa_cons (pe_cal C_determinant hr pass1 (pa_cons (pv 7) pa_nil)) (pa_cons (pv 5) pa_nil))))) (pss_one (ps_ret pe_bl)) pss_nil)
      (pss_cons (ps_set (i := 8) sc_law.nd rfl (Or.inl rfl) (pe_callTy call_list_of (by rfl) tt.b_list (by decide +kernel) (pa_cons (pv 4) pa_nil)))
      (pss_cons (ps_for PassesOwn.never rfl (pi_range1 (by rfl) tt.b_range (pa_cons (pv 1) pa_nil)) (pg_name (i := 6) sc_law.nd rfl (Or.inl rfl)) (pss_cons (ps_set (i := 9) sc_law.nd rfl (Or.inl rfl) (pe_op op_add (pv 6) (pe_op op_mod (pe_cal C__law_cell_at hr pass1 (pa_cons (pv 0) (pa_cons (pv 6) pa_nil))) (pe_op op_sub (pv 1) (pv 6)))))
      (pss_cons (ps_wk (t' := (fun D σ H => ∃ (v0 v1 v2 v3 v4 : Option V) (due : Int) (k : Nat) (v7 v8 : Option V) (t : Nat) (v10 : Option V), σ = [v0, v1, v2, v3, v4, some (.int due), some (.int (0 + (k : Int))), v7, v8, some (.int (t : Nat)), v10] ∧ D.nx [v0, v1, v2, v3, v4, some (.int (if t = k then due else 0 - due)), some (.int (0 + (k : Int))), v7, v8, some (.int (t : Nat)), v10] H)) (ps_if (pt_cmpR op_ne_I (pv 9) (pv 6) (nomark _)) (pss_one (ps_set (i := 5) sc_law.nd rfl (Or.inl rfl) (pe_op op_sub pe_int (pv 5)))) pss_nil) ?rA)
      (pss_cons (ps_set (i := 10) sc_law.nd rfl (Or.inl rfl) (pe_ix ix_list (pv 8) (pv 9) (fun _ _ => rfl)))
      (pss_cons (ps_asg (pe_ix ix_list (pv 8) (pv 6) (fun _ _ => rfl)) (pg_sub (pv 8) (pv 9) set_list))
      (pss_one (ps_asg (pv 10) (pg_sub (pv 8) (pv 6) set_list))))))))
      (pss_one (ps_ret (pe_cal C__law_whole hr pass1 (pa_cons (pe_cal C_determinant hr pass1 (pa_cons (pv 8) pa_nil)) (pa_cons (pv 5) pa_nil))))))))))))))), ?_⟩
    case rA =>
      rintro D σ H ⟨v0, v1, v2, v3, v4, due, k, v7, v8, t, v10, rfl, nxt⟩
      refine ⟨_, rfl, _, rfl, _, rfl, _, rfl, _, rfl, ?_⟩
      by_cases h : t = k
      · rw [if_pos h] at nxt
        refine itN (by rw [decide_eq_true (show ((t : Nat) : Int) = 0 + (k : Int) by omega)]; exact Bool.false_ne_true) ?_
        exact nxt
      · rw [if_neg h] at nxt
        refine itP (by rw [decide_eq_false (show ¬ ((t : Nat) : Int) = 0 + (k : Int) by omega)]; rfl) ?_
        exact ⟨_, rfl, _, _, rfl, rfl, nxt⟩
    refine ⟨_, rfl, a, ns, 0, rfl, hS, _, _, rfl, rfl, (by show (0 : Int) < 15; decide), ?_⟩
    obtain ⟨n, hn0, hn⟩ : ∃ n : Nat, ns.getD 0 0 % 15 = (n : Int) ∧ n ≤ 14 := ⟨(ns.getD 0 0 % 15).toNat, by omega, by omega⟩
    dsimp only
    rw [hn0]
    refine ⟨_, rfl, _, rfl, a, ns, n, rfl, hS, hlen, hn, fun D0 E F as bs G0 s0 hd0 hdE hdF hRE hRF => ?_⟩
    refine ⟨D0, _, rfl, SqT.of hd0, rfl, _, _, rfl, _, _, rfl, rfl, ?_⟩
    refine ⟨_, rfl, _, rfl, E, F, as, bs, oneM ns n, othM ns n, n, rfl, SqL.of hdE, SqL.of hdF, hRE, hRF, one_sm ns n, oth_sm ns n, hn, fun D cs G1 s1 hd1 hR1 hcs => ?_⟩
    have hsm := prod_sm (one_sm ns n) (oth_sm ns n) hn
    have hdet := det_sq ns n
    have hacr := det_acr ns n
    generalize prodM (Dt.ent (oneM ns n)) (Dt.ent (othM ns n)) n = Pm at hR1 hsm hdet hacr
    have s01 := s0.trans s1
    refine ⟨_, rfl, _, rfl, by omega, by omega, ?_⟩
    rw [Int.toNat_natCast]
    refine for_range (fun i σ G => G = G1 ∧ ∃ v6 : Option V, σ = [some (.ref a), some (.int (n : Nat)), some (.ref E), some (.ref F), some (.ref D), some (.int (dueF ns i)), v6, none, none, none, none]) ⟨rfl, none, rfl⟩ ?_ ?_
    · rintro i σ G hi ⟨rfl, v6, rfl⟩
      obtain ⟨r2, e2, l2, b2, x2⟩ := (oth_sm ns n).at hi
      obtain ⟨a2, f2⟩ : ∃ a2, bs[i]? = some a2 := ⟨_, List.getElem?_eq_getElem (by rw [hRF.1, (oth_sm ns n).len]; exact hi)⟩
      have i3 : atI (bs.map V.ref) (0 + (i : Int)) = some (.ref a2) := by rw [Int.zero_add]; exact atI_nat (by rw [List.getElem?_map, f2]; rfl)
      have i4 : atI (r2.map V.int) (0 + (i : Int)) = some (.int (r2.getD i 0)) := by rw [Int.zero_add]; exact atI_nat (int_at0 (by omega))
      have hv : r2.getD i 0 = numF ns (200 + i * 14 + i) := by rw [← x2, oth_at hi hi, if_pos (Nat.le_refl _)]
      refine ⟨_, rfl, _, rfl, _, rfl, F, _, _, _, rfl, rfl, SqL.of (s1 F _ hdF), i3, _, rfl, a2, _, _, _, rfl, rfl, s1.seq (hRF.2 i a2 r2 f2 e2), i4, _, _, rfl, rfl, ⟨bg_le (due_le ns i) (Nat.pow_lt_pow_right (by decide) (by omega)), bg_le (n := 10 ^ 12) (by rw [hv]; exact numF_le _ _) (by decide +kernel)⟩, ?_⟩
      refine ⟨rfl, some (.int (0 + (i : Int))), ?_⟩
      rw [show dueF ns (i + 1) = dueF ns i * r2.getD i 0 by rw [hv]; rfl]
      rfl
    · rintro σ G ⟨rfl, v6, rfl⟩
      obtain ⟨ok, hlt⟩ := sm_ok hsm hn
      refine ⟨_, rfl, D, cs, Pm, n, rfl, SqL.of hd1, hR1, ok, hlt, fun G2 s2 => ?_⟩
      rw [hdet]
      refine ⟨_, rfl, _, rfl, _, rfl, itN Bool.false_ne_true ?_⟩
      have hd2 := s2 D _ hd1
      have hR2 := hR1.on s2
      have hcl := hR1.1
      have hPl := hsm.len
      refine ⟨_, rfl, _, rfl, by omega, by omega, ?_⟩
      rw [Int.toNat_natCast]
      refine compRL (K := K) (fun j => (List.range n).map fun i => Dt.ent Pm i j) (by omega) (fun j G' hj s' Nx hN => ?_) fun D3 es G3 hD3 s3 hd3 hR3 => ?_
      · refine ⟨_, rfl, _, rfl, by omega, by omega, ?_⟩
        rw [Int.toNat_natCast]
        refine comp_range (fun i => .int (Dt.ent Pm i j)) (by omega) (fun i G5 hi s5 N5 hN5 => ?_) fun D5 G5 hD5 s5 hd5 => ?_
        · have sG := s'.trans s5
          obtain ⟨r1, e1, l1, b1, x1⟩ := hsm.at hi
          obtain ⟨a1, f1⟩ : ∃ a1, cs[i]? = some a1 := ⟨_, List.getElem?_eq_getElem (by omega)⟩
          have g := hN5 G5 (Same.refl _)
          rw [x1] at g
          have i1 : atI (cs.map V.ref) (0 + (i : Int)) = some (.ref a1) := by rw [Int.zero_add]; exact atI_nat (by rw [List.getElem?_map, f1]; rfl)
          have i2 : atI (r1.map V.int) (0 + (j : Int)) = some (.int (r1.getD j 0)) := by rw [Int.zero_add]; exact atI_nat (int_at0 (by omega))
          exact ⟨_, rfl, _, rfl, D, _, _, _, rfl, rfl, SqL.of (sG D _ hd2), i1, _, rfl, a1, _, _, _, rfl, rfl, sG.seq (hR2.2 i a1 r1 f1 e1), i2, g⟩
        · exact hN D5 G5 s5 hD5 (by rw [hd5, List.map_map]; rfl)
      have hR3 : RowsAt K G3 es (acrM (Dt.ent Pm) n) := hR3
      obtain ⟨ok3, hlt3⟩ := sm_ok (acr_sm hsm) hn
      refine ⟨_, rfl, D3, es, acrM (Dt.ent Pm) n, n, rfl, SqL.of hd3, hR3, ok3, hlt3, fun G4 s4 => ?_⟩
      rw [hacr]
      refine ⟨_, rfl, _, rfl, _, rfl, itN Bool.false_ne_true ?_⟩
      have s14 := s2.trans (s3.trans s4)
      have hd4 := s14 D _ hd1
      have hR4 := hR1.on s14
      have hS4 := (s01.trans s14).seq hS
      refine ⟨_, rfl, D, _, rfl, .inl (SqL.of hd4), fun L hL => ?_⟩
      have tL := same_upd (o := .lst (cs.map V.ref)) hL
      have hcL : ∀ b ∈ cs, b ≠ L := fun b hb z => by
        obtain ⟨o, ho⟩ := hcs b hb
        have := s14 b o ho
        rw [z, hL] at this
        cases this
      have hd5 : upd G4 L (.lst (cs.map V.ref)) L = some (.lst (cs.map V.ref)) := upd_same
      have hR5 := hR4.on tL
      have hS5 : ∀ o, upd G4 L (.lst (cs.map V.ref)) a = some o → a = L ∨ G4 a = some o := fun o e => by
        by_cases z : a = L
        · exact .inl z
        · rw [upd_ne z] at e
          exact .inr e
      generalize upd G4 L (.lst (cs.map V.ref)) = G5 at tL hd5 hR5 hS5
      refine ⟨_, rfl, _, rfl, by omega, by omega, ?_⟩
      rw [Int.toNat_natCast]
      refine for_range (fun k σ G => ∃ (bs' : List Addr) (N : List (List Int)) (v6 v9 v10 : Option V), (∀ b o, b ≠ L → G4 b = some o → G b = some o) ∧ G L = some (.lst (bs'.map V.ref)) ∧ (∀ b ∈ bs', b ≠ L) ∧ RowsAt K G bs' N ∧ N.length = n ∧ (∀ r ∈ N, r ∈ Pm) ∧ σ = [some (.ref a), some (.int (n : Nat)), some (.ref E), some (.ref F), some (.ref D), some (.int (Dt.det n (Dt.ent N))), v6, some (.ref D3), some (.ref L), v9, v10])
        ⟨cs, Pm, v6, none, none, fun b o _ e => tL b o e, hd5, hcL, hR5, hPl, fun r hr => hr, by rw [hdet]; rfl⟩ ?_ ?_
      · rintro k σ G hk ⟨bs', N, v6, v9, v10, kG, hGL, hbL, hRN, hNl, hNP, rfl⟩
        have hbl := hRN.1
        have hSG : SqL K G a (ns.map V.int) := SqL.keepTwo hS4 fun o e => kG a o (fun z => by rw [z, hL] at e; cases e) e
        obtain ⟨t, ht, hkt, htn⟩ : ∃ t : Nat, (0 + (k : Int)) + ns.getD k 0 % ((n : Int) - (0 + (k : Int))) = (t : Int) ∧ k ≤ t ∧ t < n := by
          have h1 := Int.emod_nonneg (ns.getD k 0) (show (n : Int) - (0 + (k : Int)) ≠ 0 by omega)
          have h2 := Int.emod_lt_of_pos (ns.getD k 0) (show (0 : Int) < (n : Int) - (0 + (k : Int)) by omega)
          exact ⟨((0 + (k : Int)) + ns.getD k 0 % ((n : Int) - (0 + (k : Int)))).toNat, by omega, by omega, by omega⟩
        refine ⟨_, rfl, _, rfl, _, rfl, a, ns, k, congrArg (fun z => [V.ref a, V.int z]) (Int.zero_add _), hSG, _, rfl, _, rfl, _, _, rfl, rfl, _, _, rfl, rfl, (by show (0 : Int) < (n : Int) - (0 + (k : Int)); omega), _, _, rfl, rfl, ?_⟩
        refine ⟨_, _, _, _, _, _, k, _, _, t, _, by rw [← ht]; rfl, ?_⟩
        obtain ⟨x, hx⟩ : ∃ x, N[k]? = some x := ⟨_, List.getElem?_eq_getElem (by omega)⟩
        obtain ⟨y, hy⟩ : ∃ y, N[t]? = some y := ⟨_, List.getElem?_eq_getElem (by omega)⟩
        obtain ⟨bk, hbk⟩ : ∃ bk, bs'[k]? = some bk := ⟨_, List.getElem?_eq_getElem (by omega)⟩
        obtain ⟨bt, hbt⟩ : ∃ bt, bs'[t]? = some bt := ⟨_, List.getElem?_eq_getElem (by omega)⟩
        have i1 : atI (bs'.map V.ref) (t : Int) = some (.ref bt) := atI_nat (by rw [List.getElem?_map, hbt]; rfl)
        have i2 : atI (bs'.map V.ref) (0 + (k : Int)) = some (.ref bk) := by rw [Int.zero_add]; exact atI_nat (by rw [List.getElem?_map, hbk]; rfl)
        have x1 : ixN (bs'.map V.ref).length (t : Int) = some t := by
          unfold ixN
          rw [List.length_map, if_pos (by omega), if_pos (by omega)]
          rfl
        have x2 : ixN ((bs'.map V.ref).set t (.ref bk)).length (0 + (k : Int)) = some k := by
          unfold ixN
          rw [List.length_set, List.length_map, if_pos (by omega), if_pos (by omega), Int.zero_add]
          rfl
        refine ⟨_, rfl, _, rfl, L, _, _, _, rfl, rfl, SqL.of hGL, i1, ?_⟩
        refine ⟨_, rfl, _, rfl, L, _, _, _, rfl, rfl, SqL.of hGL, i2, _, rfl, _, rfl, L, _, _, t, rfl, rfl, hGL, x1, ?_⟩
        refine ⟨_, rfl, _, rfl, _, rfl, L, _, _, k, rfl, rfl, upd_same, x2, ?_⟩
        generalize hG7 : upd (upd G L (.lst ((bs'.map V.ref).set t (.ref bk)))) L (.lst (((bs'.map V.ref).set t (.ref bk)).set k (.ref bt))) = G7
        have k7 : ∀ b o, b ≠ L → G b = some o → G7 b = some o := fun b o hb e => by rw [← hG7, upd_ne hb, upd_ne hb]; exact e
        have hd7 : G7 L = some (.lst (((bs'.set t bk).set k bt).map V.ref)) := by rw [← hG7, upd_same, List.map_set, List.map_set]
        have mem2 : ∀ {α : Type} {xs : List α} {x y z : α}, x ∈ xs → y ∈ xs → z ∈ (xs.set t x).set k y → z ∈ xs := fun {α xs x y z} h1 h2 h => by
          rcases List.mem_or_eq_of_mem_set h with e | e
          · rcases List.mem_or_eq_of_mem_set e with e | e
            · exact e
            · rw [e]; exact h1
          · rw [e]; exact h2
        refine ⟨(bs'.set t bk).set k bt, (N.set t x).set k y, some (.int (0 + (k : Int))), some (.int (t : Int)), some (.ref bt), fun b o hb e => k7 b o hb (kG b o hb e), hd7, fun b hb => hbL b (mem2 (List.mem_of_getElem? hbk) (List.mem_of_getElem? hbt) hb), ⟨by rw [List.length_set, List.length_set, List.length_set, List.length_set, hbl], fun i b r e1 e2 => ?_⟩, by rw [List.length_set, List.length_set]; exact hNl, fun r hr => hNP r (mem2 (List.mem_of_getElem? hx) (List.mem_of_getElem? hy) hr), ?_⟩
        · rw [set2_get (n := n) (by omega) hk htn hbk hbt] at e1
          rw [set2_get hNl hk htn hx hy] at e2
          exact SqL.keepTwo (hRN.2 _ b r e1 e2) fun o e => k7 b o (hbL b (List.mem_of_getElem? e1)) e
        · rw [det_set2 hNl hk htn hkt hx hy]
          rfl
      · rintro σ G ⟨bs', N, v6, v9, v10, kG, hGL, hbL, hRN, hNl, hNP, rfl⟩
        obtain ⟨ok9, hlt9⟩ := sm_ok (M := N) (n := n) ⟨hNl, fun r hr => hsm.row r (hNP r hr), fun r hr => hsm.le r (hNP r hr)⟩ hn
        refine ⟨_, rfl, L, bs', N, n, rfl, SqL.of hGL, hRN, ok9, hlt9, fun G9 s9 => ?_⟩
        exact ⟨_, rfl, _, rfl, q _⟩

end
theorem all_mk {l : PySem.W.OpenLaw} {w : World} {K : PySem.W.Frag} {h : Heap} {mg : Str → Option Value} {fa : Addr} (X : K.In h) (G : h.Ns mainGlobals mg) (hfa : mg "law" = some (.ref fa))
    {f_further_times : Addr} {od_further_times an_further_times : Option Addr} {sl_further_times : Array (Option Value)} {oc_further_times kV_further_times dc_further_times pm_further_times cd_further_times ct_further_times : Value}
    {f_inverse : Addr} {od_inverse an_inverse : Option Addr} {sl_inverse : Array (Option Value)} {oc_inverse kV_inverse dc_inverse pm_inverse cd_inverse ct_inverse : Value}
    {f_lowered : Addr} {od_lowered an_lowered : Option Addr} {sl_lowered : Array (Option Value)} {oc_lowered kV_lowered dc_lowered pm_lowered cd_lowered ct_lowered : Value}
    {f_first_other_than_nought : Addr} {od_first_other_than_nought an_first_other_than_nought : Option Addr} {sl_first_other_than_nought : Array (Option Value)} {oc_first_other_than_nought kV_first_other_than_nought dc_first_other_than_nought pm_first_other_than_nought cd_first_other_than_nought ct_first_other_than_nought : Value}
    {f_determinant_rest : Addr} {od_determinant_rest an_determinant_rest : Option Addr} {sl_determinant_rest : Array (Option Value)} {oc_determinant_rest kV_determinant_rest dc_determinant_rest pm_determinant_rest cd_determinant_rest ct_determinant_rest : Value}
    {f_greatest_of : Addr} {od_greatest_of an_greatest_of : Option Addr} {sl_greatest_of : Array (Option Value)} {oc_greatest_of kV_greatest_of dc_greatest_of pm_greatest_of cd_greatest_of ct_greatest_of : Value}
    {f_determinant : Addr} {od_determinant an_determinant : Option Addr} {sl_determinant : Array (Option Value)} {oc_determinant kV_determinant dc_determinant pm_determinant cd_determinant ct_determinant : Value}
    {f__law_cell_at : Addr} {od__law_cell_at an__law_cell_at : Option Addr} {sl__law_cell_at : Array (Option Value)} {oc__law_cell_at kV__law_cell_at dc__law_cell_at pm__law_cell_at cd__law_cell_at ct__law_cell_at : Value}
    {f__law_whole : Addr} {od__law_whole an__law_whole : Option Addr} {sl__law_whole : Array (Option Value)} {oc__law_whole kV__law_whole dc__law_whole pm__law_whole cd__law_whole ct__law_whole : Value}
    {f__law_number : Addr} {od__law_number an__law_number : Option Addr} {sl__law_number : Array (Option Value)} {oc__law_number kV__law_number dc__law_number pm__law_number cd__law_number ct__law_number : Value}
    {f__law_product : Addr} {od__law_product an__law_product : Option Addr} {sl__law_product : Array (Option Value)} {oc__law_product kV__law_product dc__law_product pm__law_product cd__law_product ct__law_product : Value}
    {f__law_pair : Addr} {od__law_pair an__law_pair : Option Addr} {sl__law_pair : Array (Option Value)} {oc__law_pair kV__law_pair dc__law_pair pm__law_pair cd__law_pair ct__law_pair : Value}
    {f_law : Addr} {od_law an_law : Option Addr} {sl_law : Array (Option Value)} {oc_law kV_law dc_law pm_law cd_law ct_law : Value}
    {c_KNOWN_TIMES : Addr}
    {u_FIRST_PRIME : Value}
    {u_STEP : Value}
    (a_further_times : PySem.W.nsIn K mainGlobals "further_times" = some (some (.ref f_further_times))) (l_further_times : K.lookup f_further_times = some ⟨oc_further_times, od_further_times, .func (PySem.W.fnOf "further_times" "further_times" (defArgs s_further_times) (defBody s_further_times) (defScope s_further_times) .none kV_further_times dc_further_times pm_further_times an_further_times cd_further_times ct_further_times), sl_further_times⟩) (c_further_times : PySem.W.codeIn K cd_further_times "further_times" = true) (k_further_times : PySem.W.keepIn K (.ref f_further_times) = true)
    (a_inverse : PySem.W.nsIn K mainGlobals "inverse" = some (some (.ref f_inverse))) (l_inverse : K.lookup f_inverse = some ⟨oc_inverse, od_inverse, .func (PySem.W.fnOf "inverse" "inverse" (defArgs s_inverse) (defBody s_inverse) (defScope s_inverse) .none kV_inverse dc_inverse pm_inverse an_inverse cd_inverse ct_inverse), sl_inverse⟩) (c_inverse : PySem.W.codeIn K cd_inverse "inverse" = true) (k_inverse : PySem.W.keepIn K (.ref f_inverse) = true)
    (a_lowered : PySem.W.nsIn K mainGlobals "lowered" = some (some (.ref f_lowered))) (l_lowered : K.lookup f_lowered = some ⟨oc_lowered, od_lowered, .func (PySem.W.fnOf "lowered" "lowered" (defArgs s_lowered) (defBody s_lowered) (defScope s_lowered) .none kV_lowered dc_lowered pm_lowered an_lowered cd_lowered ct_lowered), sl_lowered⟩) (c_lowered : PySem.W.codeIn K cd_lowered "lowered" = true) (k_lowered : PySem.W.keepIn K (.ref f_lowered) = true)
    (a_first_other_than_nought : PySem.W.nsIn K mainGlobals "first_other_than_nought" = some (some (.ref f_first_other_than_nought))) (l_first_other_than_nought : K.lookup f_first_other_than_nought = some ⟨oc_first_other_than_nought, od_first_other_than_nought, .func (PySem.W.fnOf "first_other_than_nought" "first_other_than_nought" (defArgs s_first_other_than_nought) (defBody s_first_other_than_nought) (defScope s_first_other_than_nought) .none kV_first_other_than_nought dc_first_other_than_nought pm_first_other_than_nought an_first_other_than_nought cd_first_other_than_nought ct_first_other_than_nought), sl_first_other_than_nought⟩) (c_first_other_than_nought : PySem.W.codeIn K cd_first_other_than_nought "first_other_than_nought" = true) (k_first_other_than_nought : PySem.W.keepIn K (.ref f_first_other_than_nought) = true)
    (a_determinant_rest : PySem.W.nsIn K mainGlobals "determinant_rest" = some (some (.ref f_determinant_rest))) (l_determinant_rest : K.lookup f_determinant_rest = some ⟨oc_determinant_rest, od_determinant_rest, .func (PySem.W.fnOf "determinant_rest" "determinant_rest" (defArgs s_determinant_rest) (defBody s_determinant_rest) (defScope s_determinant_rest) .none kV_determinant_rest dc_determinant_rest pm_determinant_rest an_determinant_rest cd_determinant_rest ct_determinant_rest), sl_determinant_rest⟩) (c_determinant_rest : PySem.W.codeIn K cd_determinant_rest "determinant_rest" = true) (k_determinant_rest : PySem.W.keepIn K (.ref f_determinant_rest) = true)
    (a_greatest_of : PySem.W.nsIn K mainGlobals "greatest_of" = some (some (.ref f_greatest_of))) (l_greatest_of : K.lookup f_greatest_of = some ⟨oc_greatest_of, od_greatest_of, .func (PySem.W.fnOf "greatest_of" "greatest_of" (defArgs s_greatest_of) (defBody s_greatest_of) (defScope s_greatest_of) .none kV_greatest_of dc_greatest_of pm_greatest_of an_greatest_of cd_greatest_of ct_greatest_of), sl_greatest_of⟩) (c_greatest_of : PySem.W.codeIn K cd_greatest_of "greatest_of" = true) (k_greatest_of : PySem.W.keepIn K (.ref f_greatest_of) = true)
    (a_determinant : PySem.W.nsIn K mainGlobals "determinant" = some (some (.ref f_determinant))) (l_determinant : K.lookup f_determinant = some ⟨oc_determinant, od_determinant, .func (PySem.W.fnOf "determinant" "determinant" (defArgs s_determinant) (defBody s_determinant) (defScope s_determinant) .none kV_determinant dc_determinant pm_determinant an_determinant cd_determinant ct_determinant), sl_determinant⟩) (c_determinant : PySem.W.codeIn K cd_determinant "determinant" = true) (k_determinant : PySem.W.keepIn K (.ref f_determinant) = true)
    (a__law_cell_at : PySem.W.nsIn K mainGlobals "_law_cell_at" = some (some (.ref f__law_cell_at))) (l__law_cell_at : K.lookup f__law_cell_at = some ⟨oc__law_cell_at, od__law_cell_at, .func (PySem.W.fnOf "_law_cell_at" "_law_cell_at" (defArgs s__law_cell_at) (defBody s__law_cell_at) (defScope s__law_cell_at) .none kV__law_cell_at dc__law_cell_at pm__law_cell_at an__law_cell_at cd__law_cell_at ct__law_cell_at), sl__law_cell_at⟩) (c__law_cell_at : PySem.W.codeIn K cd__law_cell_at "_law_cell_at" = true) (k__law_cell_at : PySem.W.keepIn K (.ref f__law_cell_at) = true)
    (a__law_whole : PySem.W.nsIn K mainGlobals "_law_whole" = some (some (.ref f__law_whole))) (l__law_whole : K.lookup f__law_whole = some ⟨oc__law_whole, od__law_whole, .func (PySem.W.fnOf "_law_whole" "_law_whole" (defArgs s__law_whole) (defBody s__law_whole) (defScope s__law_whole) .none kV__law_whole dc__law_whole pm__law_whole an__law_whole cd__law_whole ct__law_whole), sl__law_whole⟩) (c__law_whole : PySem.W.codeIn K cd__law_whole "_law_whole" = true) (k__law_whole : PySem.W.keepIn K (.ref f__law_whole) = true)
    (a__law_number : PySem.W.nsIn K mainGlobals "_law_number" = some (some (.ref f__law_number))) (l__law_number : K.lookup f__law_number = some ⟨oc__law_number, od__law_number, .func (PySem.W.fnOf "_law_number" "_law_number" (defArgs s__law_number) (defBody s__law_number) (defScope s__law_number) .none kV__law_number dc__law_number pm__law_number an__law_number cd__law_number ct__law_number), sl__law_number⟩) (c__law_number : PySem.W.codeIn K cd__law_number "_law_number" = true) (k__law_number : PySem.W.keepIn K (.ref f__law_number) = true)
    (a__law_product : PySem.W.nsIn K mainGlobals "_law_product" = some (some (.ref f__law_product))) (l__law_product : K.lookup f__law_product = some ⟨oc__law_product, od__law_product, .func (PySem.W.fnOf "_law_product" "_law_product" (defArgs s__law_product) (defBody s__law_product) (defScope s__law_product) .none kV__law_product dc__law_product pm__law_product an__law_product cd__law_product ct__law_product), sl__law_product⟩) (c__law_product : PySem.W.codeIn K cd__law_product "_law_product" = true) (k__law_product : PySem.W.keepIn K (.ref f__law_product) = true)
    (a__law_pair : PySem.W.nsIn K mainGlobals "_law_pair" = some (some (.ref f__law_pair))) (l__law_pair : K.lookup f__law_pair = some ⟨oc__law_pair, od__law_pair, .func (PySem.W.fnOf "_law_pair" "_law_pair" (defArgs s__law_pair) (defBody s__law_pair) (defScope s__law_pair) .none kV__law_pair dc__law_pair pm__law_pair an__law_pair cd__law_pair ct__law_pair), sl__law_pair⟩) (c__law_pair : PySem.W.codeIn K cd__law_pair "_law_pair" = true) (k__law_pair : PySem.W.keepIn K (.ref f__law_pair) = true)
    (a_law : PySem.W.nsIn K mainGlobals "law" = some (some (.ref f_law))) (l_law : K.lookup f_law = some ⟨oc_law, od_law, .func (PySem.W.fnOf "law" "law" (defArgs s_law) (defBody s_law) (defScope s_law) .none kV_law dc_law pm_law an_law cd_law ct_law), sl_law⟩) (c_law : PySem.W.codeIn K cd_law "law" = true) (k_law : PySem.W.keepIn K (.ref f_law) = true)
    (z_abs : PySem.W.nsIn K mainGlobals "abs" = some none)
    (z_bool : PySem.W.nsIn K mainGlobals "bool" = some none)
    (z_enumerate : PySem.W.nsIn K mainGlobals "enumerate" = some none)
    (z_int : PySem.W.nsIn K mainGlobals "int" = some none)
    (z_isinstance : PySem.W.nsIn K mainGlobals "isinstance" = some none)
    (z_len : PySem.W.nsIn K mainGlobals "len" = some none)
    (z_list : PySem.W.nsIn K mainGlobals "list" = some none)
    (z_range : PySem.W.nsIn K mainGlobals "range" = some none)
    (z_sum : PySem.W.nsIn K mainGlobals "sum" = some none)
    (z_zip : PySem.W.nsIn K mainGlobals "zip" = some none)
    (y_KNOWN_TIMES : PySem.W.nsIn K mainGlobals "KNOWN_TIMES" = some (some (.ref c_KNOWN_TIMES)))
    (g_FIRST_PRIME : PySem.W.nsIn K mainGlobals "FIRST_PRIME" = some (some u_FIRST_PRIME)) (r_FIRST_PRIME : RelV (.int 2305843009213693951) u_FIRST_PRIME)
    (g_STEP : PySem.W.nsIn K mainGlobals "STEP" = some (some u_STEP)) (r_STEP : RelV (.int 6277101735386680763835789423207666416102355444464034512896) u_STEP)
    (kt : tupIs K c_KNOWN_TIMES [133, 211, 598, 652, 721, 850, 1282, 1417, 1582, 1681, 1726, 1837, 1885, 2017, 2377, 2383, 2452, 2476, 2530, 2611, 2662, 2698, 2773, 2878, 2917, 2980, 2998, 3082, 3238, 3250, 3343, 3421, 3427, 3670, 3817, 4162, 4252, 4447, 4468, 4621, 4630, 4747, 4867, 4891, 4915, 5128, 5143, 5236, 5401, 5587, 5650, 5803, 5833, 5923, 5986, 6202, 6235, 6286, 6496, 6526, 6736, 7093, 7561, 7696, 7831, 7855, 7882, 7927, 8143, 8248] = true)
     :
    ∃ fd : FuncData, (∀ (s : Shared) (v : Value), BindsTo s fd ⟨[v], []⟩ [("script", v)]) ∧ ∀ base : Heap, K.In base → base.Ns mainGlobals mg → FnOk l.prog w K mg base (CX1 l.prog w) 4 fa fd ["script"] (spLaw K) := by
  have e := hfa.symm.trans (PySem.W.mg_of X G a_law)
  cases e
  have tt : Txt K mg ⟨c_KNOWN_TIMES, u_FIRST_PRIME, u_STEP⟩ := ⟨PySem.W.mg_none_of X G z_abs, PySem.W.mg_none_of X G z_bool, PySem.W.mg_none_of X G z_enumerate, PySem.W.mg_none_of X G z_int, PySem.W.mg_none_of X G z_isinstance, PySem.W.mg_none_of X G z_len, PySem.W.mg_none_of X G z_list, PySem.W.mg_none_of X G z_range, PySem.W.mg_none_of X G z_sum, PySem.W.mg_none_of X G z_zip, PySem.W.mg_of X G y_KNOWN_TIMES, PySem.W.mg_of X G g_FIRST_PRIME, r_FIRST_PRIME, PySem.W.mg_of X G g_STEP, r_STEP, kt, ⟩
  have F_further_times := fun_mk (st := s_further_times) l_further_times c_further_times k_further_times
  have b_further_times := F_further_times.binds (ps := ["place", "last"]) fun _ _ _ _ _ _ us hl => L2.on2 (C := fun us => bindArgs _ ⟨us, []⟩ = pure (List.zip _ us)) hl fun _ _ => rfl
  have F_inverse := fun_mk (st := s_inverse) l_inverse c_inverse k_inverse
  have b_inverse := F_inverse.binds (ps := ["number", "prime"]) fun _ _ _ _ _ _ us hl => L2.on2 (C := fun us => bindArgs _ ⟨us, []⟩ = pure (List.zip _ us)) hl fun _ _ => rfl
  have F_lowered := fun_mk (st := s_lowered) l_lowered c_lowered k_lowered
  have b_lowered := F_lowered.binds (ps := ["row", "top", "back", "prime"]) fun _ _ _ _ _ _ us hl => L2.on4 (C := fun us => bindArgs _ ⟨us, []⟩ = pure (List.zip _ us)) hl fun _ _ _ _ => rfl
  have F_first_other_than_nought := fun_mk (st := s_first_other_than_nought) l_first_other_than_nought c_first_other_than_nought k_first_other_than_nought
  have b_first_other_than_nought := F_first_other_than_nought.binds (ps := ["numbers"]) fun _ _ _ _ _ _ us hl => L2.on1 (C := fun us => bindArgs _ ⟨us, []⟩ = pure (List.zip _ us)) hl fun _ => rfl
  have F_determinant_rest := fun_mk (st := s_determinant_rest) l_determinant_rest c_determinant_rest k_determinant_rest
  have b_determinant_rest := F_determinant_rest.binds (ps := ["square", "prime"]) fun _ _ _ _ _ _ us hl => L2.on2 (C := fun us => bindArgs _ ⟨us, []⟩ = pure (List.zip _ us)) hl fun _ _ => rfl
  have F_greatest_of := fun_mk (st := s_greatest_of) l_greatest_of c_greatest_of k_greatest_of
  have b_greatest_of := F_greatest_of.binds (ps := ["square"]) fun _ _ _ _ _ _ us hl => L2.on1 (C := fun us => bindArgs _ ⟨us, []⟩ = pure (List.zip _ us)) hl fun _ => rfl
  have F_determinant := fun_mk (st := s_determinant) l_determinant c_determinant k_determinant
  have b_determinant := F_determinant.binds (ps := ["square"]) fun _ _ _ _ _ _ us hl => L2.on1 (C := fun us => bindArgs _ ⟨us, []⟩ = pure (List.zip _ us)) hl fun _ => rfl
  have F__law_cell_at := fun_mk (st := s__law_cell_at) l__law_cell_at c__law_cell_at k__law_cell_at
  have b__law_cell_at := F__law_cell_at.binds (ps := ["script", "k"]) fun _ _ _ _ _ _ us hl => L2.on2 (C := fun us => bindArgs _ ⟨us, []⟩ = pure (List.zip _ us)) hl fun _ _ => rfl
  have F__law_whole := fun_mk (st := s__law_whole) l__law_whole c__law_whole k__law_whole
  have b__law_whole := F__law_whole.binds (ps := ["found", "due"]) fun _ _ _ _ _ _ us hl => L2.on2 (C := fun us => bindArgs _ ⟨us, []⟩ = pure (List.zip _ us)) hl fun _ _ => rfl
  have F__law_number := fun_mk (st := s__law_number) l__law_number c__law_number k__law_number
  have b__law_number := F__law_number.binds (ps := ["script", "k"]) fun _ _ _ _ _ _ us hl => L2.on2 (C := fun us => bindArgs _ ⟨us, []⟩ = pure (List.zip _ us)) hl fun _ _ => rfl
  have F__law_product := fun_mk (st := s__law_product) l__law_product c__law_product k__law_product
  have b__law_product := F__law_product.binds (ps := ["one", "other"]) fun _ _ _ _ _ _ us hl => L2.on2 (C := fun us => bindArgs _ ⟨us, []⟩ = pure (List.zip _ us)) hl fun _ _ => rfl
  have F__law_pair := fun_mk (st := s__law_pair) l__law_pair c__law_pair k__law_pair
  have b__law_pair := F__law_pair.binds (ps := ["script", "many"]) fun _ _ _ _ _ _ us hl => L2.on2 (C := fun us => bindArgs _ ⟨us, []⟩ = pure (List.zip _ us)) hl fun _ _ => rfl
  have F_law := fun_mk (st := s_law) l_law c_law k_law
  refine ⟨PySem.W.fnOf "law" "law" (defArgs s_law) (defBody s_law) (defScope s_law) .none kV_law dc_law pm_law an_law cd_law ct_law, fun s v => .of_eq rfl, fun base _ _ => ?_⟩
  have C_further_times : Cal l.prog w K mg base (CX1 l.prog w) "further_times" 1 ["place", "last"] spTimes := ⟨⟨_, _, ok_further_times F_further_times tt, PySem.W.mg_of X G a_further_times, F_further_times.kp, b_further_times⟩⟩
  have C_inverse : Cal l.prog w K mg base (CX1 l.prog w) "inverse" 1 ["number", "prime"] spInvs := ⟨⟨_, _, ok_inverse F_inverse tt, PySem.W.mg_of X G a_inverse, F_inverse.kp, b_inverse⟩⟩
  have C_lowered : Cal l.prog w K mg base (CX1 l.prog w) "lowered" 1 ["row", "top", "back", "prime"] (spLow K) := ⟨⟨_, _, ok_lowered F_lowered tt, PySem.W.mg_of X G a_lowered, F_lowered.kp, b_lowered⟩⟩
  have C_first_other_than_nought : Cal l.prog w K mg base (CX1 l.prog w) "first_other_than_nought" 1 ["numbers"] (spFirst K) := ⟨⟨_, _, ok_first_other_than_nought F_first_other_than_nought tt, PySem.W.mg_of X G a_first_other_than_nought, F_first_other_than_nought.kp, b_first_other_than_nought⟩⟩
  have C_determinant_rest : Cal l.prog w K mg base (CX1 l.prog w) "determinant_rest" 2 ["square", "prime"] (spRest K) := ⟨⟨_, _, ok_determinant_rest F_determinant_rest tt C_first_other_than_nought C_inverse C_lowered, PySem.W.mg_of X G a_determinant_rest, F_determinant_rest.kp, b_determinant_rest⟩⟩
  have C_greatest_of : Cal l.prog w K mg base (CX1 l.prog w) "greatest_of" 1 ["square"] (spGreat K) := ⟨⟨_, _, ok_greatest_of F_greatest_of tt, PySem.W.mg_of X G a_greatest_of, F_greatest_of.kp, b_greatest_of⟩⟩
  have C_determinant : Cal l.prog w K mg base (CX1 l.prog w) "determinant" 3 ["square"] (spDet K) := ⟨⟨_, _, ok_determinant F_determinant tt C_greatest_of C_determinant_rest C_further_times C_inverse, PySem.W.mg_of X G a_determinant, F_determinant.kp, b_determinant⟩⟩
  have C__law_cell_at : Cal l.prog w K mg base (CX1 l.prog w) "_law_cell_at" 1 ["script", "k"] (spCell K) := ⟨⟨_, _, ok__law_cell_at F__law_cell_at tt, PySem.W.mg_of X G a__law_cell_at, F__law_cell_at.kp, b__law_cell_at⟩⟩
  have C__law_whole : Cal l.prog w K mg base (CX1 l.prog w) "_law_whole" 1 ["found", "due"] spWhole := ⟨⟨_, _, ok__law_whole F__law_whole tt, PySem.W.mg_of X G a__law_whole, F__law_whole.kp, b__law_whole⟩⟩
  have C__law_number : Cal l.prog w K mg base (CX1 l.prog w) "_law_number" 1 ["script", "k"] (spNum K) := ⟨⟨_, _, ok__law_number F__law_number tt, PySem.W.mg_of X G a__law_number, F__law_number.kp, b__law_number⟩⟩
  have C__law_product : Cal l.prog w K mg base (CX1 l.prog w) "_law_product" 1 ["one", "other"] (spProd K) := ⟨⟨_, _, ok__law_product F__law_product tt, PySem.W.mg_of X G a__law_product, F__law_product.kp, b__law_product⟩⟩
  have C__law_pair : Cal l.prog w K mg base (CX1 l.prog w) "_law_pair" 2 ["script", "many"] (spPair K) := ⟨⟨_, _, ok__law_pair F__law_pair tt C__law_number, PySem.W.mg_of X G a__law_pair, F__law_pair.kp, b__law_pair⟩⟩
  exact ok_law F_law tt C__law_cell_at C__law_pair C__law_product C_determinant C__law_whole
theorem walk {l : PySem.W.OpenLaw} {q : Program} {loose : List Str} {XP : (Str → Option Value) → Heap → Prop} {YP : World → Heap → Prop} {d : DefRec} {K : Params → PySem.W.Frag} (hn : l.most = some 63) (hdf : d.params.defaults = [])
    (hY : ∀ (w : World) (h : Heap), YP w h → (K w.params).In h)
    (F : ∀ (w : World) (mg : Str → Option Value) (fa : Addr) (h : Heap), (K w.params).In h → h.Ns mainGlobals mg → mg d.name = some (.ref fa) →
      ∃ fd : FuncData, (∀ (s : Shared) (u : Value), BindsTo s fd ⟨[u], []⟩ [("script", u)]) ∧ ∀ base : Heap, (K w.params).In base → base.Ns mainGlobals mg → FnOk l.prog w (K w.params) mg base (CX1 l.prog w) 4 fa fd ["script"] (spLaw (K w.params))) :
    PySem.W.WalkO q loose XP YP l.row.toRowW d [] (fun f vs => PySem.call f vs) :=
  L2.walk_of (n := 63) (k := 4) (x := "script") (CX := fun w => CX1 l.prog w) (sp := fun w => spLaw (K w.params)) hn (by decide) hdf ⟨rfl, by decide, by decide⟩ hY F (fun _ _ a ns hl _ hS => ⟨a, ns, rfl, hS, hl, fun _ => rfl⟩) fun _ _ _ _ _ ⟨_, _, _, _, _, z⟩ => z
end K30
theorem PySem.W.Fast.tw1701407635911418944 : True := trivial
theorem PySem.W.Fast.tw8549473132565343329 : True := trivial
theorem PySem.W.Fast.tw16174152571459448129 : True := trivial
theorem PySem.W.Fast.tw6762140392150077889 : True := trivial
theorem PySem.W.Fast.tw13699860929309739905 : True := trivial
theorem PySem.W.Fast.tw3433363286752255873 : True := trivial
theorem PySem.W.Fast.tw7018854567549249730 : True := trivial
theorem PySem.W.Fast.tw10887400766957937890 : True := trivial
theorem PySem.W.Fast.tw13664314721265285922 : True := trivial
theorem PySem.W.Fast.tw12583030024844780931 : True := trivial
theorem PySem.W.Fast.tw13166730311486715364 : True := trivial
theorem PySem.W.Fast.tw15362824848687494181 : True := trivial
theorem PySem.W.Fast.tw14705818861836219493 : True := trivial
theorem PySem.W.Fast.tw14278153138843621541 : True := trivial
theorem PySem.W.Fast.tw15300045024797457893 : True := trivial
theorem PySem.W.Fast.tw7831553260528603685 : True := trivial
theorem PySem.W.Fast.tw12600513213850851237 : True := trivial
theorem PySem.W.Fast.tw3874027860372897862 : True := trivial
theorem PySem.W.Fast.tw2521631366336922982 : True := trivial
theorem PySem.W.Fast.tw1412043608163419718 : True := trivial
theorem PySem.W.Fast.tw16220903781517757543 : True := trivial
theorem PySem.W.Fast.tw7028218822434830696 : True := trivial
theorem PySem.W.Fast.tw2553993437997260424 : True := trivial
theorem PySem.W.Fast.tw107994950890717034 : True := trivial
theorem PySem.W.Fast.tw4970839891305885003 : True := trivial
theorem PySem.W.Fast.tw17927714040608898795 : True := trivial
theorem PySem.W.Fast.tw15696721721364424587 : True := trivial
theorem PySem.W.Fast.tw9025065770350266315 : True := trivial
theorem PySem.W.Fast.tw15484813332582552940 : True := trivial
theorem PySem.W.Fast.tw632288917355655278 : True := trivial
theorem PySem.W.Fast.tw4653244805973811310 : True := trivial
theorem PySem.W.Fast.tw15811253398708611278 : True := trivial
theorem PySem.W.Fast.tw139831982013596142 : True := trivial
theorem PySem.W.Fast.tw5995052561206087470 : True := trivial
theorem PySem.W.Fast.tw14829590254899517744 : True := trivial
theorem PySem.W.Fast.tw3386841271833374256 : True := trivial
theorem PySem.W.Fast.tw11943483451416601969 : True := trivial
theorem PySem.W.Fast.tw8764277375243394801 : True := trivial
theorem PySem.W.Fast.tw8312878327159840978 : True := trivial
theorem PySem.W.Fast.tw7728328686390028818 : True := trivial
theorem PySem.W.Fast.tw3921047929827231091 : True := trivial
theorem PySem.W.Fast.tw15178273468717170163 : True := trivial
theorem PySem.W.Fast.tw16571387111915602611 : True := trivial
theorem PySem.W.Fast.tw18207711829506171795 : True := trivial
theorem PySem.W.Fast.tw6799634800639215285 : True := trivial
theorem PySem.W.Fast.tw16589005394498805749 : True := trivial
theorem PySem.W.Fast.tw12348917651994352758 : True := trivial
theorem PySem.W.Fast.tw1906250497904925431 : True := trivial
theorem PySem.W.Fast.tw1080217010602864569 : True := trivial
theorem PySem.W.Fast.tw148554332251427450 : True := trivial
theorem PySem.W.Fast.tw11430260522082069659 : True := trivial
theorem PySem.W.Fast.tw17629322902426026427 : True := trivial
theorem PySem.W.Fast.tw16394779171627253179 : True := trivial
theorem PySem.W.Fast.tw15072488735584898140 : True := trivial
theorem PySem.W.Fast.tw4077518336122353278 : True := trivial
theorem PySem.W.Fast.te8331526784279919358 : True := trivial
theorem PySem.W.Fast.tw1186457082184056702 : True := trivial
theorem PySem.W.Fast.tw14487546551679733919 : True := trivial
theorem PySem.W.Fast.tw14997118811377194303 : True := trivial
def PySem.W.Fast.tw6675283130832324003 := PySem.Challenge.pw_onceround_k30_determinants_of_products
theorem PySem.W.Fast.te6675283130832324003 : PySem.Challenge.pw_onceround_k30_determinants_of_products = PySem.W.Fast.tw6675283130832324003 := rfl
open PySem PySem.W PyProof.Rows
set_option maxRecDepth 100000 in
set_option maxHeartbeats 0 in
theorem PySem.Challenge.cw_onceround_k30_determinants_of_products_holds : PySem.Challenge.rw_onceround_k30_determinants_of_products.Holds := by
  w_on; o_law; k_head; (case hw => w_witness2)
  k_fill
  refine K30.walk (l := PySem.Challenge.rw_onceround_k30_determinants_of_products) rfl rfl (fun w h Y => PySem.W.kIn_of Y) ?F
  case F =>
    intro w mg fa h KX G hmg
    refine' K30.all_mk KX G hmg ?a_further_times ?l_further_times ?c_further_times ?k_further_times ?a_inverse ?l_inverse ?c_inverse ?k_inverse ?a_lowered ?l_lowered ?c_lowered ?k_lowered ?a_first_other_than_nought ?l_first_other_than_nought ?c_first_other_than_nought ?k_first_other_than_nought ?a_determinant_rest ?l_determinant_rest ?c_determinant_rest ?k_determinant_rest ?a_greatest_of ?l_greatest_of ?c_greatest_of ?k_greatest_of ?a_determinant ?l_determinant ?c_determinant ?k_determinant ?a__law_cell_at ?l__law_cell_at ?c__law_cell_at ?k__law_cell_at ?a__law_whole ?l__law_whole ?c__law_whole ?k__law_whole ?a__law_number ?l__law_number ?c__law_number ?k__law_number ?a__law_product ?l__law_product ?c__law_product ?k__law_product ?a__law_pair ?l__law_pair ?c__law_pair ?k__law_pair ?a_law ?l_law ?c_law ?k_law ?z_abs ?z_bool ?z_enumerate ?z_int ?z_isinstance ?z_len ?z_list ?z_range ?z_sum ?z_zip ?y_KNOWN_TIMES ?g_FIRST_PRIME ?r_FIRST_PRIME ?g_STEP ?r_STEP ?kt 
    (case a_further_times => k_is)
    (case l_further_times => k_is)
    (case c_further_times => k_is)
    (case k_further_times => k_is)
    (case a_inverse => k_is)
    (case l_inverse => k_is)
    (case c_inverse => k_is)
    (case k_inverse => k_is)
    (case a_lowered => k_is)
    (case l_lowered => k_is)
    (case c_lowered => k_is)
    (case k_lowered => k_is)
    (case a_first_other_than_nought => k_is)
    (case l_first_other_than_nought => k_is)
    (case c_first_other_than_nought => k_is)
    (case k_first_other_than_nought => k_is)
    (case a_determinant_rest => k_is)
    (case l_determinant_rest => k_is)
    (case c_determinant_rest => k_is)
    (case k_determinant_rest => k_is)
    (case a_greatest_of => k_is)
    (case l_greatest_of => k_is)
    (case c_greatest_of => k_is)
    (case k_greatest_of => k_is)
    (case a_determinant => k_is)
    (case l_determinant => k_is)
    (case c_determinant => k_is)
    (case k_determinant => k_is)
    (case a__law_cell_at => k_is)
    (case l__law_cell_at => k_is)
    (case c__law_cell_at => k_is)
    (case k__law_cell_at => k_is)
    (case a__law_whole => k_is)
    (case l__law_whole => k_is)
    (case c__law_whole => k_is)
    (case k__law_whole => k_is)
    (case a__law_number => k_is)
    (case l__law_number => k_is)
    (case c__law_number => k_is)
    (case k__law_number => k_is)
    (case a__law_product => k_is)
    (case l__law_product => k_is)
    (case c__law_product => k_is)
    (case k__law_product => k_is)
    (case a__law_pair => k_is)
    (case l__law_pair => k_is)
    (case c__law_pair => k_is)
    (case k__law_pair => k_is)
    (case a_law => k_is)
    (case l_law => k_is)
    (case c_law => k_is)
    (case k_law => k_is)
    (case z_abs => k_is)
    (case z_bool => k_is)
    (case z_enumerate => k_is)
    (case z_int => k_is)
    (case z_isinstance => k_is)
    (case z_len => k_is)
    (case z_list => k_is)
    (case z_range => k_is)
    (case z_sum => k_is)
    (case z_zip => k_is)
    (case y_KNOWN_TIMES => k_is)
    (case g_FIRST_PRIME => k_is)
    (case r_FIRST_PRIME => exact ⟨_, rfl⟩)
    (case g_STEP => k_is)
    (case r_STEP => exact ⟨_, rfl⟩)
    (case kt => kernel_rfl)
    
#print axioms PySem.Challenge.cw_onceround_k30_determinants_of_products_holds
