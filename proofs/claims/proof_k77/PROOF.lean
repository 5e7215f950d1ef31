import PyProof.Rows.All
import Wide.All
import OpenK.AllK
import Wide.FinOn
import Lean
import PyProof.EqAt
import PyProof.EqKinds
import PyProof.TupleCall
import PySem.Challenge.RW_onceround_k77_pages_read
set_option genSizeOfSpec false
set_option bootstrap.genMatcherCode false
-- CHANGE: your row's module here, as the last of these rows
set_option Elab.async false
set_option linter.all false
set_option maxRecDepth 100000
namespace L2
open PySem PySem.Spec PyProof.Rows

noncomputable abbrev Key := Sum Int Str
noncomputable def keyIs : Key → Value → Bool
  | .inl k, v => Value.isInt k v
  | .inr x, v => Value.isStrOf x v
noncomputable def keyH (w : World) : Key → Int
  | .inl k => hashInt k
  | .inr x => hashStr w x
theorem keyIs_shape : ∀ {k : Key} {v : Value}, keyIs k v = true → (∃ i t, k = Sum.inl i ∧ v = Value.int i t) ∨ (∃ x t, k = Sum.inr x ∧ v = Value.str x t)
  | .inl i, v, h => by
    obtain ⟨t, e⟩ := Value.isInt_shape (k := i) (v := v) h
    exact .inl ⟨i, t, rfl, e⟩
  | .inr x, v, h => by
    obtain ⟨t, e⟩ := Value.isStrOf_shape (x := x) (v := v) h
    exact .inr ⟨x, t, rfl, e⟩
theorem key_ll (a b : Int) : decide ((Sum.inl a : Key) = Sum.inl b) = (a == b) := by
  by_cases e : a = b
  · subst e; simp
  · have h : ¬ (Sum.inl a : Key) = Sum.inl b := fun q => e (Sum.inl.inj q)
    rw [decide_eq_false h]
    exact (beq_eq_false_iff_ne.mpr e).symm
theorem key_rr (a b : Str) : decide ((Sum.inr a : Key) = Sum.inr b) = decide (a = b) := by
  by_cases e : a = b
  · subst e; simp
  · have h : ¬ (Sum.inr a : Key) = Sum.inr b := fun q => e (Sum.inr.inj q)
    rw [decide_eq_false h, decide_eq_false e]
theorem key_lr (a : Int) (b : Str) : decide ((Sum.inl a : Key) = Sum.inr b) = false := decide_eq_false (fun q => nomatch q)
theorem key_rl (a : Str) (b : Int) : decide ((Sum.inr a : Key) = Sum.inl b) = false := decide_eq_false (fun q => nomatch q)

noncomputable def mixKind (prog : Program) (w : World) : PySem.KeyKind prog w Key where
  is := keyIs
  hash := keyH w
  inj := fun v a b ha hb => by
    rcases keyIs_shape ha with ⟨i, t, rfl, rfl⟩ | ⟨x, t, rfl, rfl⟩
    · rcases keyIs_shape hb with ⟨j, u, rfl, e⟩ | ⟨y, u, rfl, e⟩
      · injection e with e1 _; rw [e1]
      · exact nomatch e
    · rcases keyIs_shape hb with ⟨j, u, rfl, e⟩ | ⟨y, u, rfl, e⟩
      · exact nomatch e
      · injection e with e1 _; rw [e1]
  byValue := fun k v h => by
    rcases keyIs_shape h with ⟨i, t, rfl, rfl⟩ | ⟨x, t, rfl, rfl⟩ <;> rfl
  pyHash := fun hv h => by
    rcases keyIs_shape hv with ⟨i, t, rfl, rfl⟩ | ⟨x, t, rfl, rfl⟩
    · exact wpAny_pyHash_int h
    · exact wpAny_pyHash_str h
  eqBool := fun hu hv h => by
    rcases keyIs_shape hu with ⟨i, t, rfl, rfl⟩ | ⟨x, t, rfl, rfl⟩
    · rcases keyIs_shape hv with ⟨j, u, rfl, rfl⟩ | ⟨y, u, rfl, rfl⟩
      · rw [key_ll] at h; exact wpAny_eqBool_int h
      · rw [key_lr] at h; exact SeqAt.EqAt.int_str i t y u _ _ _ _ h
    · rcases keyIs_shape hv with ⟨j, u, rfl, rfl⟩ | ⟨y, u, rfl, rfl⟩
      · rw [key_rl] at h; exact SeqAt.EqAt.str_int x t j u _ _ _ _ h
      · rw [key_rr] at h; exact wpAny_eqBool_str h
  «strs» := fun k x t v h => by
    rcases keyIs_shape h with ⟨i, u, rfl, e⟩ | ⟨y, u, rfl, e⟩
    · exact nomatch e
    · injection e with e1 _
      subst e1
      cases v <;> rfl

end L2

namespace L2
open PySem PySem.Spec PyProof.Rows

inductive V where
  | non | bl (b : Bool) | int (i : Int) | str (x : Str) | byt (b : Array UInt8) | flt (b : UInt64) | ref (a : Addr) | ty (n : String)
  deriving DecidableEq

noncomputable def RelV : V → Value → Prop
  | .non, u => u = Value.none
  | .bl b, u => u = Value.bool b
  | .int i, u => ∃ t, u = Value.int i t
  | .str x, u => ∃ t, u = Value.str x t
  | .byt b, u => ∃ t, u = Value.bytes b t
  | .flt b, u => ∃ t, u = Value.float b t
  | .ref a, u => u = Value.ref a
  | .ty n, u => u = Value.type n

noncomputable abbrev Vals : List V → List Value → Prop := Paired RelV
theorem Vals.length {xs : List V} {us : List Value} (r : Vals xs us) : xs.length = us.length := Paired.length r
theorem Vals.get : ∀ {xs : List V} {us : List Value} {i : Nat} {x : V}, Vals xs us → xs[i]? = some x → ∃ u, us[i]? = some u ∧ RelV x u
  | _, _, _, _, .nil, e => by simp at e
  | _, _, 0, _, .cons r _, e => by simp at e; subst e; exact ⟨_, rfl, r⟩
  | _, _, i + 1, x, .cons _ t, e => by
    obtain ⟨u, h1, h2⟩ := Vals.get (i := i) (x := x) t (by simpa using e)
    exact ⟨u, by simpa using h1, h2⟩
theorem Vals.set {x : V} {u : Value} (r : RelV x u) : ∀ {xs : List V} {us : List Value} (i : Nat), Vals xs us → Vals (xs.set i x) (us.set i u)
  | _, _, _, .nil => .nil
  | _, _, 0, .cons _ t => .cons r t
  | _, _, i + 1, .cons q t => .cons q (Vals.set r i t)
theorem Vals.append : ∀ {xs ys : List V} {us ws : List Value}, Vals xs us → Vals ys ws → Vals (xs ++ ys) (us ++ ws)
  | _, _, _, _, .nil, s => s
  | _, _, _, _, .cons r t, s => .cons r (Vals.append t s)
theorem Vals.take : ∀ {xs : List V} {us : List Value} (n : Nat), Vals xs us → Vals (xs.take n) (us.take n)
  | _, _, 0, _ => .nil
  | _, _, _ + 1, .nil => .nil
  | _, _, n + 1, .cons r t => .cons r (Vals.take n t)
theorem Vals.drop : ∀ {xs : List V} {us : List Value} (n : Nat), Vals xs us → Vals (xs.drop n) (us.drop n)
  | _, _, 0, r => r
  | _, _, _ + 1, .nil => .nil
  | _, _, n + 1, .cons _ t => Vals.drop n t
noncomputable def RelO : Option V → Option Value → Prop
  | some v, some u => RelV v u
  | none, none => True
  | _, _ => False
noncomputable def KV {κ : Type} : List (κ × V) → List (κ × Value) → Prop := Paired fun (p : κ × V) (q : κ × Value) => p.1 = q.1 ∧ RelV p.2 q.2

noncomputable def kV : Key → V
  | .inl i => .int i
  | .inr x => .str x

inductive HO where
    | lst (xs : List V)
    | tup (xs : List V)
    | dK (kvs : List (Key × V)) | dT (kvs : List (List Key × V))
    | set (S : Int → Bool) (n : Nat)
    | ins (C dx : Addr) (fs : List (Str × V))
    | own (x : Addr)
    | xd (fs : List (Str × V))
    | met (f x : Addr)
    | rng (lo hi : Int)
    | frz (o : Obj) (u : HO)
    | tbl (ps : Array Value)
    | ext (φ : Heap → Prop)

noncomputable abbrev Hp := Addr → Option HO
noncomputable def upd (H : Hp) (a : Addr) (o : HO) : Hp := fun b => if b = a then some o else H b
theorem upd_same {H : Hp} {a : Addr} {o : HO} : upd H a o a = some o := by unfold upd; rw [if_pos rfl]
theorem upd_ne {H : Hp} {a b : Addr} {o : HO} (h : b ≠ a) : upd H a o b = H b := by unfold upd; rw [if_neg h]
theorem ne_of_none {H : Hp} {a b : Addr} {o : HO} (h : H a = some o) (h' : H b = none) : a ≠ b := by
  intro e; subst e; rw [h] at h'; cases h'

section
variable (P : Program) (w : World)
noncomputable def ObjOk (H : Hp) (h : Heap) (a : Addr) : HO → Prop
  | .lst xs => xs.length ≤ sizeLine ∧ ∃ (its : List Value) (n : Nat), Vals xs its ∧ h.get? a = some { cls := .type "list", data := .seq its.toArray n }
  | .tup xs => xs.length ≤ sizeLine ∧ ∃ its : List Value, Vals xs its ∧ IsTup h a its.toArray
  | .dK kvs => kvs.length ≤ sizeLine ∧ (a == sysModules) = false ∧ ∃ vs, KV kvs vs ∧ h.DictOf (mixKind P w) a vs
  | .dT kvs => kvs.length ≤ sizeLine ∧ (a == sysModules) = false ∧ ∃ xs : List (List Key × Addr × Value),
      Paired (fun (p : List Key × V) (q : List Key × Addr × Value) => p.1 = q.1 ∧ H q.2.1 = some (.tup (p.1.map kV)) ∧ RelV p.2 q.2.2) kvs xs ∧
      ∃ o es ep, h.get? a = some o ∧ o.ExactDict ∧ o.data = .dict es ep ∧ es.toList = xs.map (entryOfKey (tupleKind (mixKind P w))) ∧ (xs.map (·.1)).Nodup
  | .set S n => h.SetOf (intKind P w) a S n
  | .ins C dx fs => H dx = some (.own a) ∧ fs.length ≤ 1000 ∧ dx ≠ a ∧ h.get? a = some (PySem.W.instObj C dx) ∧
      ∃ mA, h.Ns1 dx mA ∧ (∀ f, RelO (fs.lookup f) (mA f)) ∧ PySem.Within mA (fs.map (·.1))
  | .own _ => ∃ o, h.get? a = some o
  | .xd fs => ∃ mA, h.Ns1 a mA ∧ ∀ f, RelO (fs.lookup f) (mA f)
  | .rng lo hi => ∃ t u v, h.get? a = some { cls := .type "range", data := .fields #[.int lo t, .int hi u, .int 1 v] }
  | .frz o u => h.get? a = some o ∧ ObjOk H h a u
  | .tbl ps => h.get? a = some { cls := .none, data := .fields ps }
  | .met f x => h.get? a = some (PySem.W.methodObj (.ref f) (.ref x))
  | .ext φ => φ h ∧ (∃ o, h.get? a = some o) ∧ ∀ h1 h2 : Heap, φ h1 → (∀ o, h1.get? a = some o → h2.get? a = some o) → φ h2
noncomputable def HOk (H : Hp) (h : Heap) : Prop := ∀ a o, H a = some o → ObjOk P w H h a o
end

section
variable {P : Program} {w : World} {H H' : Hp} {h h' : Heap} {a : Addr} {o : HO}
theorem ObjOk.lt (x : ObjOk P w H h a o) : a < h.objs.size := by
  cases o with
  | lst xs => obtain ⟨_, _, _, _, e⟩ := x; exact Heap.lt_size e
  | tup xs => obtain ⟨_, _, _, p⟩ := x; exact p.lt
  | dK kvs => obtain ⟨_, _, _, _, o, _, _, e, _⟩ := x; exact Heap.lt_size e
  | dT kvs => obtain ⟨_, _, _, _, o, _, _, e, _⟩ := x; exact Heap.lt_size e
  | set S n => obtain ⟨o, _, _, _, e, _⟩ := x; exact Heap.lt_size e
  | ins C dx fs => obtain ⟨_, _, _, e, _⟩ := x; exact Heap.lt_size e
  | own y => obtain ⟨_, e⟩ := x; exact Heap.lt_size e
  | xd fs => obtain ⟨_, ⟨_, _, _, e, _⟩, _⟩ := x; exact Heap.lt_size e
  | rng lo hi => obtain ⟨_, _, _, e⟩ := x; exact Heap.lt_size e
  | frz ob u => obtain ⟨e, _⟩ := x; exact Heap.lt_size e
  | tbl ps => exact Heap.lt_size (show h.get? a = some _ from x)
  | met f y => exact Heap.lt_size (show h.get? a = some _ from x)
  | ext φ => obtain ⟨_, ⟨_, e⟩, _⟩ := x; exact Heap.lt_size e
theorem Paired.mapP {α β : Type} {F G : α → β → Prop} : ∀ {l₁ : List α} {l₂ : List β}, Paired F l₁ l₂ → (∀ a b, F a b → G a b) → Paired G l₁ l₂
  | _, _, .nil, _ => .nil
  | _, _, .cons r t, f => .cons (f _ _ r) (Paired.mapP t f)
theorem ObjOk.stay (x : ObjOk P w H h a o) (k : ∀ b u, (b = a ∨ H b = some (.own a)) → h.get? b = some u → h'.get? b = some u)
    (ho : ∀ b, H b = some (.own a) → H' b = some (.own a)) (ht : ∀ b xs, H b = some (.tup xs) → H' b = some (.tup xs)) : ObjOk P w H' h' a o := by
  induction o with
  | lst xs => obtain ⟨z, its, n, r, e⟩ := x; exact ⟨z, its, n, r, k _ _ (.inl rfl) e⟩
  | tup xs => obtain ⟨z, its, r, ob, e, c⟩ := x; exact ⟨z, its, r, ob, k _ _ (.inl rfl) e, c⟩
  | dK kvs => obtain ⟨z, y, vs, r, ob, es, ep, e, c⟩ := x; exact ⟨z, y, vs, r, ob, es, ep, k _ _ (.inl rfl) e, c⟩
  | dT kvs =>
    obtain ⟨z, y, xs, r, ob, es, ep, e, c⟩ := x
    exact ⟨z, y, xs, Paired.mapP r fun p q z => ⟨z.1, ht _ _ z.2.1, z.2.2⟩, ob, es, ep, k _ _ (.inl rfl) e, c⟩
  | set S n => obtain ⟨ob, es, ep, t, e, c⟩ := x; exact ⟨ob, es, ep, t, k _ _ (.inl rfl) e, c⟩
  | ins C dx fs =>
    obtain ⟨d, z, ne, e, mA, ⟨od, es, ep, e2, c⟩, r⟩ := x
    exact ⟨ho _ d, z, ne, k _ _ (.inl rfl) e, mA, ⟨od, es, ep, k _ _ (.inr d) e2, c⟩, r⟩
  | own y => obtain ⟨ob, e⟩ := x; exact ⟨ob, k _ _ (.inl rfl) e⟩
  | xd fs => obtain ⟨mA, ⟨od, es, ep, e, c⟩, r⟩ := x; exact ⟨mA, ⟨od, es, ep, k _ _ (.inl rfl) e, c⟩, r⟩
  | rng lo hi => obtain ⟨t, u, v, e⟩ := x; exact ⟨t, u, v, k _ _ (.inl rfl) e⟩
  | frz ob u ih => obtain ⟨e, q⟩ := x; exact ⟨k _ _ (.inl rfl) e, ih q⟩
  | tbl ps =>
    have e : h.get? a = some { cls := .none, data := .fields ps } := x
    show h'.get? a = some { cls := .none, data := .fields ps }
    exact k a _ (.inl rfl) e
  | met f y =>
    have e : h.get? a = some (PySem.W.methodObj (.ref f) (.ref y)) := x
    show h'.get? a = some (PySem.W.methodObj (.ref f) (.ref y))
    exact k a _ (.inl rfl) e
  | ext φ => obtain ⟨p, ⟨o, e⟩, st⟩ := x; exact ⟨st _ _ p fun o q => k _ _ (.inl rfl) q, ⟨o, k _ _ (.inl rfl) e⟩, st⟩
theorem HOk.lt (x : HOk P w H h) (e : H a = some o) : a < h.objs.size := (x a o e).lt
theorem HOk.fresh (x : HOk P w H h) (e : h.objs.size ≤ a) : H a = none := by
  cases q : H a with
  | none => rfl
  | some u => exact absurd (Nat.lt_of_lt_of_le (x.lt q) e) (Nat.lt_irrefl _)
theorem HOk.kept (x : HOk P w H h) (k : ∀ b u, h.get? b = some u → h'.get? b = some u) : HOk P w H h' := fun a o e =>
  (x a o e).stay (fun b u _ q => k b u q) (fun _ q => q) fun _ _ q => q
theorem HOk.laid (x : HOk P w H h) (k : ∀ b u, h.get? b = some u → h'.get? b = some u) (hp : h.objs.size ≤ a) (new : ObjOk P w (upd H a o) h' a o) : HOk P w (upd H a o) h' := fun b u e => by
  have hn := x.fresh hp
  by_cases hb : b = a
  · subst hb; rw [upd_same] at e; cases e; exact new
  · rw [upd_ne hb] at e
    exact (x b u e).stay (fun c v _ q => k c v q) (fun c q => by rw [upd_ne (ne_of_none q hn)]; exact q) fun c xs q => by rw [upd_ne (ne_of_none q hn)]; exact q
end

noncomputable def Rd (H : Hp) (a : Addr) (u : HO) : Prop := H a = some u ∨ ∃ o, H a = some (.frz o u)
theorem Rd.ok {P : Program} {w : World} {H : Hp} {h : Heap} {a : Addr} {u : HO} (r : Rd H a u) (x : HOk P w H h) : ObjOk P w H h a u := by
  rcases r with r | ⟨o, r⟩
  · exact x a u r
  · obtain ⟨_, q⟩ := x a _ r
    exact q
noncomputable def Mut : Option HO → Prop
  | some (.lst _) => True
  | some (.dK _) => True
  | some (.dT _) => True
  | some (.set _ _) => True
  | some (.ins _ _ _) => True
  | some (.ext _) => True
  | _ => False
section
variable {P : Program} {w : World} {H : Hp} {h h' : Heap} {x e : Addr} {o' : HO}
theorem HOk.write (ok : HOk P w H h) (mu : Mut (H x)) (he : e = x ∨ H e = some (.own x)) (k : ∀ b u, b ≠ e → h.get? b = some u → h'.get? b = some u) (heo : ∃ u, h'.get? e = some u)
    (new : ObjOk P w (upd H x o') h' x o') : HOk P w (upd H x o') h' := fun b u q => by
  have nown : ∀ c y, H c = some (.own y) → c ≠ x := fun c y r z => by subst z; rw [r] at mu; exact mu
  have ntup : ∀ c xs, H c = some (.tup xs) → c ≠ x := fun c xs r z => by subst z; rw [r] at mu; exact mu
  by_cases hb : b = x
  · subst hb; rw [upd_same] at q; cases q; exact new
  · rw [upd_ne hb] at q
    by_cases hbe : b = e
    · have q' : H b = some (.own x) := by
        rcases he with z | z
        · exact absurd (hbe.trans z) hb
        · rw [hbe]; exact z
      rw [q] at q'; cases q'
      obtain ⟨v, hv⟩ := heo
      exact ⟨v, by rw [hbe]; exact hv⟩
    · refine (ok b u q).stay (fun c v hc r => k c v ?_ r) (fun c r => by rw [upd_ne (nown c b r)]; exact r) fun c xs r => by rw [upd_ne (ntup c xs r)]; exact r
      rcases hc with rfl | hc
      · exact hbe
      · rintro rfl
        rcases he with z | z
        · exact nown c b hc z
        · rw [hc] at z; cases z; exact hb rfl
end

set_option genInjectivity false in
structure Un (fs ex : List Addr) (H H' : Hp) (h h' : Heap) : Prop where
  keep : ∀ b o, h.get? b = some o → H b = none → b ∉ fs → b ∉ ex → h'.get? b = some o
  slot : ∀ b o, h.get? b = some o → H b = none → b ∈ fs → b ∉ ex → ∃ sl, h'.get? b = some { o with slots := sl }
  free : ∀ b o, h.get? b = some o → H b = none → b ∉ ex → H' b = none
  there : ∀ b o, h.get? b = some o → b ∉ ex → ∃ o', h'.get? b = some o'
  tups : ∀ b xs, H b = some (.tup xs) → H' b = some (.tup xs)
  frzs : ∀ b o u, H b = some (.frz o u) → H' b = some (.frz o u)
  tbls : ∀ b ps, H b = some (.tbl ps) → ∃ more, H' b = some (.tbl (ps ++ more))
section
variable {fs fs' ex ex' : List Addr} {H H1 H2 : Hp} {h h1 h2 h' : Heap} {a x e : Addr} {o : HO}
theorem Un.any (u : Un fs ex H H1 h h1) {b : Addr} {ob : Obj} (q : h.get? b = some ob) (n : H b = none) (hx : b ∉ ex) : ∃ sl, h1.get? b = some { ob with slots := sl } := by
  by_cases hb : b ∈ fs
  · exact u.slot b ob q n hb hx
  · exact ⟨ob.slots, u.keep b ob q n hb hx⟩
theorem Un.kept (k : ∀ b u, h.get? b = some u → h'.get? b = some u) : Un fs ex H H h h' :=
  ⟨fun b ob q _ _ _ => k b ob q, fun b ob q _ _ _ => ⟨ob.slots, k b ob q⟩, fun _ _ _ n _ => n, fun b ob q _ => ⟨ob, k b ob q⟩, fun _ _ q => q, fun _ _ _ q => q, fun _ ps q => ⟨#[], by rw [q]; simp⟩⟩
theorem Un.refl : Un fs ex H H h h := Un.kept fun _ _ q => q
theorem Un.laid (k : ∀ b u, h.get? b = some u → h'.get? b = some u) (hp : h.objs.size ≤ a) (hn : H a = none) : Un fs ex H (upd H a o) h h' where
  keep := fun b u q _ _ _ => k b u q
  slot := fun b u q _ _ _ => ⟨u.slots, k b u q⟩
  free := fun b u q n _ => by rw [upd_ne (Nat.ne_of_lt (Nat.lt_of_lt_of_le (Heap.lt_size q) hp))]; exact n
  there := fun b u q _ => ⟨u, k b u q⟩
  tups := fun b xs q => by rw [upd_ne (ne_of_none q hn)]; exact q
  frzs := fun b u xs q => by rw [upd_ne (ne_of_none q hn)]; exact q
  tbls := fun b ps q => ⟨#[], by rw [upd_ne (ne_of_none q hn), q]; simp⟩
theorem Un.write (mu : Mut (H x)) (he : e = x ∨ H e = some (.own x)) (k : ∀ b u, b ≠ e → h.get? b = some u → h'.get? b = some u) (heo : ∃ u, h'.get? e = some u) : Un fs ex H (upd H x o) h h' := by
  have hx : ∀ b, H b = none → b ≠ x := fun b n z => by subst z; rw [n] at mu; exact mu
  have hb : ∀ b, H b = none → b ≠ e := fun b n z => by
    subst z
    rcases he with r | r
    · exact hx b n r
    · rw [n] at r; cases r
  have hm : ∀ b u, H b = some u → ¬ Mut (some u) → b ≠ x := fun b u q nm z => by subst z; rw [q] at mu; exact nm mu
  refine ⟨fun b u q n _ _ => k b u (hb b n) q, fun b u q n _ _ => ⟨u.slots, k b u (hb b n) q⟩, fun b u q n _ => by rw [upd_ne (hx b n)]; exact n, fun b u q _ => ?_,
    fun b xs q => by rw [upd_ne (hm b _ q fun z => z)]; exact q, fun b u xs q => by rw [upd_ne (hm b _ q fun z => z)]; exact q, fun b ps q => ⟨#[], by rw [upd_ne (hm b _ q fun z => z), q]; simp⟩⟩
  by_cases hbe : b = e
  · subst hbe; exact heo
  · exact ⟨u, k b u hbe q⟩
end

noncomputable def trk (h : Heap) (H : Hp) : List Addr := (List.range h.objs.size).filter fun a => (H a).isSome
noncomputable def hidT (h : Heap) (H : Hp) : Heap := PySem.W.hideAll h (trk h H)
theorem hidT_size (h : Heap) (H : Hp) : (hidT h H).objs.size = h.objs.size := PySem.W.hideAll_size _ _
theorem hidT_get {h : Heap} {H : Hp} {b : Addr} {o : Obj} (e : h.get? b = some o) (n : H b = none) : (hidT h H).get? b = some o :=
  PySem.W.hideAll_get _ e fun hm => by
    have q : (H b).isSome = true := (List.mem_filter.mp hm).2
    rw [n] at q; simp at q
theorem of_hidT {h : Heap} {H : Hp} {b : Addr} {o : Obj} (e : (hidT h H).get? b = some o) : h.get? b = some o ∧ H b = none := by
  have e' : h.get? b = some o := PySem.W.of_hideAll (trk h H) e
  refine ⟨e', ?_⟩
  cases q : H b with
  | none => rfl
  | some x =>
    have hm : b ∈ trk h H := List.mem_filter.mpr ⟨List.mem_range.mpr (Heap.lt_size e'), by simp [q]⟩
    have z : (hidT h H).get? b = none := PySem.W.hideAll_none (trk h H) hm
    rw [z] at e; cases e

noncomputable def allNews (g h : Heap) (L : Addr) : List (Addr × Obj) := (List.range h.objs.size).filterMap fun a => if a = L ∨ (g.get? a).isSome = true then none else (h.get? a).map fun o => (a, o)
noncomputable def rest (g h : Heap) (L d : Addr) : List (Addr × Obj) := (allNews g h L).filter fun p => decide (p.1 ≠ d)
end L2

namespace L2
open PySem PySem.Spec PyProof.Rows

set_option genInjectivity false in
structure Mod (K : PySem.W.Frag) (mg : Str → Option Value) (base : Heap) : Prop where
  kin : K.In base
  glob : base.Ns mainGlobals mg
  blt : ∃ mb, base.Ns builtinsNs mb ∧ ∀ x : Str, x ≠ "__name__" → mb x = bootBuiltins x
  nolimit : base.NoLimit

set_option genInjectivity false in
structure Cx where
  prog : Program
  w : World
  K : PySem.W.Frag
  mg : Str → Option Value
  base : Heap
  A : Around
  N : List Str
  s₀ : Shared
  H₀ : Hp
  env : Env
  outer : List Env
  stack : List Env
  ex : List Addr
  fn : Str → Bool
  calm : Bool
  pn : List (Addr × Obj)
  xe : Value → Shared → Prop
noncomputable def frs (l : List Env) : List Addr := l.filterMap (·.frame)
noncomputable abbrev Cx.fs (X : Cx) : List Addr := frs X.outer

noncomputable def Vis (sc : Scope) (x : Str) : Prop := sc.names.lookup x = some .local ∨ sc.names.lookup x = some .cell ∨ sc.names.lookup x = some .free
noncomputable def Loc (sc : Scope) (x : Str) : Prop := sc.names.lookup x = some .local ∨ sc.names.lookup x = some .cell
noncomputable def Look (env : Env) (h : Heap) (m : Str → Option Value) (x : Str) (u : Value) : Prop :=
  (env.kindOf x = some .local ∧ m x = some u) ∨ ((env.kindOf x = some .cell ∨ env.kindOf x = some .free) ∧ ∃ c, env.cells.lookup x = some c ∧ h.IsCell c (some u))

set_option genInjectivity false in
structure Cx.Ok (X : Cx) : Prop where
  mod : Mod X.K X.mg X.base
  kind : X.env.scope.kind = .function
  glob : X.env.globals = mainGlobals
  blt : X.env.builtins = builtinsNs
  above : X.s₀.heap.objs.size ≤ X.env.locals
  inj : ∀ x y c, X.env.cells.lookup x = some c → X.env.cells.lookup y = some c → x = y
  has : ∀ x, (X.env.kindOf x = some .cell ∨ X.env.kindOf x = some .free) → ∃ c, X.env.cells.lookup x = some c
  cab : ∀ x c, X.fn x = true → X.env.cells.lookup x = some c → X.s₀.heap.objs.size ≤ c
  hd : X.calm = true → X.A.handled = none
  frames : X.A.frames = some X.stack
  stk : X.stack = X.outer ∨ (X.stack = X.env :: X.outer ∧ X.env.frame = some X.env.locals)
  exf : ∀ b ∈ X.ex, b ≠ X.env.locals ∧ ∀ x c, X.env.cells.lookup x = some c → c ≠ b
  bs : ∀ b o, X.base.get? b = some o → X.s₀.heap.get? b = some o ∧ X.H₀ b = none
  bsz : X.base.objs.size ≤ X.s₀.heap.objs.size
  noex : ∀ b o, X.base.get? b = some o → b ∉ X.ex
  exfs : ∀ b ∈ X.ex, b ∉ X.fs
  funs : X.s₀.heap.FunFrames X.base X.outer
  frf : ∀ b ∈ X.fs, X.H₀ b = none

set_option genInjectivity false in
structure Inv (X : Cx) (pins : List (Addr × Obj)) (σ : List (Option V)) (H : Hp) (s : Shared) : Prop where
  ok : X.Ok
  os : s.os = X.s₀.os
  bare : AllBare s.gens
  base : Un X.fs X.ex X.H₀ H X.s₀.heap s.heap
  loc : ∃ m, s.heap.Ns X.env.locals m ∧ ∀ (i : Nat) (x : Str) (v : V), X.N[i]? = some x → σ[i]? = some (some v) → Vis X.env.scope x → ∃ u, RelV v u ∧ Look X.env s.heap m x u
  cell : ∀ x c, X.env.cells.lookup x = some c → ∃ v, s.heap.IsCell c v
  free : H X.env.locals = none
  freeC : ∀ x c, X.env.cells.lookup x = some c → H c = none
  pin : ∀ p ∈ X.pn ++ pins, s.heap.get? p.1 = some p.2 ∧ H p.1 = none ∧ p.1 ≠ X.env.locals ∧ p.1 ∉ X.fs ∧ ∀ v, p.2.data ≠ .cell v
  hok : HOk X.prog X.w H s.heap
  len : σ.length = X.N.length

section
variable {X : Cx} {pins : List (Addr × Obj)} {σ : List (Option V)} {H H' : Hp} {s : Shared} {h' : Heap}

theorem Cx.Ok.nofr (ok : X.Ok) {b : Addr} {o : Obj} (e : X.base.get? b = some o) : b ∉ X.fs := fun hb => by
  have := (ok.funs.mem hb).1
  rw [e] at this; cases this
theorem Inv.bs (I : Inv X pins σ H s) : ∀ b o, X.base.get? b = some o → s.heap.get? b = some o ∧ H b = none := fun b o e =>
  ⟨I.base.keep b o (I.ok.bs b o e).1 (I.ok.bs b o e).2 (I.ok.nofr e) (I.ok.noex b o e), I.base.free b o (I.ok.bs b o e).1 (I.ok.bs b o e).2 (I.ok.noex b o e)⟩
theorem Inv.bk (I : Inv X pins σ H s) : ∀ b o, X.base.get? b = some o → s.heap.get? b = some o := fun b o e => (I.bs b o e).1
theorem Inv.mod (I : Inv X pins σ H s) : Mod X.K X.mg X.base := I.ok.mod
theorem Inv.kIn (I : Inv X pins σ H s) : X.K.In s.heap := I.ok.mod.kin.keeps I.bk
theorem Inv.lt (I : Inv X pins σ H s) : X.env.locals < s.heap.objs.size := let ⟨_, hn, _⟩ := I.loc; hn.lt
theorem Inv.sz (I : Inv X pins σ H s) : X.s₀.heap.objs.size ≤ s.heap.objs.size := Nat.le_trans I.ok.above (Nat.le_of_lt I.lt)
theorem Inv.nofs (I : Inv X pins σ H s) {a : Addr} (h : s.heap.objs.size ≤ a) : a ∉ X.fs := fun hb => by
  obtain ⟨_, o, ho, _⟩ := I.ok.funs.mem hb
  exact absurd (Nat.lt_of_lt_of_le (Heap.lt_size ho) (Nat.le_trans I.sz h)) (Nat.lt_irrefl _)
theorem Inv.cne (I : Inv X pins σ H s) : ∀ x c, X.env.cells.lookup x = some c → c ≠ X.env.locals := fun x c e z => by
  obtain ⟨v, o, ho, hd⟩ := I.cell x c e
  obtain ⟨m, ⟨o', es, ep, ho', hd', _⟩, _⟩ := I.loc
  rw [z, ho'] at ho; cases ho; rw [hd'] at hd; cases hd
theorem Inv.funs (I : Inv X pins σ H s) : s.heap.FunFrames X.base X.outer := by
  have all : ∀ (l : List Env), (∀ b ∈ frs l, b ∈ X.fs) → X.s₀.heap.FunFrames X.base l → s.heap.FunFrames X.base l := by
    intro l
    induction l with
    | nil => intro _ _; trivial
    | cons env r ih =>
      intro hs hl
      obtain ⟨hk, ⟨L, o, hf, hn, ho, hd⟩, hr⟩ := hl
      have hL : L ∈ X.fs := hs L (by unfold frs; rw [List.filterMap_cons, hf]; exact List.mem_cons_self)
      obtain ⟨sl, e⟩ := I.base.slot L o ho (I.ok.frf L hL) hL fun z => I.ok.exfs L z hL
      exact ⟨hk, ⟨L, _, hf, hn, e, hd⟩, ih (fun b hb => hs b (by unfold frs; rw [List.filterMap_cons, hf]; exact List.mem_cons_of_mem _ hb)) hr⟩
  exact all X.outer (fun _ hb => hb) I.ok.funs

theorem Inv.stack (I : Inv X pins σ H s) : s.heap.FunFrames X.base X.stack := by
  rcases I.ok.stk with e | ⟨e, hf⟩
  · rw [e]; exact I.funs
  · rw [e]
    obtain ⟨m, hn, _⟩ := I.loc
    refine .cons (by rw [I.ok.kind]; decide) hf hn ?_ I.funs
    exact Heap.get?_none_of_le (Nat.le_trans I.ok.bsz I.ok.above)
theorem Inv.stkSub (I : Inv X pins σ H s) : ∀ b ∈ frs X.stack, b ∈ X.env.locals :: X.fs := fun b hb => by
  rcases I.ok.stk with e | ⟨e, hf⟩
  · rw [e] at hb; exact List.mem_cons_of_mem _ hb
  · rw [e] at hb
    unfold frs at hb
    rw [List.filterMap_cons, hf] at hb
    exact hb
theorem Inv.stkFree (I : Inv X pins σ H s) : ∀ b ∈ frs X.stack, H b = none := fun b hb => by
  rcases List.mem_cons.mp (I.stkSub b hb) with e | hb
  · rw [e]; exact I.free
  · obtain ⟨_, o, ho, _⟩ := I.ok.funs.mem hb
    exact I.base.free b o ho (I.ok.frf b hb) fun z => I.ok.exfs b z hb

theorem Inv.step {g' : Array GenState} {t' : Nat} {d' : Drawn} {ch : List Addr} (I : Inv X pins σ H s)
    (hch : ∀ b ∈ ch, (b ∈ X.ex ∨ X.s₀.heap.objs.size ≤ b) ∧ b ≠ X.env.locals ∧ (∀ x c, X.env.cells.lookup x = some c → c ≠ b) ∧ ∀ p ∈ X.pn ++ pins, p.1 ≠ b)
    (keep : ∀ b o, b ≠ X.env.locals → b ∉ X.fs → b ∉ ch → s.heap.get? b = some o → H b = none → h'.get? b = some o)
    (slot : ∀ b o, b ≠ X.env.locals → b ∈ X.fs → b ∉ ch → s.heap.get? b = some o → H b = none → ∃ sl, h'.get? b = some { o with slots := sl }) (free : ∀ b o, b ∉ ch → s.heap.get? b = some o → H b = none → H' b = none)
    (there : ∀ b o, b ∉ ch → s.heap.get? b = some o → ∃ o', h'.get? b = some o')
    (tups : ∀ b xs, H b = some (.tup xs) → H' b = some (.tup xs)) (frzs : ∀ b o u, H b = some (.frz o u) → H' b = some (.frz o u)) (tbls : ∀ b ps, H b = some (.tbl ps) → ∃ more, H' b = some (.tbl (ps ++ more)))
    (ns : ∀ m, s.heap.Ns X.env.locals m → h'.Ns X.env.locals m) (hok : HOk X.prog X.w H' h') (hg : AllBare g') :
    Inv X pins σ H' { s with heap := h', gens := g', drawn := d', toks := t' } := by
  have neL : ∀ b o, X.s₀.heap.get? b = some o → b ≠ X.env.locals := fun b o e => Nat.ne_of_lt (Nat.lt_of_lt_of_le (Heap.lt_size e) I.ok.above)
  have neC : ∀ b o, X.s₀.heap.get? b = some o → b ∉ X.ex → b ∉ ch := fun b o e hx hb => by
    rcases (hch b hb).1 with z | z
    · exact hx z
    · exact absurd (Nat.lt_of_lt_of_le (Heap.lt_size e) z) (Nat.lt_irrefl _)
  have cellK : ∀ x c, X.env.cells.lookup x = some c → ∀ v, s.heap.IsCell c v → h'.IsCell c v := fun x c e v ⟨o, ho, hd⟩ => by
    have nch : c ∉ ch := fun z => (hch c z).2.2.1 x c e rfl
    by_cases hc : c ∈ X.fs
    · obtain ⟨sl, q⟩ := slot c o (I.cne x c e) hc nch ho (I.freeC x c e)
      exact ⟨_, q, hd⟩
    · exact ⟨o, keep c o (I.cne x c e) hc nch ho (I.freeC x c e), hd⟩
  refine ⟨I.ok, I.os, hg, ⟨fun b o e n hb hx => ?_, fun b o e n hb hx => ?_, fun b o e n hx => ?_, fun b o e hx => ?_, fun b xs e => tups b xs (I.base.tups b xs e), fun b o xs e => frzs b o xs (I.base.frzs b o xs e), fun b ps e => ?_⟩, ?_, fun x c e => ?_, ?_, fun x c e => ?_, fun p hp => ?_, hok, I.len⟩
  · exact keep b o (neL b o e) hb (neC b o e hx) (I.base.keep b o e n hb hx) (I.base.free b o e n hx)
  · obtain ⟨sl, e1⟩ := I.base.slot b o e n hb hx
    obtain ⟨sl', e2⟩ := slot b _ (neL b o e) hb (neC b o e hx) e1 (I.base.free b o e n hx)
    exact ⟨sl', e2⟩
  · obtain ⟨o', e1⟩ := I.base.there b o e hx
    exact free b o' (neC b o e hx) e1 (I.base.free b o e n hx)
  · obtain ⟨o', e1⟩ := I.base.there b o e hx
    exact there b o' (neC b o e hx) e1
  · obtain ⟨m1, e1⟩ := I.base.tbls b ps e
    obtain ⟨m2, e2⟩ := tbls b _ e1
    exact ⟨m1 ++ m2, by rw [e2, Array.append_assoc]⟩
  · obtain ⟨m, hn, hl⟩ := I.loc
    refine ⟨m, ns m hn, fun i x v e1 e2 e3 => ?_⟩
    obtain ⟨u, r, l⟩ := hl i x v e1 e2 e3
    refine ⟨u, r, ?_⟩
    rcases l with l | ⟨k, c, e, z⟩
    · exact .inl l
    · exact .inr ⟨k, c, e, cellK x c e _ z⟩
  · obtain ⟨v, z⟩ := I.cell x c e
    exact ⟨v, cellK x c e v z⟩
  · obtain ⟨m, ⟨o, _, _, ho, _⟩, _⟩ := I.loc
    exact free _ o (fun z => (hch _ z).2.1 rfl) ho I.free
  · obtain ⟨v, o, ho, hd⟩ := I.cell x c e
    exact free c o (fun z => (hch c z).2.2.1 x c e rfl) ho (I.freeC x c e)
  · obtain ⟨e, n, ne, nf, d⟩ := I.pin p hp
    have nch : p.1 ∉ ch := fun z => (hch p.1 z).2.2.2 p hp rfl
    exact ⟨keep p.1 p.2 ne nf nch e n, free p.1 p.2 nch e n, ne, nf, d⟩
theorem Inv.un {t' : Nat} (I : Inv X pins σ H s) (u : Un X.fs [] H H' s.heap h') (hok : HOk X.prog X.w H' h') : Inv X pins σ H' { s with heap := h', toks := t' } := by
  obtain ⟨m, ⟨o, es, ep, ho, r⟩, _⟩ := id I.loc
  obtain ⟨sl, hL⟩ := u.any ho I.free (by simp)
  exact I.step (g' := s.gens) (d' := s.drawn) (ch := []) (fun _ z => nomatch z) (fun b o _ hb _ e n => u.keep b o e n hb (by simp)) (fun b o _ hb _ e n => u.slot b o e n hb (by simp)) (fun b o _ e n => u.free b o e n (by simp)) (fun b o _ e => u.there b o e (by simp)) u.tups u.frzs u.tbls (fun m' hm => by
    obtain ⟨o', es', ep', ho', r'⟩ := hm
    rw [ho] at ho'; cases ho'
    exact ⟨_, es', ep', hL, r'⟩) hok I.bare
theorem Inv.call {g' : Array GenState} {t' : Nat} {d' : Drawn} {ch : List Addr} (I : Inv X pins σ H s) (u : Un (frs X.stack) ch H H' s.heap h') (hok : HOk X.prog X.w H' h') (hg : AllBare g')
    (hch : ∀ b ∈ ch, (b ∈ X.ex ∨ X.s₀.heap.objs.size ≤ b) ∧ b ≠ X.env.locals ∧ (∀ x c, X.env.cells.lookup x = some c → c ≠ b) ∧ ∀ p ∈ X.pn ++ pins, p.1 ≠ b) :
    Inv X pins σ H' { s with heap := h', gens := g', drawn := d', toks := t' } := by
  obtain ⟨m, ⟨o, es, ep, ho, r⟩, _⟩ := id I.loc
  obtain ⟨sl, hL⟩ := u.any ho I.free fun z => (hch _ z).2.1 rfl
  exact I.step (ch := ch) hch (fun b o hL hb hc e n => u.keep b o e n (fun z => (List.mem_cons.mp (I.stkSub b z)).elim hL hb) hc) (fun b o _ _ hc e n => u.any e n hc) (fun b o hc e n => u.free b o e n hc) (fun b o hc e => u.there b o e hc) u.tups u.frzs u.tbls (fun m' hm => by
    obtain ⟨o', es', ep', ho', r'⟩ := hm
    rw [ho] at ho'; cases ho'
    exact ⟨_, es', ep', hL, r'⟩) hok hg
theorem Inv.turned {t' : Nat} {it : Addr} (I : Inv X pins σ H s) (k : ∀ b o, b ≠ it → s.heap.get? b = some o → h'.get? b = some o) (hn : H it = none) (hL : it ≠ X.env.locals)
    (h1 : it ∈ X.ex ∨ X.s₀.heap.objs.size ≤ it) (h2 : ∀ x c, X.env.cells.lookup x = some c → c ≠ it) (h3 : ∀ p ∈ X.pn ++ pins, p.1 ≠ it) : Inv X pins σ H { s with heap := h', toks := t' } := by
  have nit : ∀ b u, H b = some u → b ≠ it := fun b u e z => by rw [z, hn] at e; cases e
  refine I.step (g' := s.gens) (d' := s.drawn) (ch := [it]) (fun b hb => ?_) (fun b o _ _ hc e _ => k b o (fun z => hc (by simp [z])) e) (fun b o _ _ hc e _ => ⟨o.slots, k b o (fun z => hc (by simp [z])) e⟩) (fun _ _ _ _ n => n)
    (fun b o hc e => ⟨o, k b o (fun z => hc (by simp [z])) e⟩) (fun _ _ e => e) (fun _ _ _ e => e) (fun b ps e => ⟨#[], by rw [e]; simp⟩) (fun m hm => ?_) (fun b u e => ?_) I.bare
  · have e : b = it := by simpa using hb
    subst e
    exact ⟨h1, hL, h2, h3⟩
  · obtain ⟨o, es, ep, ho, r⟩ := hm
    exact ⟨o, es, ep, k _ o (Ne.symm hL) ho, r⟩
  · refine (I.hok b u e).stay (fun c v hc q => k c v ?_ q) (fun _ q => q) fun _ _ q => q
    rcases hc with z | z
    · rw [z]; exact nit b u e
    · exact nit c _ z
theorem Inv.tok (I : Inv X pins σ H s) (t : Nat) : Inv X pins σ H { s with toks := t } := I.un (h' := s.heap) (t' := t) Un.refl I.hok
theorem Inv.kept {t' : Nat} (I : Inv X pins σ H s) (k : ∀ b u, s.heap.get? b = some u → h'.get? b = some u) : Inv X pins σ H { s with heap := h', toks := t' } := I.un (Un.kept k) (I.hok.kept k)
theorem Inv.laid {a : Addr} {o : HO} {t' : Nat} (I : Inv X pins σ H s) (k : ∀ b u, s.heap.get? b = some u → h'.get? b = some u) (hp : s.heap.objs.size ≤ a) (new : ObjOk X.prog X.w (upd H a o) h' a o) :
    Inv X pins σ (upd H a o) { s with heap := h', toks := t' } := I.un (Un.laid k hp (I.hok.fresh hp)) (I.hok.laid k hp new)
theorem Inv.write {x e : Addr} {o : HO} {t' : Nat} (I : Inv X pins σ H s) (mu : Mut (H x)) (he : e = x ∨ H e = some (.own x)) (k : ∀ b u, b ≠ e → s.heap.get? b = some u → h'.get? b = some u) (heo : ∃ u, h'.get? e = some u)
    (new : ObjOk X.prog X.w (upd H x o) h' x o) : Inv X pins σ (upd H x o) { s with heap := h', toks := t' } := I.un (Un.write mu he k heo) (I.hok.write mu he k heo new)
theorem Inv.pins_of {pins' : List (Addr × Obj)} (I : Inv X pins σ H s) (h : ∀ p ∈ pins', s.heap.get? p.1 = some p.2 ∧ H p.1 = none ∧ p.1 ≠ X.env.locals ∧ p.1 ∉ X.fs ∧ ∀ v, p.2.data ≠ .cell v) : Inv X pins' σ H s :=
  ⟨I.ok, I.os, I.bare, I.base, I.loc, I.cell, I.free, I.freeC, fun p hp => (List.mem_append.mp hp).elim (fun z => I.pin p (List.mem_append_left _ z)) (h p), I.hok, I.len⟩

theorem nodup_ix {N : List Str} (hN : N.Nodup) {i j : Nat} {x : Str} (a : N[i]? = some x) (b : N[j]? = some x) : i = j := by
  obtain ⟨h1, e1⟩ := List.getElem?_eq_some_iff.mp a
  obtain ⟨h2, e2⟩ := List.getElem?_eq_some_iff.mp b
  exact (List.getElem_inj hN).mp (e1.trans e2.symm)

theorem store_ok2 {M : Model} {A : Around} {E : Value → Shared → Prop} {i : Nat} {x : Str} {v : V} {u : Value} {Q : Unit → Shared → Prop} (I : Inv X pins σ H s) (hN : X.N.Nodup) (hi : X.N[i]? = some x) (hx : Loc X.env.scope x) (r : RelV v u)
    (h : ∀ s', Inv X pins (σ.set i (some v)) H s' → (∃ a, Heap.SameBut a s.heap s'.heap ∧ (a = X.env.locals ∨ X.env.cells.lookup x = some a)) → Q () s') (hf : X.fn x = true ∨ X.env.scope.names.lookup x = some .local := by first | exact .inl rfl | exact .inr rfl | assumption) : wpAny M A (storeName X.env x u) Q E s := by
  obtain ⟨m, hn, hl⟩ := id I.loc
  have hcls : (X.env.scope.kind == .class || (X.env.scope.kind == .module && X.env.locals != X.env.globals)) = false := by rw [I.ok.kind]; rfl
  have hiσ : i < σ.length := by rw [I.len]; exact (List.getElem?_eq_some_iff.mp hi).1
  have cne := I.cne
  have tracked : ∀ {a : Addr} {h' : Heap}, (∃ o, s.heap.get? a = some o ∧ H a = none) → Heap.SameBut a s.heap h' → HOk X.prog X.w H h' := fun {a h'} ha hs b ob e => by
    obtain ⟨_, _, hfree⟩ := ha
    refine (I.hok b ob e).stay (fun c w' hc q => (hs.2 c ?_).trans q) (fun _ q => q) fun _ _ q => q
    rintro rfl
    rcases hc with rfl | hc
    · rw [hfree] at e; cases e
    · rw [hfree] at hc; cases hc
  rcases hx with hk | hk
  · refine wpAny_storeName_local hk hn (fun h' hn' hs => ?_) hcls
    obtain ⟨oL, _, _, hoL, _⟩ := id hn
    refine h _ ⟨I.ok, I.os, I.bare, ⟨fun b o e n hb hx => ?_, fun b o e n hb hx => ?_, I.base.free, fun b o e hx => ?_, I.base.tups, I.base.frzs, I.base.tbls⟩, ⟨_, hn', fun j y v' e1 e2 e3 => ?_⟩, fun y c e => ?_, I.free, I.freeC, fun p hp => ?_, tracked ⟨oL, hoL, I.free⟩ hs, by simpa using I.len⟩ ⟨_, hs, .inl rfl⟩
    · exact (hs.2 b (Nat.ne_of_lt (Nat.lt_of_lt_of_le (Heap.lt_size e) I.ok.above))).trans (I.base.keep b o e n hb hx)
    · obtain ⟨sl, e1⟩ := I.base.slot b o e n hb hx
      exact ⟨sl, (hs.2 b (Nat.ne_of_lt (Nat.lt_of_lt_of_le (Heap.lt_size e) I.ok.above))).trans e1⟩
    · obtain ⟨o', e1⟩ := I.base.there b o e hx
      exact ⟨o', (hs.2 b (Nat.ne_of_lt (Nat.lt_of_lt_of_le (Heap.lt_size e) I.ok.above))).trans e1⟩
    · by_cases hj : j = i
      · subst hj
        rw [hi] at e1; cases e1
        rw [List.getElem?_set_self hiσ] at e2
        cases e2
        exact ⟨u, r, .inl ⟨hk, by simp⟩⟩
      · rw [List.getElem?_set_ne (Ne.symm hj)] at e2
        obtain ⟨u', r', q⟩ := hl j y v' e1 e2 e3
        refine ⟨u', r', ?_⟩
        rcases q with ⟨k, e⟩ | ⟨k, c, e, z⟩
        · refine .inl ⟨k, ?_⟩
          have : y ≠ x := fun e => hj (nodup_ix hN e1 (e ▸ hi))
          simp [this, e]
        · exact .inr ⟨k, c, e, z.sameBut hs (cne y c e)⟩
    · obtain ⟨w', z⟩ := I.cell y c e
      exact ⟨w', z.sameBut hs (cne y c e)⟩
    · obtain ⟨e, n, ne, nf, d⟩ := I.pin p hp
      exact ⟨(hs.2 p.1 ne).trans e, n, ne, nf, d⟩
  · have hfn : X.fn x = true := by
      rcases hf with z | z
      · exact z
      · rw [z] at hk; cases hk
    obtain ⟨c, hc⟩ := I.ok.has x (.inl hk)
    obtain ⟨w', z⟩ := I.cell x c hc
    refine wpAny_storeName_cell I.ok.kind hk hc z (fun h' hc' hs => ?_)
    obtain ⟨oc, hoc, hocd⟩ := id z
    refine h { s with heap := h' } ⟨I.ok, I.os, I.bare, ⟨fun b o e n hb hx => ?_, fun b o e n hb hx => ?_, I.base.free, fun b o e hx => ?_, I.base.tups, I.base.frzs, I.base.tbls⟩, ⟨m, hn.sameBut hs (Ne.symm (cne x c hc)), fun j y v' e1 e2 e3 => ?_⟩, fun y c' e => ?_, I.free, I.freeC, fun p hp => ?_, tracked ⟨oc, hoc, I.freeC x c hc⟩ hs, by simpa using I.len⟩ ⟨c, hs, .inr hc⟩
    · exact (hs.2 b (Nat.ne_of_lt (Nat.lt_of_lt_of_le (Heap.lt_size e) (I.ok.cab x c hfn hc)))).trans (I.base.keep b o e n hb hx)
    · obtain ⟨sl, e1⟩ := I.base.slot b o e n hb hx
      exact ⟨sl, (hs.2 b (Nat.ne_of_lt (Nat.lt_of_lt_of_le (Heap.lt_size e) (I.ok.cab x c hfn hc)))).trans e1⟩
    · obtain ⟨o', e1⟩ := I.base.there b o e hx
      exact ⟨o', (hs.2 b (Nat.ne_of_lt (Nat.lt_of_lt_of_le (Heap.lt_size e) (I.ok.cab x c hfn hc)))).trans e1⟩
    · by_cases hj : j = i
      · subst hj
        rw [hi] at e1; cases e1
        rw [List.getElem?_set_self hiσ] at e2
        cases e2
        exact ⟨u, r, .inr ⟨.inl hk, c, hc, hc'⟩⟩
      · rw [List.getElem?_set_ne (Ne.symm hj)] at e2
        obtain ⟨u', r', q⟩ := hl j y v' e1 e2 e3
        refine ⟨u', r', ?_⟩
        rcases q with q | ⟨k, c', e, z'⟩
        · exact .inl q
        · refine .inr ⟨k, c', e, z'.sameBut hs ?_⟩
          rintro rfl
          exact hj (nodup_ix hN e1 (I.ok.inj _ _ _ e hc ▸ hi))
    · by_cases hcc : c' = c
      · subst hcc; exact ⟨_, hc'⟩
      · obtain ⟨w2, z2⟩ := I.cell y c' e
        exact ⟨w2, z2.sameBut hs hcc⟩
    · obtain ⟨e, n, ne, nf, d⟩ := I.pin p hp
      refine ⟨(hs.2 p.1 ?_).trans e, n, ne, nf, d⟩
      intro q
      rw [q, hoc] at e
      have q' : oc = p.2 := Option.some.inj e
      exact d w' (by rw [← q']; exact hocd)
theorem store_ok {M : Model} {A : Around} {E : Value → Shared → Prop} {i : Nat} {x : Str} {v : V} {u : Value} {Q : Unit → Shared → Prop} (I : Inv X pins σ H s) (hN : X.N.Nodup) (hi : X.N[i]? = some x) (hx : Loc X.env.scope x) (r : RelV v u)
    (h : ∀ s', Inv X pins (σ.set i (some v)) H s' → Q () s') (hf : X.fn x = true ∨ X.env.scope.names.lookup x = some .local := by first | exact .inl rfl | exact .inr rfl | assumption) : wpAny M A (storeName X.env x u) Q E s :=
  store_ok2 I hN hi hx r (fun s' I' _ => h s' I') hf
theorem Inv.call' {s' : Shared} {ch : List Addr} (I : Inv X pins σ H s) (ho : s'.os = s.os) (u : Un (frs X.stack) ch H H' s.heap s'.heap) (hok : HOk X.prog X.w H' s'.heap) (hg : AllBare s'.gens)
    (hch : ∀ b ∈ ch, (b ∈ X.ex ∨ X.s₀.heap.objs.size ≤ b) ∧ b ≠ X.env.locals ∧ (∀ x c, X.env.cells.lookup x = some c → c ≠ b) ∧ ∀ p ∈ X.pn ++ pins, p.1 ≠ b) : Inv X pins σ H' s' := by
  obtain ⟨h', g', d', t', o'⟩ := s'
  have e : o' = s.os := ho
  subst e
  exact I.call (g' := g') (t' := t') (d' := d') u hok hg hch
end

noncomputable abbrev XK := Value → Option Addr → Hp → Prop
noncomputable abbrev St := List (Option V)
noncomputable abbrev VK := V → Hp → Prop
noncomputable abbrev TE := St → Hp → VK → Prop
noncomputable abbrev TT := St → Hp → (Bool → Hp → Prop) → Prop
noncomputable abbrev TA := St → Hp → (List V → Hp → Prop) → Prop
set_option genInjectivity false in
structure Ends where
  nx : St → Hp → Prop
  rt : VK
  bk : St → Hp → Prop := fun _ _ => False
  ct : St → Hp → Prop := fun _ _ => False
noncomputable abbrev TS := Ends → St → Hp → Prop

noncomputable def EP (X : Cx) (pins : List (Addr × Obj)) (σ : St) (Q : VK) (u : Value) (s' : Shared) : Prop := ∃ v H', Inv X pins σ H' s' ∧ RelV v u ∧ Q v H'
noncomputable def TP (X : Cx) (pins : List (Addr × Obj)) (σ : St) (Q : Bool → Hp → Prop) (b : Bool) (s' : Shared) : Prop := ∃ H', Inv X pins σ H' s' ∧ Q b H'
noncomputable def AP (X : Cx) (pins : List (Addr × Obj)) (σ : St) (Q : List V → Hp → Prop) (us : List Value) (s' : Shared) : Prop := ∃ vs H', Inv X pins σ H' s' ∧ Vals vs us ∧ Q vs H'
noncomputable def SP (X : Cx) (pins : List (Addr × Obj)) (D : Ends) (f : Flow) (s' : Shared) : Prop :=
  match f with
  | .next => ∃ σ' H', Inv X pins σ' H' s' ∧ D.nx σ' H'
  | .brk => ∃ σ' H', Inv X pins σ' H' s' ∧ D.bk σ' H'
  | .cont => ∃ σ' H', Inv X pins σ' H' s' ∧ D.ct σ' H'
  | .ret u => ∃ v σ' H', Inv X pins σ' H' s' ∧ RelV v u ∧ D.rt v H'

noncomputable def PE (X : Cx) (e : Expr) (t : TE) : Prop :=
  ∀ (pins : List (Addr × Obj)) (s : Shared) (σ : St) (H : Hp) (Q : VK), Inv X pins σ H s → t σ H Q → wpAny (model X.prog X.w) X.A (eval e X.env) (EP X pins σ Q) X.xe s
noncomputable def PT (X : Cx) (e : Expr) (t : TT) : Prop :=
  ∀ (pins : List (Addr × Obj)) (s : Shared) (σ : St) (H : Hp) (Q : Bool → Hp → Prop), Inv X pins σ H s → t σ H Q → wpAny (model X.prog X.w) X.A (isTrue e X.env (eval e X.env)) (TP X pins σ Q) X.xe s
noncomputable def PW (X : Cx) (e : Expr) (t : TT) : Prop :=
  ∀ (whole : Sem Value) (pins : List (Addr × Obj)) (s : Shared) (σ : St) (H : Hp) (Q : Bool → Hp → Prop), Inv X pins σ H s → t σ H Q → wpAny (model X.prog X.w) X.A (isTrue e X.env whole) (TP X pins σ Q) X.xe s
theorem PW.pt {X : Cx} {e : Expr} {t : TT} (h : PW X e t) : PT X e t := h _
noncomputable def PA (X : Cx) (es : List Expr) (t : TA) : Prop :=
  ∀ (pos : Pos) (pins : List (Addr × Obj)) (s : Shared) (σ : St) (H : Hp) (Q : List V → Hp → Prop), Inv X pins σ H s → t σ H Q → wpAny (model X.prog X.w) X.A (spliced (backTo pos (starEach es X.env))) (AP X pins σ Q) X.xe s
noncomputable def PS (X : Cx) (st : Stmt) (t : TS) : Prop :=
  ∀ (pins : List (Addr × Obj)) (s : Shared) (σ : St) (H : Hp) (D : Ends), Inv X pins σ H s → t D σ H → wpAny (model X.prog X.w) X.A (exec st X.env) (SP X pins D) X.xe s
noncomputable def PSs (X : Cx) (st : List Stmt) (t : TS) : Prop :=
  ∀ (pins : List (Addr × Obj)) (s : Shared) (σ : St) (H : Hp) (D : Ends), Inv X pins σ H s → t D σ H → wpAny (model X.prog X.w) X.A (execs st X.env) (SP X pins D) X.xe s
theorem thn {α : Type} {t : Sem α} {Q Q' : α → Shared → Prop} {M : Model} {A : Around} {E : Value → Shared → Prop} {s : Shared} (h : wpAny M A t Q E s) (hQ : ∀ a s, Q a s → Q' a s) : wpAny M A t Q' E s := wpAny_mono h hQ fun _ _ x => x
end L2

namespace L2
open PySem PySem.Spec PyProof.Rows
section
variable {X : Cx}

noncomputable def tVar (i : Nat) : TE := fun σ H Q => ∃ v, σ[i]? = some (some v) ∧ Q v H
noncomputable def tC (v : V) : TE := fun _ H Q => Q v H
theorem pe_var {i : Nat} {x : Str} {pos : Pos} (hN : X.N[i]? = some x) (hv : Vis X.env.scope x) (hd : (x == ("__debug__" : Str)) = false := by decide) (hcd : (x == ("__classdict__" : Str)) = false := by decide) : PE X (.Name x pos) (tVar i) := by
  intro pins s σ H Q I h
  obtain ⟨v, e, h⟩ := h
  obtain ⟨m, hn, hl⟩ := I.loc
  obtain ⟨u, r, l⟩ := hl i x v hN e hv
  have fin : EP X pins σ Q u s := ⟨v, H, I, r, h⟩
  rcases l with ⟨hk, hm⟩ | ⟨hk, c, hc, hcell⟩
  · exact wpAny_Name (wpAny_loadName_local I.ok.kind hk hn hm fin) hd
  · rcases hk with hk | hk
    · exact wpAny_Name (wpAny_loadName_cell I.ok.kind hk hc hcell fin) hd
    · exact wpAny_Name (wpAny_loadName_free I.ok.kind hk hc hcell fin hcd) hd
theorem pe_int {i j pos} : PE X (.Constant (.int i) j pos) (tC (.int i)) := fun _ _ _ H _ I h => wpAny_Constant_int ⟨.int i, H, I.tok _, ⟨_, rfl⟩, h⟩
theorem pe_bl {b j pos} : PE X (.Constant (.bool b) j pos) (tC (.bl b)) := fun _ _ _ H _ I h => Constant_bool ⟨.bl b, H, I, rfl, h⟩
theorem pe_non {j pos} : PE X (.Constant .none j pos) (tC .non) := fun _ _ _ H _ I h => Constant_none ⟨.non, H, I, rfl, h⟩
theorem pe_str {x j pos} : PE X (.Constant (.str x) j pos) (tC (.str x)) := fun _ _ _ H _ I h => Calls.Constant_str ⟨.str x, H, I.tok _, ⟨_, rfl⟩, h⟩

noncomputable def Gl (X : Cx) (x : Str) : Prop := X.env.kindOf x = some .globalImplicit
theorem ld_glob {E : Value → Shared → Prop} {pins : List (Addr × Obj)} {s : Shared} {σ : St} {H : Hp} {x : Str} {u : Value} {pos : Pos} {Q : Value → Shared → Prop} (I : Inv X pins σ H s) (hg : Gl X x) (hm : X.mg x = some u) (h : Q u s)
    (hd : (x == ("__debug__" : Str)) = false := by decide) : wpAny (model X.prog X.w) X.A (eval (.Name x pos) X.env) Q E s :=
  Calls.Name_function_global I.ok.kind hg (Calls.loadGlobal_global (by rw [I.ok.glob]; exact I.mod.glob.keeps I.bk) hm h) hd
theorem ld_blt {E : Value → Shared → Prop} {pins : List (Addr × Obj)} {s : Shared} {σ : St} {H : Hp} {x : Str} {u : Value} {pos : Pos} {Q : Value → Shared → Prop} (I : Inv X pins σ H s) (hg : Gl X x) (hm : X.mg x = none) (hv : bootBuiltins x = some u) (h : Q u s)
    (hn : x ≠ "__name__" := by decide) (hd : (x == ("__debug__" : Str)) = false := by decide) : wpAny (model X.prog X.w) X.A (eval (.Name x pos) X.env) Q E s := by
  obtain ⟨mb, h1, h2⟩ := I.mod.blt
  exact Calls.Name_function_global I.ok.kind hg (Calls.loadGlobal_builtin (by rw [I.ok.glob]; exact I.mod.glob.keeps I.bk) hm (by rw [I.ok.blt]; exact h1.keeps I.bk) ((h2 x hn).trans hv) h) hd
theorem pe_glob {x : Str} {v : V} {u : Value} {pos : Pos} (hg : Gl X x) (hm : X.mg x = some u) (r : RelV v u) (hd : (x == ("__debug__" : Str)) = false := by decide) : PE X (.Name x pos) (tC v) :=
  fun _ _ _ H _ I h => ld_glob I hg hm ⟨v, H, I, r, h⟩ hd
theorem pe_bltn {x : Str} {v : V} {u : Value} {pos : Pos} (hg : Gl X x) (hm : X.mg x = none) (hv : bootBuiltins x = some u) (r : RelV v u) (hn : x ≠ "__name__" := by decide) (hd : (x == ("__debug__" : Str)) = false := by decide) : PE X (.Name x pos) (tC v) :=
  fun _ _ _ H _ I h => ld_blt I hg hm hv ⟨v, H, I, r, h⟩ hn hd

variable {a b : Expr} {ta tb : TE} {pos : Pos}
noncomputable def tB (t : TE) : TT := fun σ H Q => t σ H fun x H1 => ∃ c, x = .bl c ∧ Q c H1
theorem pt_val {e : Expr} {t : TE} (h : PE X e t) (he : ∀ whole, isTrue e X.env whole = (do let v ← whole; standAt e.pos; holding [v] (truthy v)) := by intro _; rfl) : PT X e (tB t) := by
  intro pins s σ H Q I hw
  refine isTrue_plain (thn (h pins s σ H _ I hw) fun v s1 ⟨x, H1, I1, r1, q1⟩ => ?_) (he _)
  obtain ⟨d, rfl, q⟩ := q1
  cases r1
  exact wpAny_truthy_bool ⟨H1, I1, q⟩

variable {tA tB' : TT} {rest : List Expr}
noncomputable def tAnd (t u : TT) : TT := fun σ H Q => t σ H fun c H1 => if c = true then u σ H1 Q else Q false H1
noncomputable def tOr (t u : TT) : TT := fun σ H Q => t σ H fun c H1 => if c = true then Q true H1 else u σ H1 Q
noncomputable def tNot (t : TT) : TT := fun σ H Q => t σ H fun c H1 => Q (!c) H1
theorem pw_and1 (ha : PT X a tA) : PW X (.BoolOp .And [a] pos) tA := by
  intro wh pins s σ H Q I h
  refine isTrue_and (thn (ha pins s σ H Q I h) fun c s1 e => ?_)
  cases c with
  | true => exact isTrue_and_nil e
  | false => exact e
theorem pw_or1 (ha : PT X a tA) : PW X (.BoolOp .Or [a] pos) tA := by
  intro wh pins s σ H Q I h
  refine isTrue_or (thn (ha pins s σ H Q I h) fun c s1 e => ?_)
  cases c with
  | false => exact isTrue_or_nil e
  | true => exact e
theorem pw_and (ha : PT X a tA) (hb : PW X (.BoolOp .And (b :: rest) pos) tB') : PW X (.BoolOp .And (a :: b :: rest) pos) (tAnd tA tB') := by
  intro wh pins s σ H Q I h
  refine isTrue_and (thn (ha pins s σ H _ I h) fun c s1 ⟨H1, I1, q1⟩ => ?_)
  cases c with
  | true => exact hb wh pins s1 σ H1 Q I1 q1
  | false => exact ⟨H1, I1, q1⟩
theorem pw_or (ha : PT X a tA) (hb : PW X (.BoolOp .Or (b :: rest) pos) tB') : PW X (.BoolOp .Or (a :: b :: rest) pos) (tOr tA tB') := by
  intro wh pins s σ H Q I h
  refine isTrue_or (thn (ha pins s σ H _ I h) fun c s1 ⟨H1, I1, q1⟩ => ?_)
  cases c with
  | true => exact ⟨H1, I1, q1⟩
  | false => exact hb wh pins s1 σ H1 Q I1 q1
theorem pt_not (ha : PT X a tA) : PT X (.UnaryOp .Not a pos) (tNot tA) := by
  intro pins s σ H Q I h
  exact isTrue_not (ha pins s σ H (fun c H1 => Q (!c) H1) I h)
noncomputable def tAndV (ta tb : TE) : TE := fun σ H Q => ta σ H fun x H1 => ∃ c, x = .bl c ∧ if c = true then tb σ H1 Q else Q (.bl false) H1
noncomputable def tOrV (ta tb : TE) : TE := fun σ H Q => ta σ H fun x H1 => ∃ c, x = .bl c ∧ if c = true then Q (.bl true) H1 else tb σ H1 Q
theorem pe_one {op} {t : TE} (h : PE X a t) : PE X (.BoolOp op [a] pos) t := fun pins s σ H Q I hw => BoolOp_one (h pins s σ H Q I hw)
theorem pe_and (ha : PE X a ta) (hb : PE X (.BoolOp .And (b :: rest) pos) tb) : PE X (.BoolOp .And (a :: b :: rest) pos) (tAndV ta tb) := by
  intro pins s σ H Q I h
  refine BoolOp_and (thn (ha pins s σ H _ I h) fun v s1 ⟨x, H1, I1, r1, q1⟩ => ?_)
  obtain ⟨c, rfl, q1⟩ := q1
  cases r1
  refine wpAny_truthy_bool ?_
  cases c with
  | true => exact hb pins s1 σ H1 Q I1 q1
  | false => exact ⟨.bl false, H1, I1, rfl, q1⟩
theorem pe_or (ha : PE X a ta) (hb : PE X (.BoolOp .Or (b :: rest) pos) tb) : PE X (.BoolOp .Or (a :: b :: rest) pos) (tOrV ta tb) := by
  intro pins s σ H Q I h
  refine BoolOp_or (thn (ha pins s σ H _ I h) fun v s1 ⟨x, H1, I1, r1, q1⟩ => ?_)
  obtain ⟨c, rfl, q1⟩ := q1
  cases r1
  refine wpAny_truthy_bool ?_
  cases c with
  | false => exact hb pins s1 σ H1 Q I1 q1
  | true => exact ⟨.bl true, H1, I1, rfl, q1⟩
noncomputable def tIf (t : TT) (ta tb : TE) : TE := fun σ H Q => t σ H fun c H1 => if c = true then ta σ H1 Q else tb σ H1 Q
theorem pe_ifExp {c : Expr} (hc : PT X c tA) (ha : PE X a ta) (hb : PE X b tb) : PE X (.IfExp c a b pos) (tIf tA ta tb) := by
  intro pins s σ H Q I h
  refine wpAny_IfExp (thn (hc pins s σ H _ I h) fun d s1 ⟨H1, I1, q1⟩ => ?_)
  cases d with
  | true => exact ha pins s1 σ H1 Q I1 q1
  | false => exact hb pins s1 σ H1 Q I1 q1
end
end L2

namespace L2
open PySem PySem.Spec PyProof.Rows

noncomputable def SqL (K : PySem.W.Frag) (H : Hp) (a : Addr) (xs : List V) : Prop :=
  Rd H a (.lst xs) ∨
    ∃ (o : Obj) (its : Array Value) (n : Nat), K.lookup a = some o ∧ o.cls = .type "list" ∧ o.dict = none ∧ o.data = .seq its n ∧ its.size ≤ sizeLine ∧ Vals xs its.toList
noncomputable def SqT (K : PySem.W.Frag) (H : Hp) (a : Addr) (xs : List V) : Prop :=
  Rd H a (.tup xs) ∨
    ∃ (o : Obj) (its : Array Value) (n : Nat), K.lookup a = some o ∧ o.cls = .type "tuple" ∧ o.data = .seq its n ∧ its.size ≤ sizeLine ∧ Vals xs its.toList
noncomputable def absV : Value → Option V
  | .none => some .non
  | .bool b => some (.bl b)
  | .int i _ => some (.int i)
  | .str x _ => some (.str x)
  | .bytes b _ => some (.byt b)
  | .float b _ => some (.flt b)
  | .ref a => some (.ref a)
  | .type n => some (.ty n)
  | _ => none
theorem RelV.abs {x : V} {u : Value} (r : RelV x u) : absV u = some x := by
  cases x with
  | non => cases r; rfl
  | bl _ => cases r; rfl
  | int _ => obtain ⟨t, rfl⟩ := r; rfl
  | str _ => obtain ⟨t, rfl⟩ := r; rfl
  | byt _ => obtain ⟨t, rfl⟩ := r; rfl
  | flt _ => obtain ⟨t, rfl⟩ := r; rfl
  | ref _ => cases r; rfl
  | ty _ => cases r; rfl
theorem RelV.inj {x y : V} {u : Value} (r : RelV x u) (q : RelV y u) : x = y := Option.some.inj (r.abs.symm.trans q.abs)
theorem Vals.inj : ∀ {xs ys : List V} {us : List Value}, Vals xs us → Vals ys us → xs = ys
  | _, _, _, .nil, .nil => rfl
  | _, _, _, .cons r t, .cons r' t' => by rw [r.inj r', Vals.inj t t']
section
variable {X : Cx} {pins : List (Addr × Obj)} {σ : St} {H : Hp} {s : Shared} {a : Addr} {xs ys : List V}
theorem SqL.of {K : PySem.W.Frag} (h : H a = some (.lst xs)) : SqL K H a xs := .inl (.inl h)
theorem SqT.of {K : PySem.W.Frag} (h : H a = some (.tup xs)) : SqT K H a xs := .inl (.inl h)
theorem Inv.list (I : Inv X pins σ H s) (h : SqL X.K H a xs) : ∃ its : List Value, Vals xs its ∧ PlainL s.heap a its.toArray ∧ xs.length ≤ sizeLine := by
  rcases h with h | ⟨o, its, n, hk, hc, hd, hs, hz, r⟩
  · obtain ⟨z, its, n, r, e⟩ := h.ok I.hok
    exact ⟨its, r, ⟨_, n, e, rfl, rfl, rfl⟩, z⟩
  · refine ⟨its.toList, r, ⟨o, n, I.kIn a o hk, hc, hd, by simpa using hs⟩, ?_⟩
    have e := r.length
    simp only [Array.length_toList] at e
    omega
theorem Inv.tuple (I : Inv X pins σ H s) (h : SqT X.K H a xs) : ∃ its : List Value, Vals xs its ∧ IsTup s.heap a its.toArray ∧ xs.length ≤ sizeLine := by
  rcases h with h | ⟨o, its, n, hk, hc, hs, hz, r⟩
  · obtain ⟨z, its, r, p⟩ := h.ok I.hok
    exact ⟨its, r, p, z⟩
  · refine ⟨its.toList, r, ⟨o, I.kIn a o hk, hc, n, by simpa using hs⟩, ?_⟩
    have e := r.length
    simp only [Array.length_toList] at e
    omega
theorem Inv.list_inj (I : Inv X pins σ H s) (h : SqL X.K H a xs) (h' : SqL X.K H a ys) : xs = ys := by
  obtain ⟨its, r, ⟨o, n, e, _, _, d⟩, _⟩ := I.list h
  obtain ⟨its', r', ⟨o', n', e', _, _, d'⟩, _⟩ := I.list h'
  rw [e] at e'; cases e'
  rw [d] at d'
  injection d' with d1 _
  have : its = its' := by simpa using congrArg Array.toList d1
  subst this
  exact r.inj r'
theorem Inv.tuple_inj (I : Inv X pins σ H s) (h : SqT X.K H a xs) (h' : SqT X.K H a ys) : xs = ys := by
  obtain ⟨its, r, ⟨o, e, _, n, d⟩, _⟩ := I.tuple h
  obtain ⟨its', r', ⟨o', e', _, n', d'⟩, _⟩ := I.tuple h'
  rw [e] at e'; cases e'
  rw [d] at d'
  injection d' with d1 _
  have : its = its' := by simpa using congrArg Array.toList d1
  subst this
  exact r.inj r'
end

noncomputable abbrev Cx.wish (X : Cx) (E : Value → Shared → Prop) : Cx := { X with xe := E }
noncomputable abbrev Cx.nox (X : Cx) : Cx := X.wish fun _ _ => False
theorem Cx.Ok.wish {X : Cx} (ok : X.Ok) (E : Value → Shared → Prop) : (X.wish E).Ok :=
  ⟨ok.mod, ok.kind, ok.glob, ok.blt, ok.above, ok.inj, ok.has, ok.cab, ok.hd, ok.frames, ok.stk, ok.exf, ok.bs, ok.bsz, ok.noex, ok.exfs, ok.funs, ok.frf⟩
theorem Cx.Ok.unwish {X : Cx} {E : Value → Shared → Prop} (ok : (X.wish E).Ok) : X.Ok :=
  ⟨ok.mod, ok.kind, ok.glob, ok.blt, ok.above, ok.inj, ok.has, ok.cab, ok.hd, ok.frames, ok.stk, ok.exf, ok.bs, ok.bsz, ok.noex, ok.exfs, ok.funs, ok.frf⟩
section
variable {X : Cx} {pins : List (Addr × Obj)} {σ : St} {H : Hp} {s : Shared} {E : Value → Shared → Prop}
theorem Inv.wish (I : Inv X pins σ H s) (E : Value → Shared → Prop) : Inv (X.wish E) pins σ H s := ⟨I.ok.wish E, I.os, I.bare, I.base, I.loc, I.cell, I.free, I.freeC, I.pin, I.hok, I.len⟩
theorem Inv.unwish (I : Inv (X.wish E) pins σ H s) : Inv X pins σ H s := ⟨I.ok.unwish, I.os, I.bare, I.base, I.loc, I.cell, I.free, I.freeC, I.pin, I.hok, I.len⟩
theorem SP.unwish {D : Ends} {f : Flow} {s' : Shared} (h : SP (X.wish E) pins D f s') : SP X pins D f s' := by
  cases f with
  | next => obtain ⟨σ', H', I, q⟩ := h; exact ⟨σ', H', I.unwish, q⟩
  | brk => obtain ⟨σ', H', I, q⟩ := h; exact ⟨σ', H', I.unwish, q⟩
  | cont => obtain ⟨σ', H', I, q⟩ := h; exact ⟨σ', H', I.unwish, q⟩
  | ret u => obtain ⟨v, σ', H', I, r, q⟩ := h; exact ⟨v, σ', H', I.unwish, r, q⟩
theorem PSs.nox {st : List Stmt} {t : TS} (h : PSs X.nox st t) : PSs X st t := fun pins s σ H D I hw =>
  wpAny_mono (h pins s σ H D (I.wish _) hw) (fun _ _ q => q.unwish) fun _ _ z => False.elim z
end

section
variable {X : Cx} {st : Stmt} {rest : List Stmt} {t u : TS} {e : Expr} {te : TE} {pos : Pos}
noncomputable def tNext : TS := fun D σ H => D.nx σ H
noncomputable def tSeq (t u : TS) : TS := fun D σ H => t { D with nx := u D } σ H
theorem pss_nil : PSs X [] tNext := fun _ _ σ H _ I h => wpAny_execs_nil ⟨σ, H, I, h⟩
theorem pss_cons (h1 : PS X st t) (h2 : PSs X rest u) : PSs X (st :: rest) (tSeq t u) := by
  intro pins s σ H D I h
  refine wpAny_execs_cons (thn (h1 pins s σ H { D with nx := u D } I h) fun f s1 q => ?_)
  cases f with
  | next =>
    obtain ⟨σ', H', I', q⟩ := q
    exact h2 pins s1 σ' H' D I' q
  | ret v => exact q
  | brk => exact q
  | cont => exact q
theorem pss_one (h1 : PS X st t) : PSs X [st] t := by
  intro pins s σ H D I h
  refine wpAny_execs_cons (thn (h1 pins s σ H D I h) fun f s1 q => ?_)
  cases f with
  | next => exact wpAny_execs_nil q
  | ret v => exact q
  | brk => exact q
  | cont => exact q
theorem Inv.quiet {pins : List (Addr × Obj)} {σ : St} {H : Hp} {s : Shared} (I : Inv X pins σ H s) : interactive X.env = false := by simp [interactive, I.ok.kind]
noncomputable def tDrop (te : TE) : TS := fun D σ H => te σ H fun _ H1 => D.nx σ H1
theorem ps_expr (he : PE X e te) (hs : swapsWith e none pos.line X.env = pure false := by rfl) : PS X (.Expr e pos) (tDrop te) := by
  intro pins s σ H D I h
  exact wpAny_Expr_any (thn (he pins s σ H _ I h) fun v s1 ⟨x, H1, I1, r1, q1⟩ => ⟨σ, H1, I1, q1⟩) I.quiet hs
noncomputable def tRet (te : TE) : TS := fun D σ H => te σ H D.rt
theorem ps_ret (he : PE X e te) : PS X (.Return (some e) pos) (tRet te) := by
  intro pins s σ H D I h
  exact wpAny_Return_some (thn (he pins s σ H _ I h) fun v s1 ⟨x, H1, I1, r1, q1⟩ => ⟨x, σ, H1, I1, r1, q1⟩)
noncomputable def tIfS (c : TT) (t u : TS) : TS := fun D σ H => c σ H fun b H1 => if b = true then t D σ H1 else u D σ H1
theorem ps_if {c : Expr} {a b : List Stmt} {tc : TT} (hc : PT X c tc) (ha : PSs X a t) (hb : PSs X b u) : PS X (.If c a b pos) (tIfS tc t u) := by
  intro pins s σ H D I h
  refine wpAny_If (thn (hc pins s σ H _ I h) fun d s1 ⟨H1, I1, q1⟩ => ?_)
  cases d with
  | true => exact ha pins s1 σ H1 D I1 q1
  | false => exact hb pins s1 σ H1 D I1 q1
end

noncomputable abbrev TG := V → St → Hp → (St → Hp → Prop) → Prop
noncomputable abbrev TGs := List V → St → Hp → (St → Hp → Prop) → Prop
noncomputable def PG (X : Cx) (target : Expr) (t : TG) : Prop :=
  ∀ (pins : List (Addr × Obj)) (s : Shared) (σ : St) (H : Hp) (v : V) (u : Value) (Q : St → Hp → Prop), Inv X pins σ H s → RelV v u → t v σ H Q →
    wpAny (model X.prog X.w) X.A (assign target X.env u) (fun _ s' => ∃ σ' H', Inv X pins σ' H' s' ∧ Q σ' H') X.xe s
noncomputable def PGs (X : Cx) (ts : List Expr) (t : TGs) : Prop :=
  ∀ (pins : List (Addr × Obj)) (s : Shared) (σ : St) (H : Hp) (vs : List V) (us : List Value) (Q : St → Hp → Prop), Inv X pins σ H s → Vals vs us → t vs σ H Q →
    wpAny (model X.prog X.w) X.A (assignInOrder ((assignEach ts X.env).map (·.2)) us) (fun _ s' => ∃ σ' H', Inv X pins σ' H' s' ∧ Q σ' H') X.xe s
noncomputable abbrev TSet := V → V → V → Hp → (Hp → Prop) → Prop
noncomputable def PSet (X : Cx) (t : TSet) : Prop :=
  ∀ (pins : List (Addr × Obj)) (s : Shared) (σ : St) (H : Hp) (o i v : V) (ov iv u : Value) (Q : Hp → Prop), Inv X pins σ H s → RelV o ov → RelV i iv → RelV v u → t o i v H Q →
    wpAny (model X.prog X.w) X.A (setItem ov iv u) (fun _ s' => ∃ H', Inv X pins σ H' s' ∧ Q H') X.xe s
section
variable {X : Cx} {pos : Pos}
noncomputable def gName (i : Nat) : TG := fun v σ H Q => Q (σ.set i (some v)) H
theorem pg_name {i : Nat} {x : Str} (hN : X.N.Nodup) (hi : X.N[i]? = some x) (hx : Loc X.env.scope x) (hf : X.fn x = true ∨ X.env.scope.names.lookup x = some .local := by first | exact .inl rfl | exact .inr rfl | assumption) : PG X (.Name x pos) (gName i) := by
  intro pins s σ H v u Q I r h
  exact wpAny_assign_Name (store_ok I hN hi hx r (fun s' I' => ⟨_, H, I', h⟩) hf)
noncomputable def gNil : TGs := fun vs σ H Q => vs = [] ∧ Q σ H
noncomputable def gCons (t : TG) (u : TGs) : TGs := fun vs σ H Q => ∃ v r, vs = v :: r ∧ t v σ H fun σ' H' => u r σ' H' Q
theorem pgs_nil : PGs X [] gNil := by
  intro pins s σ H vs us Q I r h
  obtain ⟨e, h⟩ := h
  subst e
  cases r
  exact assignInOrder_nil ⟨σ, H, I, h⟩
theorem pgs_cons {e : Expr} {es : List Expr} {t : TG} {u : TGs} (h1 : PG X e t) (h2 : PGs X es u)
    (hs : (assignEach (e :: es) X.env).map (·.2) = assign e X.env :: (assignEach es X.env).map (·.2) := by rfl) : PGs X (e :: es) (gCons t u) := by
  intro pins s σ H vs us Q I r h
  obtain ⟨v, vr, e1, h⟩ := h
  subst e1
  cases r with
  | cons r rr =>
    rw [hs]
    refine assignInOrder_cons (thn (h1 pins s σ H _ _ _ I r h) fun _ s1 ⟨σ1, H1, I1, q1⟩ => ?_)
    exact h2 pins s1 σ1 H1 _ _ Q I1 rr q1
noncomputable def gTup (K : PySem.W.Frag) (n : Nat) (t : TGs) : TG := fun v σ H Q => ∃ a xs, v = .ref a ∧ SqT K H a xs ∧ xs.length = n ∧ t xs σ H Q
theorem pg_tup {es : List Expr} {k : Nat} {t : TGs} {n : Nat} (hc : X.calm = true) (h : PGs X es t)
    (hn : (assignEach es X.env).length = n := by rfl) (hst : (assignEach es X.env).findIdx? (·.1) = none := by rfl) : PG X (.Tuple es k pos) (gTup X.K n t) := by
  intro pins s σ H v u Q I r hw
  obtain ⟨a, xs, e1, hq, hl, hw⟩ := hw
  subst e1
  cases r
  obtain ⟨its, rv, ht, hz⟩ := I.tuple hq
  refine assign_Tuple_tuple (I.ok.hd hc) ht (by simp [hn, ← hl, rv.length]) hst fun h' hx => ?_
  have I1 : Inv X pins σ H { s with heap := h' } := I.kept (t' := s.toks) fun b o e => hx b o (Nat.ne_of_lt (Heap.lt_size e)) e
  exact h pins _ σ H xs _ Q I1 (by simpa using rv) hw
noncomputable def gSub (to ti : TE) (t : TSet) : TG := fun v σ H Q => to σ H fun o H1 => ti σ H1 fun i H2 => t o i v H2 fun H3 => Q σ H3
theorem pg_sub {o i : Expr} {to ti : TE} {t : TSet} (ho : PE X o to) (hi : PE X i ti) (hs : PSet X t)
    (ha : ∀ v, assign (.Subscript o i pos) X.env v = (do
      let ov ← holding [v] (eval o X.env)
      let iv ← holding [v, ov] (eval i X.env)
      standAt pos
      holding [v, ov, iv] (setItem ov iv v)
      release [v, ov, iv] []) := by intro _; rfl) : PG X (.Subscript o i pos) (gSub to ti t) := by
  intro pins s σ H v u Q I r h
  rw [ha]
  refine wpAny_bind (wpAny_holding (thn (ho pins s σ H _ I h) fun ov s1 ⟨x, H1, I1, r1, q1⟩ => ?_))
  refine wpAny_bind (wpAny_holding (thn (hi pins s1 σ H1 _ I1 q1) fun iv s2 ⟨y, H2, I2, r2, q2⟩ => ?_))
  refine wpAny_bind (wpAny_standAt (wpAny_bind (wpAny_holding (thn (hs pins s2 σ H2 x y v ov iv u _ I2 r1 r2 r q2) fun _ s3 ⟨H3, I3, q3⟩ => ?_))))
  exact wpAny_release ⟨σ, H3, I3, q3⟩
noncomputable def tAsg (te : TE) (g : TG) : TS := fun D σ H => te σ H fun x H1 => g x σ H1 D.nx
theorem ps_asg {tg e : Expr} {te : TE} {g : TG} (he : PE X e te) (hg : PG X tg g) (hs : swapsWithSole [tg] e pos.line X.env = pure false := by rfl) (hw : swappedStores [tg] e X.env = pure none := by rfl)
    (h1 : (assignEach [tg] X.env).map (·.2) = [assign tg X.env] := by rfl) : PS X (.Assign [tg] e pos) (tAsg te g) := by
  intro pins s σ H D I h
  refine wpAny_Assign_stores (thn (he pins s σ H _ I h) fun v s1 ⟨x, H1, I1, r1, q1⟩ => ?_) hs hw
  rw [h1]
  exact thn (hg pins s1 σ H1 x v _ I1 r1 q1) fun _ s2 q => q
theorem ps_set {i : Nat} {x : Str} {e : Expr} {te : TE} {pos' : Pos} (hN : X.N.Nodup) (hi : X.N[i]? = some x) (hx : Loc X.env.scope x) (he : PE X e te) (hs : swapsWith e (some (.Name x pos')) pos.line X.env = pure false := by rfl) (hf : X.fn x = true ∨ X.env.scope.names.lookup x = some .local := by first | exact .inl rfl | exact .inr rfl | assumption) :
    PS X (.Assign [.Name x pos'] e pos) (tAsg te (gName i)) := by
  intro pins s σ H D I h
  refine wpAny_Assign_Name (thn (he pins s σ H _ I h) fun v s1 ⟨y, H1, I1, r1, q1⟩ => ?_) hs
  exact store_ok I1 hN hi hx r1 (fun s2 I2 => ⟨_, H1, I2, q1⟩) hf
end

section
variable {X : Cx} {pos : Pos}
end

set_option genInjectivity false in
structure It where
  go : Nat → Hp → Prop
  yld : Nat → Hp → V → Hp → Prop
  stop : Nat → Hp → Prop
noncomputable def FpOk (X : Cx) (pins : List (Addr × Obj)) (H : Hp) (b : Addr) : Prop :=
  H b = none ∧ b ≠ X.env.locals ∧ b ∉ X.fs ∧ (b ∈ X.ex ∨ X.s₀.heap.objs.size ≤ b) ∧ (∀ x c, X.env.cells.lookup x = some c → c ≠ b) ∧ ∀ p ∈ X.pn ++ pins, p.1 ≠ b
theorem Inv.fpOk {X : Cx} {pins : List (Addr × Obj)} {σ : St} {H H' : Hp} {s : Shared} {b : Addr} (I : Inv X pins σ H s) (hb : s.heap.objs.size ≤ b) (hn : H' b = none) : FpOk X pins H' b := by
  refine ⟨hn, Nat.ne_of_gt (Nat.lt_of_lt_of_le I.lt hb), I.nofs hb, .inr (Nat.le_trans I.sz hb), fun x c e z => ?_, fun p hp z => ?_⟩
  · obtain ⟨v, q⟩ := I.cell x c e
    exact absurd (Nat.lt_of_lt_of_le q.lt (by rw [z]; exact hb)) (Nat.lt_irrefl _)
  · exact absurd (Nat.lt_of_lt_of_le (Heap.lt_size (I.pin p hp).1) (by rw [z]; exact hb)) (Nat.lt_irrefl _)
set_option genInjectivity false in
structure Turn (P : Program) (w : World) (K : PySem.W.Frag) (tg : Expr) (J : It) (fp : List Addr) (it : Addr) (tn : Nat → Heap → Prop) : Prop where
  mem : it ∈ fp
  obj : ∀ i h, tn i h → ∀ b ∈ fp, ∃ o, h.get? b = some o ∧ ∀ v, o.data ≠ .cell v
  keep : ∀ i h h', tn i h → (∀ b ∈ fp, ∀ o, h.get? b = some o → h'.get? b = some o) → tn i h'
  item : ∀ (X : Cx), X.prog = P → X.w = w → X.K = K → X.calm = true → ∀ (i : Nat) (pins : List (Addr × Obj)) (s : Shared) (σ : St) (H : Hp) (E : Value → Shared → Prop), Inv X pins σ H s → (∀ b ∈ fp, FpOk X pins H b) → tn i s.heap → J.go i H →
    wpAny (model P w) X.A (pyNext (.ref it)) (fun r s1 => ∃ u, r = some u ∧
      wpAny (model P w) X.A (letOwnedTupleGo tg (.ref it) u) (fun _ s2 => ∃ x H', Inv X pins σ H' s2 ∧ RelV x u ∧ J.yld i H x H' ∧ tn (i + 1) s2.heap ∧ ∀ b ∈ fp, H' b = none) E s1) E s
  done : ∀ (X : Cx), X.prog = P → X.w = w → X.K = K → X.calm = true → ∀ (i : Nat) (pins : List (Addr × Obj)) (s : Shared) (σ : St) (H : Hp) (E : Value → Shared → Prop), Inv X pins σ H s → (∀ b ∈ fp, FpOk X pins H b) → tn i s.heap → J.stop i H →
    wpAny (model P w) X.A (pyNext (.ref it)) (fun r s1 => r = none ∧ Inv X pins σ H s1) E s
  self : ∀ (A : Around) (i : Nat) (s : Shared) (Q : Value → Shared → Prop) (E : Value → Shared → Prop), tn i s.heap → Q (.ref it) s → wpAny (model P w) A (pyIter (.ref it)) Q E s
noncomputable abbrev TI := St → Hp → (It → Hp → Prop) → Prop
noncomputable def PIE (X : Cx) (pins : List (Addr × Obj)) (σ : St) (tg : Expr) (R : It → Hp → Prop) (itv : Value) (s2 : Shared) : Prop :=
  ∃ (it : Addr) (fp : List Addr) (tn : Nat → Heap → Prop) (J : It) (H' : Hp), itv = .ref it ∧ Inv X pins σ H' s2 ∧ Turn X.prog X.w X.K tg J fp it tn ∧ tn 0 s2.heap ∧ (∀ b ∈ fp, FpOk X pins H' b) ∧ R J H'
noncomputable def PI (X : Cx) (tg iter : Expr) (wi : TI) : Prop :=
  ∀ (pins : List (Addr × Obj)) (s : Shared) (σ : St) (H : Hp) (R : It → Hp → Prop), Inv X pins σ H s → wi σ H R →
    wpAny (model X.prog X.w) X.A (eval iter X.env) (fun v s1 => wpAny (model X.prog X.w) X.A (pyIter v) (PIE X pins σ tg R) X.xe s1) X.xe s

theorem go_of {M : Model} {A : Around} {E : Value → Shared → Prop} {s : Shared} {tg : Expr} {it : Addr} {u : Value} {o : Obj} {n : String} {vs : Array Value} {Q : Unit → Shared → Prop} (ho : s.heap.get? it = some o) (hc : o.cls = .type n) (hd : o.data = .fields vs)
    (hn : ["enumerate", "zip", "dict_itemiterator", "dict_reverseitemiterator", "odict_iterator", "itertools.zip_longest", "itertools.pairwise"].contains n = false) (hQ : Q () s) : wpAny M A (letOwnedTupleGo tg (.ref it) u) Q E s := by
  unfold letOwnedTupleGo
  cases tg <;> first
    | exact wpAny_pure hQ
    | (cases u <;> first
        | exact wpAny_pure hQ
        | (refine wpAny_bind (wpAny_load ho ?_)
           rw [hc, hd]
           show wpAny M A (if (["enumerate", "zip", "dict_itemiterator", "dict_reverseitemiterator", "odict_iterator", "itertools.zip_longest", "itertools.pairwise"].contains n && vs[0]? == some (rawInt _)) = true then _ else _) Q E s
           rw [if_neg (by intro h; rw [hn, Bool.false_and] at h; cases h)]
           exact wpAny_pure hQ))

noncomputable def Itl (K : PySem.W.Frag) (a : Addr) : It :=
  ⟨fun i H => ∃ xs x, SqL K H a xs ∧ xs[i]? = some x, fun i H x H' => H' = H ∧ ∀ xs, SqL K H a xs → xs[i]? = some x, fun i H => ∃ xs, SqL K H a xs ∧ xs.length ≤ i⟩
noncomputable def Itt (K : PySem.W.Frag) (a : Addr) : It :=
  ⟨fun i H => ∃ xs x, SqT K H a xs ∧ xs[i]? = some x, fun i H x H' => H' = H ∧ ∀ xs, SqT K H a xs → xs[i]? = some x, fun i H => ∃ xs, SqT K H a xs ∧ xs.length ≤ i⟩
noncomputable def Itr (lo : Int) (n : Nat) : It := ⟨fun i _ => i < n, fun i H x H' => H' = H ∧ x = .int (lo + i), fun i _ => n ≤ i⟩
theorem turn_list {P : Program} {w : World} {K : PySem.W.Frag} {tg : Expr} (a it : Addr) : Turn P w K tg (Itl K a) [it] it (fun i h => h.IsListIter it a i) where
  mem := by simp
  obj := fun i h st b hb => by
    have e : b = it := by simpa using hb
    subst e
    obtain ⟨o, e, c, d⟩ := st
    exact ⟨o, e, fun v z => by rw [d] at z; cases z⟩
  keep := fun i h h' st k => st.at fun o e => k it (by simp) o e
  item := by
    intro X hP hw hK hc i pins s σ H E I hf st hg
    subst hP hw hK
    obtain ⟨xs, x, hq, hx⟩ := hg
    obtain ⟨its, rv, p, hz⟩ := I.list hq
    obtain ⟨u, hu, ru⟩ := rv.get hx
    obtain ⟨f0, f1, f2, f3, f4, f5⟩ := hf it (by simp)
    refine wpAny_pyNext_list_item st p.isList (x := u) (by simpa using hu) fun h' st' sb => ?_
    have I1 : Inv X pins σ H { s with heap := h' } := I.turned (t' := s.toks) (fun b o hb e => (sb.2 b hb).trans e) f0 f1 f3 f4 f5
    obtain ⟨o, e, c, d⟩ := id st'
    exact ⟨u, rfl, go_of (s := { s with heap := h' }) e c d (by decide) ⟨x, H, I1, ru, ⟨rfl, fun ys hy => by rw [I.list_inj hy hq]; exact hx⟩, st', fun b hb => (hf b hb).1⟩⟩
  done := by
    intro X hP hw hK hc i pins s σ H E I hf st hg
    subst hP hw hK
    obtain ⟨xs, hq, hx⟩ := hg
    obtain ⟨its, rv, p, hz⟩ := I.list hq
    obtain ⟨f0, f1, f2, f3, f4, f5⟩ := hf it (by simp)
    have hl := rv.length
    exact wpAny_pyNext_list_end (I.ok.hd hc) st p.isList (by simp; omega) fun h' eb => ⟨rfl, I.turned (t' := s.toks) (fun b o hb e => eb b o hb e) f0 f1 f3 f4 f5⟩
  self := fun _ _ _ _ _ st h => wpAny_pyIter_listiter st h
theorem turn_tuple {P : Program} {w : World} {K : PySem.W.Frag} {tg : Expr} (a it : Addr) : Turn P w K tg (Itt K a) [it] it (fun i h => h.IsTupleIter it a i) where
  mem := by simp
  obj := fun i h st b hb => by
    have e : b = it := by simpa using hb
    subst e
    obtain ⟨o, e, c, d⟩ := st
    exact ⟨o, e, fun v z => by rw [d] at z; cases z⟩
  keep := fun i h h' st k => st.at fun o e => k it (by simp) o e
  item := by
    intro X hP hw hK hc i pins s σ H E I hf st hg
    subst hP hw hK
    obtain ⟨xs, x, hq, hx⟩ := hg
    obtain ⟨its, rv, p, hz⟩ := I.tuple hq
    obtain ⟨u, hu, ru⟩ := rv.get hx
    obtain ⟨f0, f1, f2, f3, f4, f5⟩ := hf it (by simp)
    refine wpAny_pyNext_tuple_item st (show s.heap.IsTuple a its.toArray from p) (x := u) (by simpa using hu) fun h' st' sb => ?_
    have I1 : Inv X pins σ H { s with heap := h' } := I.turned (t' := s.toks) (fun b o hb e => (sb.2 b hb).trans e) f0 f1 f3 f4 f5
    obtain ⟨o, e, c, d⟩ := id st'
    exact ⟨u, rfl, go_of (s := { s with heap := h' }) e c d (by decide) ⟨x, H, I1, ru, ⟨rfl, fun ys hy => by rw [I.tuple_inj hy hq]; exact hx⟩, st', fun b hb => (hf b hb).1⟩⟩
  done := by
    intro X hP hw hK hc i pins s σ H E I hf st hg
    subst hP hw hK
    obtain ⟨xs, hq, hx⟩ := hg
    obtain ⟨its, rv, p, hz⟩ := I.tuple hq
    obtain ⟨f0, f1, f2, f3, f4, f5⟩ := hf it (by simp)
    have hl := rv.length
    exact wpAny_pyNext_tuple_end (I.ok.hd hc) st (show s.heap.IsTuple a its.toArray from p) (by simp; omega) fun h' eb => ⟨rfl, I.turned (t' := s.toks) (fun b o hb e => eb b o hb e) f0 f1 f3 f4 f5⟩
  self := fun _ _ _ _ _ st h => wpAny_pyIter_tupleiter st h
theorem turn_range {P : Program} {w : World} {K : PySem.W.Frag} {tg : Expr} (it : Addr) (lo : Int) (n : Nat) : Turn P w K tg (Itr lo n) [it] it (fun i h => IsRangeIter h it (lo + (i : Nat) * 1) ((n : Int) - (i : Nat)) 1) where
  mem := by simp
  obj := fun i h st b hb => by
    have e : b = it := by simpa using hb
    subst e
    exact ⟨_, st, fun v z => by
      have z' : Data.fields _ = Data.cell v := z
      cases z'⟩
  keep := fun i h h' st k => k it (by simp) _ st
  item := by
    intro X hP hw hK hc i pins s σ H E I hf st hg
    subst hP hw hK
    obtain ⟨f0, f1, f2, f3, f4, f5⟩ := hf it (by simp)
    have W := Walks.range (prog := X.prog) (w := X.w) (I.ok.hd hc) it lo 1 n
    refine W.item i s _ _ hg st fun v h' tk hv st' kk => ?_
    obtain ⟨t, rfl⟩ := hv
    have I1 : Inv X pins σ H { s with heap := h', toks := tk } := I.turned (fun b o hb e => kk b o (by simpa using hb) e) f0 f1 f3 f4 f5
    refine ⟨_, rfl, go_of (s := { s with heap := h', toks := tk }) (n := "range_iterator") st' rfl rfl (by decide) ⟨.int (lo + i), H, I1, ⟨t, ?_⟩, ⟨rfl, rfl⟩, st', fun b hb => (hf b hb).1⟩⟩
    rw [Int.mul_one]
  done := by
    intro X hP hw hK hc i pins s σ H E I hf st hg
    subst hP hw hK
    obtain ⟨f0, f1, f2, f3, f4, f5⟩ := hf it (by simp)
    exact wpAny_pyNext_range_end (I.ok.hd hc) st (by have : n ≤ i := hg; omega) fun h' eb => ⟨rfl, I.turned (t' := s.toks) (fun b o hb e => eb b o hb e) f0 f1 f3 f4 f5⟩
  self := fun _ _ _ _ _ st h => wpAny_pyIter_rangeiter st h
end L2

namespace L2
open PySem PySem.Spec PyProof.Rows
section
variable {X : Cx} {tg : Expr}
noncomputable def iList (K : PySem.W.Frag) (tl : TE) : TI := fun σ H R => tl σ H fun x H1 => ∃ a, x = .ref a ∧ (∃ xs, SqL K H1 a xs) ∧ R (Itl K a) H1
theorem pi_list {l : Expr} {tl : TE} (hl : PE X l tl) : PI X tg l (iList X.K tl) := by
  intro pins s σ H R I h
  refine thn (hl pins s σ H _ I h) fun v s1 ⟨x, H1, I1, r1, q1⟩ => ?_
  obtain ⟨a, e, ⟨xs, hq⟩, q⟩ := q1
  subst e
  cases r1
  obtain ⟨its, rv, p, hz⟩ := I1.list hq
  refine wpAny_pyIter_list p.isList ?_
  refine ⟨s1.heap.objs.size, [s1.heap.objs.size], _, _, H1, rfl, I1.kept (t' := s1.toks) fun b o e => Heap.get?_push_of_some _ e, turn_list a _, ⟨_, Heap.get?_push_size _ rfl, rfl, rfl⟩, fun b hb => ?_, q⟩
  have e : b = s1.heap.objs.size := by simpa using hb
  subst e
  exact I1.fpOk (Nat.le_refl _) (I1.hok.fresh (Nat.le_refl _))
theorem range_it {pins : List (Addr × Obj)} {σ : St} {H : Hp} {s : Shared} {R : It → Hp → Prop} {E : Value → Shared → Prop} {lo hi : Int} {t u v : Tok} {tk : Nat} (I : Inv X pins σ H s) (h1 : -(2 ^ 62) ≤ lo) (h2 : lo < 2 ^ 62) (h3 : -(2 ^ 62) ≤ hi) (h4 : hi < 2 ^ 62)
    (q : R (Itr lo (hi - lo).toNat) H) : wpAny (model X.prog X.w) X.A (pyIter (.ref s.heap.objs.size)) (PIE X pins σ tg R) E { s with heap := s.heap.push { cls := .type "range", data := .fields #[.int lo t, .int hi u, .int 1 v] }, toks := tk } := by
  refine wpAny_pyIter_range (IsRange.new ..) (small_one h1 h2 h3 h4) ?_
  have I1 : Inv X pins σ H { s with heap := s.heap.push { cls := .type "range", data := .fields #[.int lo t, .int hi u, .int 1 v] }, toks := tk } := I.kept fun b o e => Heap.get?_push_of_some _ e
  refine ⟨(s.heap.push { cls := .type "range", data := .fields #[.int lo t, .int hi u, .int 1 v] }).objs.size, [(s.heap.push { cls := .type "range", data := .fields #[.int lo t, .int hi u, .int 1 v] }).objs.size], _, _, H, rfl,
    I1.kept (t' := tk) fun b o e => Heap.get?_push_of_some _ e, turn_range _ lo (hi - lo).toNat, ?_, fun b hb => ?_, q⟩
  · have e1 : lo + ((0 : Nat) : Int) * 1 = lo := by simp
    have e2 : (((hi - lo).toNat : Nat) : Int) - ((0 : Nat) : Int) = Builtin.Range.rangeSize lo hi 1 := by rw [rangeSize_one]; split <;> omega
    show IsRangeIter _ _ (lo + ((0 : Nat) : Int) * 1) ((((hi - lo).toNat : Nat) : Int) - ((0 : Nat) : Int)) 1
    rw [e1, e2]
    exact Heap.get?_push_size _ rfl
  · have e : b = (s.heap.push { cls := .type "range", data := .fields #[.int lo t, .int hi u, .int 1 v] }).objs.size := by simpa using hb
    subst e
    exact I1.fpOk (Nat.le_refl _) (I1.hok.fresh (Nat.le_refl _))
noncomputable def iRng1 (ta : TA) : TI := fun σ H R => ta σ H fun vs H1 => ∃ j : Int, vs = [.int j] ∧ -(2 ^ 62) ≤ j ∧ j < 2 ^ 62 ∧ R (Itr 0 j.toNat) H1
theorem pi_range1 {a : Expr} {ta : TA} {p pos : Pos} (hg : Gl X "range") (hm : X.mg "range" = none) (ha : PA X [a] ta) (hs : starEach [a] X.env = [(false, eval a X.env)] := by rfl) : PI X tg (.Call (.Name "range" p) [a] [] pos) (iRng1 ta) := by
  intro pins s σ H R I h
  refine Call_ (ld_blt I hg hm boot_range (PyProof.Rows.callWith_type1 (thn (ha pos pins s σ H _ I h) fun us s1 ⟨vs, H1, I1, r1, q1⟩ => ?_) hs rfl))
  obtain ⟨j, e, q1, q2, q⟩ := q1
  subst e
  cases r1 with
  | cons r rr =>
    cases rr
    obtain ⟨t, rfl⟩ := r
    exact call_range_1 (range_it I1 (by omega) (by omega) q1 q2 (by simpa using q))
noncomputable def tFor (wi : TI) (g : TG) (tb : TS) : TS := fun D σ H => wi σ H fun J H1 => ∃ W : Nat → Nat → St → Hp → Prop, (∃ m, W 0 m σ H1) ∧ ∀ i m σ H, W i m σ H →
  (J.stop i H ∧ D.nx σ H) ∨ (J.go i H ∧ ∃ N : St → Hp → Prop, (∀ σ' H', N σ' H' → ∃ m', m' < m ∧ W (i + 1) m' σ' H') ∧ ∀ x H', J.yld i H x H' → g x σ H' fun σ2 H2 => tb { D with nx := N, ct := N, bk := D.nx } σ2 H2)
noncomputable def pinsAt (fp : List Addr) (h : Heap) : List (Addr × Obj) := fp.filterMap fun b => (h.get? b).map fun o => (b, o)
theorem mem_pinsAt {fp : List Addr} {h : Heap} {b : Addr} {o : Obj} (hb : b ∈ fp) (e : h.get? b = some o) : (b, o) ∈ pinsAt fp h := List.mem_filterMap.mpr ⟨b, hb, by rw [e]; rfl⟩
theorem of_pinsAt {fp : List Addr} {h : Heap} {p : Addr × Obj} (hp : p ∈ pinsAt fp h) : p.1 ∈ fp ∧ h.get? p.1 = some p.2 := by
  obtain ⟨b, hb, e⟩ := List.mem_filterMap.mp hp
  cases q : h.get? b with
  | none => rw [q] at e; cases e
  | some o =>
    rw [q] at e
    have e' : (b, o) = p := Option.some.inj e
    subst e'
    exact ⟨hb, q⟩
theorem Inv.pinned {pins : List (Addr × Obj)} {σ : St} {H : Hp} {s : Shared} {fp : List Addr} (I : Inv X pins σ H s) (hf : ∀ b ∈ fp, FpOk X pins H b) (ho : ∀ b ∈ fp, ∃ o, s.heap.get? b = some o ∧ ∀ v, o.data ≠ .cell v) : Inv X (pins ++ pinsAt fp s.heap) σ H s :=
  I.pins_of fun p hp => (List.mem_append.mp hp).elim (fun z => I.pin p (List.mem_append_right _ z)) fun z => by
    obtain ⟨hb, e⟩ := of_pinsAt z
    obtain ⟨f0, f1, f2, _⟩ := hf p.1 hb
    obtain ⟨o, e', d⟩ := ho p.1 hb
    rw [e] at e'; cases e'
    exact ⟨e, f0, f1, f2, d⟩
theorem Inv.unpinned {pins pl : List (Addr × Obj)} {σ : St} {H : Hp} {s : Shared} (I : Inv X (pins ++ pl) σ H s) : Inv X pins σ H s := I.pins_of fun p hp => I.pin p (List.mem_append_right _ (List.mem_append_left _ hp))
theorem ps_for {iter : Expr} {body : List Stmt} {wi : TI} {g : TG} {tb : TS} {pos : Pos} (hp : PassesOwn (model X.prog X.w) X.A X.env X.xe) (hc : X.calm = true) (hi : PI X tg iter wi) (hg : PG X tg g) (hb : PSs X body tb)
    (hs : ∀ x, foldedSetIterable iter X.env x = pure x := by intro _; rfl) : PS X (.For tg iter body [] pos) (tFor wi g tb) := by
  intro pins s σ H D I h
  refine wpAny_For (thn (hi pins s σ H _ I h) fun v s1 h1 => thn h1 fun itv s2 h2 => ?_) hs
  obtain ⟨it, fp, tn, J, H2, e, I2, T, st2, f2, W, ⟨m0, w0⟩, turn⟩ := h2
  subst e

  have stat : ∀ {H' : Hp}, (∀ b ∈ fp, H' b = none) → ∀ b ∈ fp, FpOk X pins H' b := fun hn b hb => ⟨hn b hb, (f2 b hb).2⟩
  refine codeAny_forLoop_any (fun n s' => ∃ i σ' H', Inv X pins σ' H' s' ∧ tn i s'.heap ∧ (∀ b ∈ fp, H' b = none) ∧ W i n σ' H') ?_ m0 ⟨0, σ, H2, I2, st2, fun b hb => (f2 b hb).1, w0⟩
  rintro n s3 ⟨i, σ3, H3, I3, st3, fr3, w3⟩
  rcases turn i n σ3 H3 w3 with ⟨stop, qn⟩ | ⟨go, N, hN, step⟩
  · refine wpAny_passesOwn hp (thn (T.done X rfl rfl rfl hc i pins s3 σ3 H3 X.xe I3 (stat fr3) st3 stop) fun r s4 ⟨hr, I4⟩ => ?_)
    subst hr
    exact wpAny_execs_nil ⟨σ3, H3, I4, qn⟩
  · refine wpAny_passesOwn hp (thn (T.item X rfl rfl rfl hc i pins s3 σ3 H3 X.xe I3 (stat fr3) st3 go) fun r s4 ⟨u, hr, h4⟩ => ?_)
    subst hr
    refine wpAny_passesOwn hp (thn h4 fun _ s5 ⟨x, H5, I5, r5, y5, st5, fr5⟩ => ?_)
    have I5' := I5.pinned (stat fr5) (T.obj _ _ st5)
    refine wpAny_passesOwn hp (thn (hg _ s5 σ3 H5 x u _ I5' r5 (step x H5 y5)) fun _ s6 ⟨σ6, H6, I6, q6⟩ => ?_)
    refine wpAny_passesOwn hp (thn (hb _ s6 σ6 H6 _ I6 q6) fun f s7 q7 => ?_)
    have again : ∀ {σ7 : St} {H7 : Hp}, Inv X (pins ++ pinsAt fp s5.heap) σ7 H7 s7 → N σ7 H7 → ∃ m, m < n ∧ ∃ i σ' H', Inv X pins σ' H' s7 ∧ tn i s7.heap ∧ (∀ b ∈ fp, H' b = none) ∧ W i m σ' H' := fun {σ7 H7} I7 n7 => by
      obtain ⟨m', hm, w7⟩ := hN σ7 H7 n7
      refine ⟨m', hm, i + 1, σ7, H7, I7.unpinned, T.keep _ _ _ st5 fun b hb o e => (I7.pin (b, o) (List.mem_append_right _ (List.mem_append_right _ (mem_pinsAt hb e)))).1, fun b hb => ?_, w7⟩
      obtain ⟨o, e, d⟩ := T.obj _ _ st5 b hb
      exact (I7.pin (b, o) (List.mem_append_right _ (List.mem_append_right _ (mem_pinsAt hb e)))).2.1
    cases f with
    | next => obtain ⟨σ7, H7, I7, n7⟩ := q7; exact again I7 n7
    | cont => obtain ⟨σ7, H7, I7, n7⟩ := q7; exact again I7 n7
    | brk => obtain ⟨σ7, H7, I7, q7⟩ := q7; exact ⟨σ7, H7, I7.unpinned, q7⟩
    | ret v => obtain ⟨x7, σ7, H7, I7, r7, q7⟩ := q7; exact ⟨x7, σ7, H7, I7.unpinned, r7, q7⟩
end

theorem for_list {K : PySem.W.Frag} {a : Addr} {xs : List V} {g : TG} {tb : TS} {D : Ends} {σ : St} {H : Hp} (Pv : Nat → St → Hp → Prop) (h0 : Pv 0 σ H) (hl : ∀ i σ H, i ≤ xs.length → Pv i σ H → SqL K H a xs)
    (hs : ∀ i x σ H, xs[i]? = some x → Pv i σ H → g x σ H fun σ2 H2 => tb { D with nx := Pv (i + 1), ct := Pv (i + 1), bk := D.nx } σ2 H2) (hd : ∀ σ H, Pv xs.length σ H → D.nx σ H) :
    ∃ W : Nat → Nat → St → Hp → Prop, (∃ m, W 0 m σ H) ∧ ∀ i m σ H, W i m σ H →
      ((Itl K a).stop i H ∧ D.nx σ H) ∨ ((Itl K a).go i H ∧ ∃ N : St → Hp → Prop, (∀ σ' H', N σ' H' → ∃ m', m' < m ∧ W (i + 1) m' σ' H') ∧ ∀ x H', (Itl K a).yld i H x H' → g x σ H' fun σ2 H2 => tb { D with nx := N, ct := N, bk := D.nx } σ2 H2) := by
  refine ⟨fun i m σ H => m = xs.length - i ∧ i ≤ xs.length ∧ Pv i σ H, ⟨xs.length, by simp, Nat.zero_le _, h0⟩, ?_⟩
  rintro i m σ H ⟨rfl, hi, p⟩
  have q := hl i σ H hi p
  by_cases hlt : i < xs.length
  · refine .inr ⟨⟨xs, xs[i], q, by simp [hlt]⟩, Pv (i + 1), fun σ' H' p' => ⟨xs.length - (i + 1), by omega, rfl, hlt, p'⟩, fun x H' y => ?_⟩
    obtain ⟨e, y⟩ := y
    subst e
    exact hs i x σ _ (y xs q) p
  · have e : i = xs.length := by omega
    subst e
    exact .inl ⟨⟨xs, q, Nat.le_refl _⟩, hd σ H p⟩
theorem for_range {lo : Int} {n : Nat} {g : TG} {tb : TS} {D : Ends} {σ : St} {H : Hp} (Pv : Nat → St → Hp → Prop) (h0 : Pv 0 σ H)
    (hs : ∀ i σ H, i < n → Pv i σ H → g (.int (lo + i)) σ H fun σ2 H2 => tb { D with nx := Pv (i + 1), ct := Pv (i + 1), bk := D.nx } σ2 H2) (hd : ∀ σ H, Pv n σ H → D.nx σ H) :
    ∃ W : Nat → Nat → St → Hp → Prop, (∃ m, W 0 m σ H) ∧ ∀ i m σ H, W i m σ H →
      ((Itr lo n).stop i H ∧ D.nx σ H) ∨ ((Itr lo n).go i H ∧ ∃ N : St → Hp → Prop, (∀ σ' H', N σ' H' → ∃ m', m' < m ∧ W (i + 1) m' σ' H') ∧ ∀ x H', (Itr lo n).yld i H x H' → g x σ H' fun σ2 H2 => tb { D with nx := N, ct := N, bk := D.nx } σ2 H2) := by
  refine ⟨fun i m σ H => m = n - i ∧ i ≤ n ∧ Pv i σ H, ⟨n, by simp, Nat.zero_le _, h0⟩, ?_⟩
  rintro i m σ H ⟨rfl, hi, p⟩
  by_cases hlt : i < n
  · refine .inr ⟨hlt, Pv (i + 1), fun σ' H' p' => ⟨n - (i + 1), by omega, rfl, hlt, p'⟩, fun x H' y => ?_⟩
    obtain ⟨e, y⟩ := y
    subst e y
    exact hs i σ _ hlt p
  · have e : i = n := by omega
    subst e
    exact .inl ⟨Nat.le_refl _, hd σ H p⟩
end L2

namespace L2
open PySem PySem.Spec PyProof.Rows

noncomputable abbrev R2 := V → V → Hp → VK → Prop
noncomputable def OpR (X : Cx) (f : Value → Value → Sem Value) (r : R2) : Prop :=
  ∀ (pins : List (Addr × Obj)) (s : Shared) (σ : St) (H : Hp) (x y : V) (v u : Value) (Q : VK), Inv X pins σ H s → RelV x v → RelV y u → r x y H Q →
    wpAny (model X.prog X.w) X.A (f v u) (EP X pins σ Q) X.xe s
noncomputable def UnR (X : Cx) (f : Value → Sem Value) (r : V → Hp → VK → Prop) : Prop :=
  ∀ (pins : List (Addr × Obj)) (s : Shared) (σ : St) (H : Hp) (x : V) (v : Value) (Q : VK), Inv X pins σ H s → RelV x v → r x H Q →
    wpAny (model X.prog X.w) X.A (f v) (EP X pins σ Q) X.xe s
noncomputable def CallR (X : Cx) (f : Value) (r : List V → Hp → VK → Prop) : Prop :=
  ∀ (pins : List (Addr × Obj)) (s : Shared) (σ : St) (H : Hp) (xs : List V) (us : List Value) (Q : VK), Inv X pins σ H s → Vals xs us → r xs H Q →
    wpAny (model X.prog X.w) X.A (call f us) (EP X pins σ Q) X.xe s
noncomputable def tOp (r : R2) (ta tb : TE) : TE := fun σ H Q => ta σ H fun x H1 => tb σ H1 fun y H2 => r x y H2 Q
noncomputable def rI (C : Int → Int → Prop) (g : Int → Int → V) : R2 := fun x y H Q => ∃ i j, x = .int i ∧ y = .int j ∧ C i j ∧ Q (g i j) H
noncomputable def rI0 (g : Int → Int → V) : R2 := fun x y H Q => ∃ i j, x = .int i ∧ y = .int j ∧ Q (g i j) H
section
variable {X : Cx} {a b c : Expr} {ta tb tc : TE} {pos : Pos}

theorem binT (ha : PE X a ta) (hb : PE X b tb) {pins : List (Addr × Obj)} {s : Shared} {σ : St} {H : Hp} {R : V → V → Hp → Prop} (I : Inv X pins σ H s)
    (h : ta σ H fun x H1 => tb σ H1 fun y H2 => R x y H2) {Q : Value → Shared → Prop} {f : Value → Value → Sem Value}
    (hf : ∀ v u s2 x y H2, Inv X pins σ H2 s2 → RelV x v → RelV y u → R x y H2 → wpAny (model X.prog X.w) X.A (f v u) Q X.xe s2) :
    wpAny (model X.prog X.w) X.A (eval a X.env) (fun v s₁ => wpAny (model X.prog X.w) X.A (eval b X.env) (fun u s₂ => wpAny (model X.prog X.w) X.A (f v u) Q X.xe s₂) X.xe s₁) X.xe s := by
  refine thn (ha pins s σ H _ I h) fun v s1 ⟨x, H1, I1, r1, q1⟩ => ?_
  refine thn (hb pins s1 σ H1 _ I1 q1) fun u s2 ⟨y, H2, I2, r2, q2⟩ => ?_
  exact hf v u s2 x y H2 I2 r1 r2 q2

theorem pe_op {op : Operator} {r : R2} (ho : OpR X (binaryOp op) r) (ha : PE X a ta) (hb : PE X b tb) : PE X (.BinOp a op b pos) (tOp r ta tb) := by
  intro pins s σ H Q I h
  exact wpAny_BinOp (binT ha hb I h fun v u s2 x y H2 I2 rx ry q => ho pins s2 σ H2 x y v u Q I2 rx ry q)
theorem opI {f : Value → Value → Sem Value} {C : Int → Int → Prop} {g : Int → Int → Int}
    (rule : ∀ (i j : Int) (t u : Tok) (s : Shared) (Q : Value → Shared → Prop) (E : Value → Shared → Prop), C i j → Q (.int (g i j) s.toks) { s with toks := s.toks + 1 } → wpAny (model X.prog X.w) X.A (f (.int i t) (.int j u)) Q E s) :
    OpR X f (rI C fun i j => .int (g i j)) := by
  intro pins s σ H x y v u Q I rx ry h
  obtain ⟨i, j, rfl, rfl, hc, q⟩ := h
  obtain ⟨t, rfl⟩ := rx
  obtain ⟨t', rfl⟩ := ry
  exact rule i j t t' s _ _ hc ⟨.int (g i j), H, I.tok _, ⟨_, rfl⟩, q⟩
theorem opI0 {f : Value → Value → Sem Value} {g : Int → Int → Int}
    (rule : ∀ (i j : Int) (t u : Tok) (s : Shared) (Q : Value → Shared → Prop) (E : Value → Shared → Prop), Q (.int (g i j) s.toks) { s with toks := s.toks + 1 } → wpAny (model X.prog X.w) X.A (f (.int i t) (.int j u)) Q E s) :
    OpR X f (rI0 fun i j => .int (g i j)) := by
  intro pins s σ H x y v u Q I rx ry h
  obtain ⟨i, j, rfl, rfl, q⟩ := h
  obtain ⟨t, rfl⟩ := rx
  obtain ⟨t', rfl⟩ := ry
  exact rule i j t t' s _ _ ⟨.int (g i j), H, I.tok _, ⟨_, rfl⟩, q⟩
theorem opB0 {f : Value → Value → Sem Value} {g : Int → Int → Bool}
    (rule : ∀ (i j : Int) (t u : Tok) (s : Shared) (Q : Value → Shared → Prop) (E : Value → Shared → Prop), Q (.bool (g i j)) s → wpAny (model X.prog X.w) X.A (f (.int i t) (.int j u)) Q E s) :
    OpR X f (rI0 fun i j => .bl (g i j)) := by
  intro pins s σ H x y v u Q I rx ry h
  obtain ⟨i, j, rfl, rfl, q⟩ := h
  obtain ⟨t, rfl⟩ := rx
  obtain ⟨t', rfl⟩ := ry
  exact rule i j t t' s _ _ ⟨.bl (g i j), H, I, rfl, q⟩

noncomputable def CDiv (i j : Int) : Prop := 0 < j ∧ j < 1073741824
noncomputable def CPow (i j : Int) : Prop := 0 ≤ j ∧ j ≤ 1000000 ∧ i.natAbs < 2 ^ 64
noncomputable def CMul (i j : Int) : Prop := (-(2 ^ 64) < i ∧ i < 2 ^ 64) ∨ (-(2 ^ 64) < j ∧ j < 2 ^ 64)
theorem CMul.ok {i j : Int} (h : CMul i j) : IntMulOk i j := by
  rcases h with ⟨h1, h2⟩ | ⟨h1, h2⟩
  · exact .of_left (intBits_le_64 h1 h2)
  · exact .of_right (intBits_le_64 h1 h2)
theorem op_add : OpR X (binaryOp .Add) (rI0 fun i j => .int (i + j)) := opI0 fun _ _ _ _ _ _ _ q => add_int q
theorem op_mul : OpR X (binaryOp .Mult) (rI CMul fun i j => .int (i * j)) := opI fun _ _ _ _ _ _ _ hc q => mul_int q hc.ok
theorem op_fdiv : OpR X (binaryOp .FloorDiv) (rI CDiv fun i j => .int (i / j)) := opI fun i j _ _ _ _ _ hc q => by
  have h1 : (0 : Int) < j := hc.1
  have h2 : j < 1073741824 := hc.2
  exact floordiv_int (by omega) (by rw [Int.fdiv_eq_ediv_of_nonneg i (by omega)]; exact q) (.inl (PyProof.noPylong_small (by omega)))
theorem op_mod : OpR X (binaryOp .Mod) (rI (fun _ j => 0 < j) fun i j => .int (i % j)) := opI fun i j _ _ _ _ _ hc q => by
  have h1 : (0 : Int) < j := hc
  exact mod_int' (by omega) (by rw [Int.fmod_eq_emod_of_nonneg i (by omega)]; exact q)
theorem op_pow : OpR X (binaryOp .Pow) (rI CPow fun i j => .int (i ^ j.toNat)) := opI fun _ _ _ _ _ _ _ hc q => pow_int_small hc.1 hc.2.1 hc.2.2 q
end

noncomputable def scal : V → V → Bool
  | .non, .non => true | .non, .int _ => true | .int _, .non => true | .non, .bl _ => true | .bl _, .non => true | .non, .str _ => true | .str _, .non => true
  | .int _, .int _ => true | .bl _, .bl _ => true | .str _, .str _ => true | .byt _, .byt _ => true
  | .int _, .str _ => true | .str _, .int _ => true | .bl _, .str _ => true | .str _, .bl _ => true
  | _, _ => false
noncomputable def rEq : R2 := fun x y H Q => scal x y = true ∧ Q (.bl (decide (x = y))) H
noncomputable def rNe : R2 := fun x y H Q => scal x y = true ∧ Q (.bl (!decide (x = y))) H

theorem dec_int {i j : Int} : decide (V.int i = V.int j) = (i == j) := by
  rw [Bool.eq_iff_iff]
  simp
theorem dec_bl {i j : Bool} : decide (V.bl i = V.bl j) = (i == j) := by
  rw [Bool.eq_iff_iff]
  simp
theorem dec_str {i j : Str} : decide (V.str i = V.str j) = (i == j) := by
  rw [Bool.eq_iff_iff]
  simp
theorem dec_byt {i j : Array UInt8} : decide (V.byt i = V.byt j) = (i.toList == j.toList) := by
  rw [Bool.eq_iff_iff]
  cases i
  cases j
  simp

section
variable {X : Cx} {a b c : Expr} {ta tb tc : TE} {pos : Pos}
theorem fin_bl {pins : List (Addr × Obj)} {σ : St} {H : Hp} {s : Shared} {Q : VK} {k k' : Bool} (I : Inv X pins σ H s) (q : Q (.bl k) H) (e : k = k') : EP X pins σ Q (.bool k') s := by
  subst e
  exact ⟨.bl k, H, I, rfl, q⟩
theorem op_eq : OpR X (compareOp .Eq) rEq := by
  intro pins s σ H x y v u Q I rx ry h
  obtain ⟨hs, q⟩ := h
  cases x with
  | non =>
    cases rx
    cases y with
    | non => cases ry; exact PySem.EqNone.eq_none_none (fin_bl I q (by simp))
    | bl j => cases ry; exact PySem.EqNone.eq_none_bool (fin_bl I q (by simp))
    | int j => obtain ⟨t', rfl⟩ := ry; exact PySem.EqNone.eq_none_int (fin_bl I q (by simp))
    | str j => obtain ⟨t', rfl⟩ := ry; exact PySem.EqNone.eq_none_str (fin_bl I q (by simp))
    | _ => exact absurd (show false = true from hs) Bool.false_ne_true
  | bl i =>
    cases rx
    cases y with
    | non => cases ry; exact PySem.EqNone.eq_bool_none (fin_bl I q (by simp))
    | bl j => cases ry; exact eq_bool (fin_bl I q dec_bl)
    | str j => obtain ⟨t', rfl⟩ := ry; exact PySem.EqMixed.eq_bool_str (fin_bl I q (by simp))
    | _ => exact absurd (show false = true from hs) Bool.false_ne_true
  | int i =>
    obtain ⟨t, rfl⟩ := rx
    cases y with
    | non => cases ry; exact PySem.EqNone.eq_int_none (fin_bl I q (by simp))
    | int j => obtain ⟨t', rfl⟩ := ry; exact eq_int (fin_bl I q dec_int)
    | str j => obtain ⟨t', rfl⟩ := ry; exact PySem.EqMixed.eq_int_str (fin_bl I q (by simp))
    | _ => exact absurd (show false = true from hs) Bool.false_ne_true
  | str i =>
    obtain ⟨t, rfl⟩ := rx
    cases y with
    | non => cases ry; exact PySem.EqNone.eq_str_none (fin_bl I q (by simp))
    | bl j => cases ry; exact PySem.EqMixed.eq_str_bool (fin_bl I q (by simp))
    | int j => obtain ⟨t', rfl⟩ := ry; exact PySem.EqMixed.eq_str_int (fin_bl I q (by simp))
    | str j => obtain ⟨t', rfl⟩ := ry; exact eq_str (fin_bl I q dec_str)
    | _ => exact absurd (show false = true from hs) Bool.false_ne_true
  | byt i =>
    obtain ⟨t, rfl⟩ := rx
    cases y with
    | byt j => obtain ⟨t', rfl⟩ := ry; exact PySem.W.eq_bytes (fin_bl I q dec_byt)
    | _ => exact absurd (show false = true from hs) Bool.false_ne_true
  | _ => cases y <;> exact absurd (show false = true from hs) Bool.false_ne_true
theorem op_ne : OpR X (compareOp .NotEq) rNe := by
  intro pins s σ H x y v u Q I rx ry h
  obtain ⟨hs, q⟩ := h
  cases x with
  | non =>
    cases rx
    cases y with
    | non => cases ry; exact PySem.EqNone.ne_none_none (fin_bl I q (by simp))
    | bl j => cases ry; exact PySem.EqNone.ne_none_bool (fin_bl I q (by simp))
    | int j => obtain ⟨t', rfl⟩ := ry; exact PySem.EqNone.ne_none_int (fin_bl I q (by simp))
    | str j => obtain ⟨t', rfl⟩ := ry; exact PySem.EqNone.ne_none_str (fin_bl I q (by simp))
    | _ => exact absurd (show false = true from hs) Bool.false_ne_true
  | bl i =>
    cases rx
    cases y with
    | non => cases ry; exact PySem.EqNone.ne_bool_none (fin_bl I q (by simp))
    | bl j => cases ry; exact ne_bool (fin_bl I q (congrArg not dec_bl))
    | str j => obtain ⟨t', rfl⟩ := ry; exact PySem.EqMixed.ne_bool_str (fin_bl I q (by simp))
    | _ => exact absurd (show false = true from hs) Bool.false_ne_true
  | int i =>
    obtain ⟨t, rfl⟩ := rx
    cases y with
    | non => cases ry; exact PySem.EqNone.ne_int_none (fin_bl I q (by simp))
    | int j => obtain ⟨t', rfl⟩ := ry; exact ne_int (fin_bl I q (congrArg not dec_int))
    | str j => obtain ⟨t', rfl⟩ := ry; exact PySem.EqMixed.ne_int_str (fin_bl I q (by simp))
    | _ => exact absurd (show false = true from hs) Bool.false_ne_true
  | str i =>
    obtain ⟨t, rfl⟩ := rx
    cases y with
    | non => cases ry; exact PySem.EqNone.ne_str_none (fin_bl I q (by simp))
    | bl j => cases ry; exact PySem.EqMixed.ne_str_bool (fin_bl I q (by simp))
    | int j => obtain ⟨t', rfl⟩ := ry; exact PySem.EqMixed.ne_str_int (fin_bl I q (by simp))
    | str j => obtain ⟨t', rfl⟩ := ry; exact ne_str (fin_bl I q (congrArg not dec_str))
    | _ => exact absurd (show false = true from hs) Bool.false_ne_true
  | byt i =>
    obtain ⟨t, rfl⟩ := rx
    cases y with
    | byt j => obtain ⟨t', rfl⟩ := ry; exact PySem.W.ne_bytes (fin_bl I q (congrArg not dec_byt))
    | _ => exact absurd (show false = true from hs) Bool.false_ne_true
  | _ => cases y <;> exact absurd (show false = true from hs) Bool.false_ne_true

theorem op_lt : OpR X (compareOp .Lt) (rI0 fun i j => .bl (decide (i < j))) := opB0 fun _ _ _ _ _ _ _ q => lt_int q
theorem op_le : OpR X (compareOp .LtE) (rI0 fun i j => .bl (decide (i ≤ j))) := opB0 fun _ _ _ _ _ _ _ q => le_int q
theorem op_gt : OpR X (compareOp .Gt) (rI0 fun i j => .bl (decide (j < i))) := opB0 fun _ _ _ _ _ _ _ q => gt_int q
theorem op_in_str : OpR X (compareOp .In) (fun x y H Q => ∃ i j, x = .str i ∧ y = .str j ∧ Q (.bl (!(Builtin.Str.occurrences j i 0 j.length 1).isEmpty)) H) := by
  intro pins s σ H x y v u Q I rx ry h
  obtain ⟨i, j, rfl, rfl, q⟩ := h
  obtain ⟨t, rfl⟩ := rx
  obtain ⟨t', rfl⟩ := ry
  exact in_str (fin_bl I q rfl)

theorem op_notin_str : OpR X (compareOp .NotIn) (fun x y H Q => ∃ i j, x = .str i ∧ y = .str j ∧ Q (.bl (!(!(Builtin.Str.occurrences j i 0 j.length 1).isEmpty))) H) := by
  intro pins s σ H x y v u Q I rx ry h
  obtain ⟨i, j, rfl, rfl, q⟩ := h
  obtain ⟨t, rfl⟩ := rx
  obtain ⟨t', rfl⟩ := ry
  exact notIn_str (fin_bl I q rfl)
theorem nomark (b : Expr) {op : CmpOp} (h : op ≠ .In := by decide) (h2 : op ≠ .NotIn := by decide) : behindInMarks op b = false := by
  have e1 : (op == CmpOp.In) = false := by cases op <;> first | rfl | exact absurd rfl h
  have e2 : (op == CmpOp.NotIn) = false := by cases op <;> first | rfl | exact absurd rfl h2
  cases b <;> simp [behindInMarks, e1, e2]
theorem pe_cmpR {op : CmpOp} {r : R2} (ho : OpR X (compareOp op) r) (ha : PE X a ta) (hb : PE X b tb) (hm : behindInMarks op b = false) : PE X (.Compare a [op] [b] pos) (tOp r ta tb) := by
  intro pins s σ H Q I h
  exact wpAny_Compare1 (binT ha hb I h fun v u s2 x y H2 I2 rx ry q => ho pins s2 σ H2 x y v u Q I2 rx ry q) hm
noncomputable def tTest (t : TE) : TT := fun σ H Q => t σ H fun x H' => ∃ k, x = .bl k ∧ Q k H'
theorem pt_cmpR {op : CmpOp} {r : R2} (ho : OpR X (compareOp op) r) (ha : PE X a ta) (hb : PE X b tb) (hm : behindInMarks op b = false) : PT X (.Compare a [op] [b] pos) (tTest (tOp r ta tb)) := by
  intro pins s σ H Q I h
  refine wpAny_isTrue_Compare1 (thn (ha pins s σ H _ I h) fun v s1 ⟨x, H1, I1, r1, q1⟩ => thn (hb pins s1 σ H1 _ I1 q1) fun u s2 ⟨y, H2, I2, r2, q2⟩ =>
    thn (ho pins s2 σ H2 x y v u _ I2 r1 r2 q2) fun c s3 ⟨z, H3, I3, r3, k, e, q3⟩ => ?_) hm
  subst e
  cases r3
  exact wpAny_truthy_bool ⟨H3, I3, q3⟩
theorem line63 : (sizeLine : Nat) < 2 ^ 63 := by rw [sizeLine_eq]; decide
theorem op_add_str : OpR X (binaryOp .Add) (fun x y H Q => ∃ i j, x = .str i ∧ y = .str j ∧ i.length + j.length ≤ sizeLine ∧ Q (.str (i ++ j)) H) := by
  intro pins s σ H x y v u Q I rx ry h
  obtain ⟨i, j, rfl, rfl, hz, q⟩ := h
  obtain ⟨t, rfl⟩ := rx
  obtain ⟨t', rfl⟩ := ry
  exact add_str (fun t' tk => ⟨.str (i ++ j), H, I.tok _, ⟨_, rfl⟩, q⟩) hz
theorem vals1 {x : V} {us : List Value} (r : Vals [x] us) : ∃ u, us = [u] ∧ RelV x u := by
  cases r with
  | cons r1 r2 => cases r2; exact ⟨_, rfl, r1⟩
theorem vals2 {x y : V} {us : List Value} (r : Vals [x, y] us) : ∃ u w', us = [u, w'] ∧ RelV x u ∧ RelV y w' := by
  cases r with
  | cons r1 r2 =>
    cases r2 with
    | cons r3 r4 => cases r4; exact ⟨_, _, rfl, r1, r3⟩
end
end L2

namespace L2
open PySem PySem.Spec PyProof.Rows

set_option genInjectivity false in
structure ObjM (h : Heap) (x dx C : Addr) (mA : Str → Option Value) : Prop where
  obj : h.get? x = some (PySem.W.instObj C dx)
  ns : h.Ns1 dx mA
  ne : dx ≠ x

theorem lookIn_ns {h : Heap} {dx : Addr} {mA : Str → Option Value} (n : h.Ns1 dx mA) : ∃ od, h.get? dx = some od ∧ ∀ name, PySem.W.lookIn name od = some (mA name) := by
  obtain ⟨o, es, ep, ho, hd, hk, _, hm⟩ := n
  refine ⟨o, ho, fun name => ?_⟩
  have e := hm name
  unfold nsFind findBy at e
  rw [← Array.find?_toList] at e
  unfold PySem.W.lookIn
  rw [hd]
  dsimp only
  split
  · rename_i y q
    rw [q] at e
    exact congrArg some e
  · rename_i q
    rw [q] at e
    have a : es.toList.any (·.refKey) = false := by
      rw [List.any_eq_false]
      intro y hy
      obtain ⟨z, t, hkey⟩ := hk y (Array.mem_toList_iff.mp hy)
      simp [DictEntry.refKey, hkey]
    have a' : ¬ es.toList.any (·.refKey) = true := by rw [a]; exact Bool.false_ne_true
    rw [if_neg a']
    exact congrArg some e

theorem ObjM.look {h : Heap} {x dx C : Addr} {mA : Str → Option Value} (I : ObjM h x dx C mA) : ∃ od, PySem.W.InstAt h x (PySem.W.instObj C dx) C (some od) ∧ ∀ name, PySem.W.lookIn name od = some (mA name) :=
  let ⟨od, ho, hl⟩ := lookIn_ns I.ns
  ⟨od, ⟨I.obj, rfl, rfl, ho⟩, hl⟩

section
variable {prog : Program} {w : World} {A : Around} {E : Value → Shared → Prop} {s : Shared} {K : PySem.W.Frag} {x dx C f : Addr} {mA : Str → Option Value} {name : Str} {v : Value}

theorem get_map {expr : Bool} {Q : Value → Shared → Prop} (X : K.In s.heap) (I : ObjM s.heap x dx C mA) (hg : PySem.W.plainGet K C name = true) (hh : PySem.W.hasDictIn K C = true)
    (ha : PySem.W.findIn K (.ref C) name = some none) (hv : mA name = some v) (hv' : PySem.W.handedIn v = true) (h : Q v { s with toks := s.toks + 1 }) :
    wpAny (model prog w) A (getAttr (.ref x) name expr) Q E s := by
  obtain ⟨od, J, hl⟩ := I.look
  exact PySem.W.get_value X J (PySem.W.plainGet_of hg).1 (PySem.W.findObj_own hh ha rfl (by rw [hl, hv])) hv' h

theorem set_map {ns : List Str} {Q : Unit → Shared → Prop} (X : K.In s.heap) (I : ObjM s.heap x dx C mA)
    (hs : PySem.W.findIn K (.ref C) "__setattr__" = some (some (.builtin "object.__setattr__"))) (hp : PySem.W.plainOver K C = true) (ht : PySem.W.takerIn K C name = some none) (hh : PySem.W.hasDictIn K C = true)
    (hw : PySem.Within mA ns) (hsz : ns.length ≤ sizeLine)
    (h : ∀ h', ObjM h' x dx C (fun y => if y = name then some v else mA y) → Heap.SameBut dx s.heap h' → Q () { s with heap := h', toks := s.toks + 2 }) :
    wpAny (model prog w) A (setAttr (.ref x) name v) Q E s := by
  obtain ⟨od, J, hl⟩ := I.look
  refine PySem.W.set_plain X J hs (PySem.W.osa_open (s := { s with toks := s.toks + 1 }) (r := none) X J hp ht fun b => ?_)
  obtain ⟨cd, hc, hd'⟩ := PySem.W.any_some hh
  have hx : s.heap.get? x = some ⟨.ref C, some dx, .plain, #[]⟩ := I.obj
  refine wpAny_bind (wpAny_pure (wpAny_bind (wpAny_bind (wpAny_loadPart hx (wpAny_bind (PySem.W.Looks.here (s := { s with toks := s.toks + 1 }) (PySem.W.looks_clsIn X hc) ?_))))))
  rw [hd']
  refine wpAny_pure (a := some dx) (wpAny_bind (wpAny_pure (wpAny_bind ?_)))
  refine wpAny_nsSet1 (s := { s with toks := s.toks + 1 }) I.ns fun h' hn2 hs2 => ?_
  obtain ⟨oD, esD, epD, hoD, hdD, hcD⟩ := hn2.count (PySem.Within.cons name v hw)
  refine wpAny_bind (wpAny_lookBehind hoD (by rw [hdD]; exact pastItsLine_dict (Nat.le_trans hcD (by rw [List.length_cons]; omega))) ?_)
  exact wpAny_pure (h _ ⟨(hs2.2 _ (Ne.symm I.ne)).trans I.obj, hn2, I.ne⟩ hs2)

theorem make_map {R : Result → Shared → Prop} {vs : List Value} {kw : List (Str × Value)} (X : K.In s.heap) (hm : PySem.W.makesIn K C = true)
    (hi : PySem.W.findIn K (.ref C) "__init__" = some (some (.ref f))) (hf : PySem.W.typeIn K (.ref f) = some (.type "function"))
    (h : codeAny (model prog w) (A.under (.builtin "type.__call__" ⟨.ref C :: vs, kw⟩)) (.call (.ref f) ⟨.ref (s.heap.objs.size + 1) :: vs, kw⟩) (PySem.W.InitBack (s.heap.objs.size + 1) R)
      { s with heap := (s.heap.push PySem.W.emptyDict).push (PySem.W.instObj C s.heap.objs.size) }) :
    codeAny (model prog w) A (.call (.ref C) ⟨vs, kw⟩) R s := by
  obtain ⟨hh, g, d, t, os⟩ := s
  exact PySem.W.make_core (PySem.W.makes_of X hm) (PySem.W.looks_findIn X hi) (fun self => PySem.W.bind_fn X self hf) (.inl rfl) h
end

noncomputable def putF (f : Str) (v : V) : List (Str × V) → List (Str × V)
  | [] => [(f, v)]
  | (g, x) :: r => if g = f then (g, v) :: r else (g, x) :: putF f v r
theorem lookup_putF (f g : Str) (v : V) : ∀ fs : List (Str × V), (putF f v fs).lookup g = if g = f then some v else fs.lookup g
  | [] => by
    show List.lookup g [(f, v)] = _
    by_cases h : g = f
    · have hb : (g == f) = true := beq_iff_eq.mpr h
      simp only [List.lookup, hb, if_pos h]
    · have hb : (g == f) = false := beq_eq_false_iff_ne.mpr h
      simp only [List.lookup, hb, if_neg h]
  | (k, x) :: r => by
    have ih := lookup_putF f g v r
    rw [show putF f v ((k, x) :: r) = (if k = f then (k, v) :: r else (k, x) :: putF f v r) from rfl]
    by_cases hk : k = f
    · rw [if_pos hk]
      by_cases h : g = k
      · have hb : (g == k) = true := beq_iff_eq.mpr h
        simp only [List.lookup, hb, if_pos (h.trans hk)]
      · have hb : (g == k) = false := beq_eq_false_iff_ne.mpr h
        simp only [List.lookup, hb, if_neg (fun e : g = f => h (e.trans hk.symm))]
    · rw [if_neg hk]
      by_cases h : g = k
      · have hb : (g == k) = true := beq_iff_eq.mpr h
        simp only [List.lookup, hb, if_neg (fun e : g = f => hk (h.symm.trans e))]
      · have hb : (g == k) = false := beq_eq_false_iff_ne.mpr h
        simp only [List.lookup, hb]
        exact ih
theorem keys_putF (f : Str) (v : V) : ∀ fs : List (Str × V), f ∈ (putF f v fs).map (·.1) ∧ ∀ g, g ∈ fs.map (·.1) → g ∈ (putF f v fs).map (·.1)
  | [] => ⟨by simp [putF], fun g h => by simp at h⟩
  | (k, x) :: r => by
    obtain ⟨i1, i2⟩ := keys_putF f v r
    rw [show putF f v ((k, x) :: r) = (if k = f then (k, v) :: r else (k, x) :: putF f v r) from rfl]
    by_cases hk : k = f
    · rw [if_pos hk]
      subst hk
      exact ⟨by simp, fun g h => by simpa using h⟩
    · rw [if_neg hk]
      refine ⟨?_, fun g h => ?_⟩
      · rw [List.map_cons]
        exact List.mem_cons_of_mem _ i1
      · rw [List.map_cons] at h ⊢
        rcases List.mem_cons.mp h with e | e
        · exact List.mem_cons.mpr (.inl e)
        · exact List.mem_cons_of_mem _ (i2 g e)
theorem length_putF (f : Str) (v : V) : ∀ fs : List (Str × V), (putF f v fs).length ≤ fs.length + 1
  | [] => by simp [putF]
  | (k, x) :: r => by
    have ih := length_putF f v r
    rw [show putF f v ((k, x) :: r) = (if k = f then (k, v) :: r else (k, x) :: putF f v r) from rfl]
    by_cases hk : k = f
    · rw [if_pos hk, List.length_cons, List.length_cons]; omega
    · rw [if_neg hk, List.length_cons, List.length_cons]; omega

theorem RelO.some_of {v : V} {o : Option Value} (r : RelO (some v) o) : ∃ u, o = some u ∧ RelV v u := by
  cases o with
  | none => exact (show False from r).elim
  | some u => exact ⟨u, rfl, r⟩
theorem handed_of {v : V} {u : Value} (r : RelV v u) : PySem.W.handedIn u = true := by
  cases v with
  | non => cases (show u = Value.none from r); rfl
  | bl b => cases (show u = Value.bool b from r); rfl
  | int i => obtain ⟨t, e⟩ := (show ∃ t, u = Value.int i t from r); cases e; rfl
  | str x => obtain ⟨t, e⟩ := (show ∃ t, u = Value.str x t from r); cases e; rfl
  | byt b => obtain ⟨t, e⟩ := (show ∃ t, u = Value.bytes b t from r); cases e; rfl
  | flt b => obtain ⟨t, e⟩ := (show ∃ t, u = Value.float b t from r); cases e; rfl
  | ref a => cases (show u = Value.ref a from r); rfl
  | ty n => cases (show u = Value.type n from r); rfl

section
variable {P : Program} {w : World} {H H' : Hp} {h h' : Heap} {a C dx : Addr} {fs fs' : List (Str × V)}
theorem ins_get (hok : HOk P w H h) (e : H a = some (.ins C dx fs)) : ∃ mA, ObjM h a dx C mA ∧ (∀ f, RelO (fs.lookup f) (mA f)) ∧ PySem.Within mA (fs.map (·.1)) ∧ fs.length ≤ 1000 ∧ H dx = some (.own a) := by
  obtain ⟨d, z, ne, ob, mA, n, r, q⟩ := (show ObjOk P w H h a (.ins C dx fs) from hok a _ e)
  exact ⟨mA, ⟨ob, n, ne⟩, r, q, z, d⟩
end

set_option genInjectivity false in
structure Cls (K : PySem.W.Frag) (C : Addr) : Prop where
  pg : PySem.W.plainGet K C Str.empty = true
  hd : PySem.W.hasDictIn K C = true
  po : PySem.W.plainOver K C = true
  sa : PySem.W.findIn K (.ref C) "__setattr__" = some (some (.builtin "object.__setattr__"))
theorem Cls.get {K : PySem.W.Frag} {C : Addr} (c : Cls K C) (f : Str) : PySem.W.plainGet K C f = true := c.pg
noncomputable def NoAttr (K : PySem.W.Frag) (C : Addr) (f : Str) : Prop := PySem.W.findIn K (.ref C) f = some none
theorem NoAttr.taker {K : PySem.W.Frag} {C : Addr} {f : Str} (n : NoAttr K C f) : PySem.W.takerIn K C f = some none := by
  unfold PySem.W.takerIn
  rw [show PySem.W.findIn K (.ref C) f = some none from n]
  rfl
set_option genInjectivity false in
structure Meth (K : PySem.W.Frag) (C : Addr) (m : Str) (f : Addr) : Prop where
  at_ : PySem.W.findIn K (.ref C) m = some (some (.ref f))
  fn : PySem.W.isFn K (.ref f) = true
  kp : PySem.W.keepIn K (.ref f) = true

section
variable {X : Cx} {pins : List (Addr × Obj)} {σ : St} {H : Hp} {s : Shared} {a C dx : Addr} {fs : List (Str × V)} {f : Str} {v : V} {A : Around} {E : Value → Shared → Prop}

theorem getattr_ok {b : Bool} {Q : Value → Shared → Prop} (I : Inv X pins σ H s) (e : H a = some (.ins C dx fs)) (c : Cls X.K C) (n : NoAttr X.K C f) (l : fs.lookup f = some v)
    (h : ∀ u s', Inv X pins σ H s' → RelV v u → Q u s') : wpAny (model X.prog X.w) A (getAttr (.ref a) f b) Q E s := by
  obtain ⟨mA, O, r, _, _, _⟩ := ins_get I.hok e
  obtain ⟨u, hu, ru⟩ := RelO.some_of (v := v) (o := mA f) (by rw [← l]; exact r f)
  exact get_map I.kIn O (c.get f) c.hd n hu (handed_of ru) (h u _ (I.tok _) ru)

theorem setattr_ok {y : V} {u : Value} {Q : Unit → Shared → Prop} (I : Inv X pins σ H s) (e : H a = some (.ins C dx fs)) (c : Cls X.K C) (n : NoAttr X.K C f) (hl : fs.length < 1000) (ry : RelV y u)
    (h : ∀ s', Inv X pins σ (upd H a (.ins C dx (putF f y fs))) s' → Q () s') : wpAny (model X.prog X.w) A (setAttr (.ref a) f u) Q E s := by
  obtain ⟨mA, O, r, wi, _, ho⟩ := ins_get I.hok e
  have hz : (fs.map (·.1)).length ≤ sizeLine := by rw [List.length_map, sizeLine_eq]; omega
  refine set_map I.kIn O c.sa c.po n.taker c.hd wi hz fun h' O' sb => h _ ?_
  have hd : ∃ o, h'.get? dx = some o := let ⟨o, _, _, e', _⟩ := O'.ns; ⟨o, e'⟩
  refine I.write (x := a) (e := dx) (by rw [e]; exact True.intro) (.inr ho) (fun b q hb z => (sb.2 b hb).trans z) hd ?_
  refine ⟨by rw [upd_ne O.ne]; exact ho, ?_, O.ne, O'.obj, _, O'.ns, fun g => ?_, fun g hg => ?_⟩
  · have := length_putF f y fs; omega
  · show RelO ((putF f y fs).lookup g) (if g = f then some u else mA g)
    rw [lookup_putF]
    by_cases q : g = f
    · rw [if_pos q, if_pos q]; exact ry
    · rw [if_neg q, if_neg q]; exact r g
  · by_cases q : g = f
    · rw [q]; exact (keys_putF f y fs).1
    · refine (keys_putF f y fs).2 g (wi g fun z => hg ?_)
      show (if g = f then some u else mA g) = none
      rw [if_neg q]; exact z

theorem Inv.made (I : Inv X pins σ H s) : Inv X pins σ (upd (upd H s.heap.objs.size (.own (s.heap.objs.size + 1))) (s.heap.objs.size + 1) (.ins C s.heap.objs.size []))
    { s with heap := (s.heap.push PySem.W.emptyDict).push (PySem.W.instObj C s.heap.objs.size) } := by
  have e1 : (s.heap.push PySem.W.emptyDict).get? s.heap.objs.size = some PySem.W.emptyDict := Heap.get?_push_size s.heap rfl
  have e2 : ((s.heap.push PySem.W.emptyDict).push (PySem.W.instObj C s.heap.objs.size)).get? (s.heap.objs.size + 1) = some (PySem.W.instObj C s.heap.objs.size) := by
    have := Heap.get?_push_size (s.heap.push PySem.W.emptyDict) (o := PySem.W.instObj C s.heap.objs.size) rfl
    rwa [Heap.size_push] at this
  have e3 : (s.heap.push PySem.W.emptyDict).Ns s.heap.objs.size (fun _ => none) := ⟨PySem.W.emptyDict, #[], _, e1, rfl, (fun e he => absurd he (by simp)), fun _ => rfl⟩
  have I1 := I.laid (a := s.heap.objs.size) (o := .own (s.heap.objs.size + 1)) (h' := s.heap.push PySem.W.emptyDict) (t' := s.toks) (fun b u q => Heap.get?_push_of_some _ q) (Nat.le_refl _) ⟨_, e1⟩
  refine I1.laid (a := s.heap.objs.size + 1) (o := .ins C s.heap.objs.size []) (t' := s.toks) (fun b u q => Heap.get?_push_of_some _ q) (Nat.le_of_eq (Heap.size_push _ _)) ?_
  have ne : s.heap.objs.size ≠ s.heap.objs.size + 1 := Nat.ne_of_lt (Nat.lt_succ_self _)
  refine ⟨by rw [upd_ne ne, upd_same], Nat.zero_le _, ne, e2, fun _ => none, (Heap.Ns1.of_empty e3).at fun o q => Heap.get?_push_of_some _ q, fun _ => True.intro, fun y hy => absurd rfl hy⟩

theorem attr_of {prog : Program} {w : World} {env : Env} {e : Expr} {f : Str} {pos : Pos} {s : Shared} {Q : Value → Shared → Prop} (hb : attributeBase e f env (eval e env) = eval e env)
    (h : wpAny (model prog w) A (eval e env) (fun o s₁ => wpAny (model prog w) A (getAttr o f true) Q E s₁) E s) : wpAny (model prog w) A (eval (.Attribute e f pos) env) Q E s :=
  Attribute_any_ h (by rw [arm_eval_Attribute, hb])
end

noncomputable def tFld (K : PySem.W.Frag) (ta : TE) (f : Str) : TE := fun σ H Q => ta σ H fun x H1 => ∃ a C dx fs v, x = .ref a ∧ H1 a = some (.ins C dx fs) ∧ Cls K C ∧ NoAttr K C f ∧ fs.lookup f = some v ∧ Q v H1
noncomputable def sFld (K : PySem.W.Frag) (ta tv : TE) (f : Str) : TS := fun D σ H => tv σ H fun y H1 => ta σ H1 fun x H2 => ∃ a C dx fs, x = .ref a ∧ H2 a = some (.ins C dx fs) ∧ Cls K C ∧ NoAttr K C f ∧ fs.length < 1000 ∧
  D.nx σ (upd H2 a (.ins C dx (putF f y fs)))
section
variable {X : Cx} {o e value : Expr} {f : Str} {pos pos' tpos : Pos} {ta tv : TE}
theorem pe_fld (he : PE X e ta) (hb : attributeBase e f X.env (eval e X.env) = eval e X.env) : PE X (.Attribute e f pos) (tFld X.K ta f) := by
  intro pins s σ H Q I h
  refine attr_of hb (thn (he pins s σ H _ I h) fun u s1 ⟨x, H1, I1, rx, a, C, dx, fs, v, ex, ea, c, n, l, q⟩ => ?_)
  subst ex
  obtain rfl : u = Value.ref a := rx
  exact getattr_ok I1 ea c n l fun u' s2 I2 ru => ⟨v, H1, I2, ru, q⟩
theorem ps_fld (ha : PE X o ta) (hv : PE X value tv) (hs : swapsWith value (some (.Attribute o f pos')) pos.line X.env = pure false) : PS X (.Assign [.Attribute o f pos'] value pos) (sFld X.K ta tv f) := by
  intro pins s σ H D I h
  refine plainObj_wpAny_Assign_Attribute (thn (hv pins s σ H _ I h) fun u s1 ⟨y, H1, I1, ry, q⟩ => thn (ha pins s1 σ H1 _ I1 q) fun ov s2 ⟨x, H2, I2, rx, a, C, dx, fs, ex, ea, c, n, l, q2⟩ => ?_) hs
  subst ex
  obtain rfl : ov = Value.ref a := rx
  exact setattr_ok I2 ea c n l ry fun s3 I3 => ⟨σ, _, I3, q2⟩
end

section
variable {X : Cx} {pins : List (Addr × Obj)} {σ : St} {H : Hp} {s : Shared} {A : Around} {E : Value → Shared → Prop} {Q : Value → Shared → Prop} {c : Value} {b : Bool}
inductive TyOf (K : PySem.W.Frag) (H : Hp) : V → Value → Prop where
  | non : TyOf K H .non (.type "NoneType")
  | bl (x : Bool) : TyOf K H (.bl x) (.type "bool")
  | int (i : Int) : TyOf K H (.int i) (.type "int")
  | str (x : Str) : TyOf K H (.str x) (.type "str")
  | flt (x : UInt64) : TyOf K H (.flt x) (.type "float")
  | lst {a : Addr} {xs : List V} (e : H a = some (.lst xs)) : TyOf K H (.ref a) (.type "list")
  | frz {a : Addr} {o : Obj} {xs : List V} (e : H a = some (.frz o (.lst xs))) : TyOf K H (.ref a) (.type "list")
  | tup {a : Addr} {xs : List V} (e : H a = some (.tup xs)) : TyOf K H (.ref a) (.type "tuple")
  | dK {a : Addr} {kvs : List (Key × V)} (e : H a = some (.dK kvs)) : TyOf K H (.ref a) (.type "dict")
  | dT {a : Addr} {kvs : List (List Key × V)} (e : H a = some (.dT kvs)) : TyOf K H (.ref a) (.type "dict")
  | ins {a C dx : Addr} {fs : List (Str × V)} (e : H a = some (.ins C dx fs)) (cl : Cls K C) (ha : PySem.W.findIn K (.ref C) "__class__" = some (some (.builtin "object.__class__")))
      (hn : PySem.W.specialIn K (.builtin "object.__class__") "__get__" = some (some (.builtin "getset_descriptor.__get__"))) (htk : PySem.W.takesIn K (.builtin "object.__class__") = some true)
      (hm : PySem.W.mroIn K C (.type "object") = some true) : TyOf K H (.ref a) (.ref C)
theorem isinst_ok {x : V} {u t : Value} (I : Inv X pins σ H s) (rx : RelV x u) (ty : TyOf X.K H x t) (e : PySem.W.kitOne X.K t c = some b) (h : ∀ tk, Q (.bool b) { s with toks := tk }) :
    wpAny (model X.prog X.w) A (call (.builtin "isinstance") [u, c]) Q E s := by
  cases ty with
  | non => cases (show u = Value.none from rx); exact PySem.W.kia_one PySem.W.kitx_none I.kIn True.intro e (fun z => nomatch z) h
  | bl y => cases (show u = Value.bool y from rx); exact PySem.W.kia_one PySem.W.kitx_bool I.kIn True.intro e (fun z => nomatch z) h
  | int i => obtain ⟨t, q⟩ := (show ∃ t, u = Value.int i t from rx); cases q; exact PySem.W.kia_one PySem.W.kitx_int I.kIn True.intro e (fun z => nomatch z) h
  | str y => obtain ⟨t, q⟩ := (show ∃ t, u = Value.str y t from rx); cases q; exact PySem.W.kia_one PySem.W.kitx_str I.kIn True.intro e (fun z => nomatch z) h
  | flt y => obtain ⟨t, q⟩ := (show ∃ t, u = Value.float y t from rx); cases q; exact PySem.W.kia_one PySem.W.kitx_float I.kIn True.intro e (fun z => nomatch z) h
  | @lst a xs ea =>
    cases (show u = Value.ref a from rx)
    obtain ⟨_, _, n, _, h1⟩ := (show ObjOk X.prog X.w H s.heap a (.lst xs) from I.hok a _ ea)
    exact PySem.W.kia_one PySem.W.kitx_list I.kIn ⟨_, h1, rfl⟩ e (fun z => nomatch z) h
  | @frz a ob xs ea =>
    cases (show u = Value.ref a from rx)
    obtain ⟨_, _, _, n, _, h1⟩ := (show ObjOk X.prog X.w H s.heap a (.frz ob (.lst xs)) from I.hok a _ ea)
    exact PySem.W.kia_one PySem.W.kitx_list I.kIn ⟨_, h1, rfl⟩ e (fun z => nomatch z) h
  | @tup a xs ea =>
    cases (show u = Value.ref a from rx)
    obtain ⟨_, _, _, p⟩ := (show ObjOk X.prog X.w H s.heap a (.tup xs) from I.hok a _ ea)
    obtain ⟨o, h1, h2, _⟩ := p
    exact PySem.W.kia_one PySem.W.kitx_tuple I.kIn ⟨o, h1, h2⟩ e (fun z => nomatch z) h
  | @dK a kvs ea =>
    cases (show u = Value.ref a from rx)
    obtain ⟨_, _, vs, _, p⟩ := (show ObjOk X.prog X.w H s.heap a (.dK kvs) from I.hok a _ ea)
    obtain ⟨o, es, ep, h1, h2, _⟩ := p
    exact PySem.W.kia_one PySem.W.kitx_dict I.kIn ⟨o, h1, h2.1⟩ e (fun z => nomatch z) h
  | @dT a kvs ea =>
    cases (show u = Value.ref a from rx)
    obtain ⟨_, _, xs, _, o, es, ep, h1, h2, _⟩ := (show ObjOk X.prog X.w H s.heap a (.dT kvs) from I.hok a _ ea)
    exact PySem.W.kia_one PySem.W.kitx_dict I.kIn ⟨o, h1, h2.1⟩ e (fun z => nomatch z) h
  | @ins a C dx fs ea cl ha hn htk hm =>
    cases (show u = Value.ref a from rx)
    obtain ⟨mA, O, _⟩ := ins_get I.hok ea
    obtain ⟨od, J, _⟩ := O.look
    exact PySem.W.kia_one (PySem.W.kitx_own (cl.get _) cl.hd ha hn htk hm) I.kIn J e (fun z => nomatch z) h
end
end L2

namespace L2
open PySem PySem.Spec PyProof.Rows

set_option genInjectivity false in
structure Room (k : Nat) (A : Around) : Prop where
  hd : A.handled = none
  dp : A.depth + 3 * k + 5 < recursionLimit
  un : A.units + 16 * k + 200 < cLine
theorem Room.mono {j k : Nat} {A : Around} (r : Room k A) (h : j ≤ k) : Room j A := ⟨r.hd, by have := r.dp; omega, by have := r.un; omega⟩
theorem Room.deeper {k : Nat} {A : Around} (r : Room (k + 1) A) (env : Env) : Room k (A.deeper env) :=
  ⟨r.hd, by have := r.dp; show A.depth + 1 + 3 * k + 5 < _; omega, by have := r.un; show A.units + 3 + 16 * k + 200 < _; omega⟩
theorem make_depth {A : Around} {C : Addr} {us : List Value} {kw : List (Str × Value)} : (A.under (.builtin "type.__call__" ⟨.ref C :: us, kw⟩)).depth = A.depth + 1 := by
  first | rfl | simp [Around.under, Code.weight, Code.isCreation, Code.isGuard, Code.isCaller, Code.frames, Code.isFrame, guardIds]
theorem make_units {A : Around} {C : Addr} {us : List Value} {kw : List (Str × Value)} : (A.under (.builtin "type.__call__" ⟨.ref C :: us, kw⟩)).units = A.units + 1 := by
  first | rfl | simp [Around.under, Code.cUnits, Code.frames, Code.isFrame]
theorem Room.make {k : Nat} {A : Around} (r : Room (k + 1) A) (C : Addr) (us : List Value) (kw : List (Str × Value)) : Room k (A.under (.builtin "type.__call__" ⟨.ref C :: us, kw⟩)) :=
  ⟨r.hd, by have := r.dp; rw [make_depth]; omega, by have := r.un; rw [make_units]; omega⟩
theorem Room.depth {k : Nat} {A : Around} (r : Room k A) : A.depth < recursionLimit := by have := r.dp; omega
theorem Room.units {k : Nat} {A : Around} (r : Room k A) : A.units + 64 < cLine := by have := r.un; omega
noncomputable def tNil : TA := fun _ H Q => Q [] H
noncomputable def tCons (ta : TE) (tr : TA) : TA := fun σ H Q => ta σ H fun x H1 => tr σ H1 fun xs H2 => Q (x :: xs) H2
section
variable {X : Cx} {e : Expr} {es : List Expr} {te : TE} {t : TA} {pos : Pos}
theorem pa_nil : PA X [] tNil := fun _ _ _ _ H Q I h => Calls.spliced_nil ⟨[], H, I, .nil, h⟩
theorem pa_cons (ha : PE X e te) (hr : PA X es t) (hs : starEach (e :: es) X.env = (false, eval e X.env) :: starEach es X.env := by rfl) : PA X (e :: es) (tCons te t) := by
  intro pos pins s σ H Q I h
  rw [hs]
  show wpAny _ _ (spliced ((false, eval e X.env) :: backTo pos (starEach es X.env))) _ _ s
  refine Calls.spliced_cons (thn (ha pins s σ H _ I h) fun u s1 ⟨x, H1, I1, r1, q1⟩ => ?_)
  exact thn (hr pos pins s1 σ H1 _ I1 q1) fun us s2 ⟨xs, H2, I2, r2, q2⟩ => ⟨x :: xs, H2, I2, .cons r1 r2, q2⟩

noncomputable def tTup (t : TA) : TE := fun σ H Q => t σ H fun xs H1 => xs.length ≤ sizeLine ∧ ∀ p, H1 p = none → Q (.ref p) (upd H1 p (.tup xs))
noncomputable def tLst (t : TA) : TE := fun σ H Q => t σ H fun xs H1 => xs.length ≤ sizeLine ∧ ∀ p, H1 p = none → Q (.ref p) (upd H1 p (.lst xs))
theorem pe_tup {x1} (h : PA X es t) : PE X (.Tuple es x1 pos) (tTup t) := by
  intro pins s σ H Q I hq
  refine wpAny_Tuple_spliced (thn (h pos pins s σ H _ I hq) fun us s1 ⟨xs, H1, I1, r, z, q⟩ => ⟨by rw [← r.length]; exact z, ?_⟩)
  have hf : H1 s1.heap.objs.size = none := I1.hok.fresh (Nat.le_refl _)
  refine ⟨.ref s1.heap.objs.size, upd H1 s1.heap.objs.size (.tup xs), I1.laid (t' := s1.toks) (fun b u e => Heap.get?_push_of_some _ e) (Nat.le_refl _) ?_, rfl, q _ hf⟩
  exact ⟨z, us, r, ⟨_, Heap.get?_push_size _ rfl, rfl, _, rfl⟩⟩
theorem pe_lst (h : PA X es t) : PE X (.List es pos) (tLst t) := by
  intro pins s σ H Q I hq
  refine wpAny_List_spliced (thn (h pos pins s σ H _ I hq) fun us s1 ⟨xs, H1, I1, r, z, q⟩ => ⟨by rw [← r.length]; exact z, ?_⟩)
  have hf : H1 s1.heap.objs.size = none := I1.hok.fresh (Nat.le_refl _)
  refine ⟨.ref s1.heap.objs.size, upd H1 s1.heap.objs.size (.lst xs), I1.laid (t' := s1.toks) (fun b u e => Heap.get?_push_of_some _ e) (Nat.le_refl _) ?_, rfl, q _ hf⟩
  exact ⟨z, us, 0, r, Heap.get?_push_size _ rfl⟩
end

noncomputable abbrev Sp := List V → Hp → VK → XK → Prop
noncomputable abbrev CXT := List Env → Hp → Shared → XK → Value → Shared → Prop

set_option genInjectivity false in
structure Env0 (P : Program) (w : World) (K : PySem.W.Frag) (mg : Str → Option Value) (base : Heap) (A : Around) (outer : List Env) (s : Shared) (H : Hp) : Prop where
  frames : A.frames = some outer
  mod : Mod K mg base
  bs : ∀ b o, base.get? b = some o → s.heap.get? b = some o ∧ H b = none
  bsz : base.objs.size ≤ s.heap.objs.size
  funs : s.heap.FunFrames base outer
  frf : ∀ b ∈ frs outer, H b = none
  hok : HOk P w H s.heap
  bare : AllBare s.gens
noncomputable def CE (outer : List Env) (P : Program) (w : World) (H : Hp) (s : Shared) (Q : VK) (u : Value) (s' : Shared) : Prop :=
  ∃ v H', s'.os = s.os ∧ AllBare s'.gens ∧ Un (frs outer) [] H H' s.heap s'.heap ∧ HOk P w H' s'.heap ∧ RelV v u ∧ Q v H'
noncomputable def CR (CX : CXT) (outer : List Env) (P : Program) (w : World) (H : Hp) (s : Shared) (Q : VK) (E : XK) (r : Result) (s' : Shared) : Prop :=
  match r with
  | .ok (.ret u) => CE outer P w H s Q u s'
  | .ok _ => False
  | .error e => CX outer H s E e s'
set_option genInjectivity false in
structure FnOk (P : Program) (w : World) (K : PySem.W.Frag) (mg : Str → Option Value) (base : Heap) (CX : CXT) (k : Nat) (f : Addr) (fd : FuncData) (ps : List Str) (sp : Sp) : Prop where
  len : ∀ vs H Q E, sp vs H Q E → vs.length = ps.length
  run : ∀ (A : Around) (outer : List Env) (s : Shared) (H : Hp) (args : Args) (us : List Value) (vs : List V) (Q : VK) (E : XK), Room k A → Env0 P w K mg base A outer s H → BindsTo s fd args (ps.zip us) → Vals vs us → sp vs H Q E →
    codeAny (model P w) A (.call (.ref f) args) (CR CX outer P w H s Q E) s
theorem Env0.make {P : Program} {w : World} {K : PySem.W.Frag} {mg : Str → Option Value} {base : Heap} {A : Around} {outer : List Env} {s : Shared} {H : Hp} (e : Env0 P w K mg base A outer s H) (C : Addr) (us : List Value) (kw : List (Str × Value)) :
    Env0 P w K mg base (A.under (.builtin "type.__call__" ⟨.ref C :: us, kw⟩)) outer s H := ⟨by first | exact e.frames | (simpa [Around.under, Code.envs, Code.isFrame, pushEnvs] using e.frames), e.mod, e.bs, e.bsz, e.funs, e.frf, e.hok, e.bare⟩
section
variable {X : Cx} {pins : List (Addr × Obj)} {σ : St} {H : Hp} {s s' : Shared}
theorem Inv.env0 (I : Inv X pins σ H s) : Env0 X.prog X.w X.K X.mg X.base X.A X.stack s H :=
  ⟨I.ok.frames, I.ok.mod, I.bs, Nat.le_trans I.ok.bsz I.sz, I.stack, I.stkFree, I.hok, I.bare⟩
theorem Inv.after {Q : VK} {u : Value} (I : Inv X pins σ H s) (h : CE X.stack X.prog X.w H s Q u s') : EP X pins σ Q u s' := by
  obtain ⟨v, H', os, bare, un, hok, r, q⟩ := h
  obtain ⟨hh, g, d, t, os'⟩ := s'
  obtain rfl : os' = s.os := os
  exact ⟨v, H', I.call (h' := hh) (g' := g) (d' := d) (t' := t) (ch := []) un hok bare (fun b z => absurd z (by simp)), r, q⟩
end

noncomputable def tCall (sp : Sp) (dvs : List V) (E : XK) (t : TA) : TE := fun σ H Q => t σ H fun vs H1 => sp (vs ++ dvs) H1 Q E
noncomputable def tMake (C : Addr) (sp : Sp) (dvs : List V) (E : XK) (t : TA) : TE := fun σ H Q => t σ H fun vs H1 => ∀ x dx, H1 x = none → H1 dx = none → dx ≠ x →
  sp (.ref x :: (vs ++ dvs)) (upd (upd H1 dx (.own x)) x (.ins C dx [])) (fun v H2 => v = .non ∧ Q (.ref x) H2) E

noncomputable def Binds (K : PySem.W.Frag) (fd : FuncData) (ps : List Str) (ds : List Value) : Prop :=
  ∀ (s : Shared) (us : List Value), K.In s.heap → (us ++ ds).length = ps.length → BindsTo s fd ⟨us, []⟩ (ps.zip (us ++ ds))
theorem Binds.all {K : PySem.W.Frag} {fd : FuncData} {ps : List Str} (h : ∀ us : List Value, us.length = ps.length → bindArgs fd ⟨us, []⟩ = pure (ps.zip us)) : Binds K fd ps [] := fun s us _ hl => by
  rw [List.append_nil] at hl ⊢
  exact .of_eq (h us hl)

noncomputable def Passes (CX : CXT) (X : Cx) (E : XK) : Prop := ∀ (pins : List (Addr × Obj)) (σ : St) (H : Hp) (s : Shared) (e : Value) (s' : Shared), Inv X pins σ H s → CX X.stack H s E e s' → X.xe e s'

section
variable {X : Cx} {CX : CXT} {k : Nat} {f C : Addr} {fd : FuncData} {ps : List Str} {sp : Sp} {dvs : List V} {ds : List Value} {E : XK} {x m : Str} {p pos apos : Pos} {e o : Expr} {es : List Expr} {ta : TE} {t : TA}

theorem run_fn {pins : List (Addr × Obj)} {σ : St} {H : Hp} {s : Shared} {Q : VK} {us : List Value} {vs : List V} (F : FnOk X.prog X.w X.K X.mg X.base CX k f fd ps sp) (hr : Room k X.A) (hb : Binds X.K fd ps ds) (hd : Vals dvs ds) (hx : Passes CX X E)
    (I : Inv X pins σ H s) (r : Vals vs us) (h : sp (vs ++ dvs) H Q E) : wpAny (model X.prog X.w) X.A (call (.ref f) us) (EP X pins σ Q) X.xe s := by
  have r2 : Vals (vs ++ dvs) (us ++ ds) := r.append hd
  have hl : (us ++ ds).length = ps.length := by rw [← r2.length]; exact F.len _ _ _ _ h
  refine wpAny_call (codeAny_mono (F.run X.A X.stack s H ⟨us, []⟩ (us ++ ds) (vs ++ dvs) Q E hr I.env0 (hb s us I.kIn hl) r2 h) fun r s' hq => ?_)
  cases r with
  | error e => exact hx pins σ H s e s' I hq
  | ok fl =>
    cases fl with
    | ret u => exact I.after hq
    | next => exact False.elim hq
    | brk => exact False.elim hq
    | cont => exact False.elim hq

theorem pe_call (F : FnOk X.prog X.w X.K X.mg X.base CX k f fd ps sp) (hr : Room k X.A) (hg : Gl X x) (hm : X.mg x = some (.ref f)) (hk : PySem.W.keepIn X.K (.ref f) = true) (hb : Binds X.K fd ps ds) (hd : Vals dvs ds) (hx : Passes CX X E)
    (ha : PA X (e :: es) t) (hdb : (x == ("__debug__" : Str)) = false := by decide) (he : starEach (e :: es) X.env = (false, eval e X.env) :: starEach es X.env := by rfl) (hpl : (backTo pos (starEach es X.env)).any (·.1) = false := by rfl) :
    PE X (.Call (.Name x p) (e :: es) [] pos) (tCall sp dvs E t) := by
  intro pins s σ H Q I h
  refine wpAny_Call_Name_kw (ld_glob I hg hm ?_ hdb)
  refine PySem.W.callWith_K (h₀ := X.base) I.ok.mod.kin hk (thn (ha pos pins s σ H _ I h) fun us s1 ⟨vs, H1, I1, r, q⟩ => ⟨I1.kIn, ?_⟩) he hpl
  exact run_fn F hr hb hd hx I1 r q
set_option genInjectivity false in
structure Mk (K : PySem.W.Frag) (C f : Addr) : Prop where
  makes : PySem.W.makesIn K C = true
  init : PySem.W.findIn K (.ref C) "__init__" = some (some (.ref f))
  fn : PySem.W.isFn K (.ref f) = true
  kp : PySem.W.keepIn K (.ref C) = true

theorem run_make {pins : List (Addr × Obj)} {σ : St} {H : Hp} {s : Shared} {Q : VK} {us : List Value} {vs : List V} (M : Mk X.K C f) (F : FnOk X.prog X.w X.K X.mg X.base CX k f fd ps sp) (hr : Room (k + 1) X.A) (hb : Binds X.K fd ps ds) (hd : Vals dvs ds)
    (hx : Passes CX X E) (I : Inv X pins σ H s) (r : Vals vs us)
    (h : ∀ x dx, H x = none → H dx = none → dx ≠ x → sp (.ref x :: (vs ++ dvs)) (upd (upd H dx (.own x)) x (.ins C dx [])) (fun v H2 => v = .non ∧ Q (.ref x) H2) E) :
    wpAny (model X.prog X.w) X.A (call (.ref C) us) (EP X pins σ Q) X.xe s := by
  have hq := h (s.heap.objs.size + 1) s.heap.objs.size (I.hok.fresh (Nat.le_succ _)) (I.hok.fresh (Nat.le_refl _)) (Nat.ne_of_lt (Nat.lt_succ_self _))
  have I2 := Inv.made (C := C) I
  have r2 : Vals (V.ref (s.heap.objs.size + 1) :: (vs ++ dvs)) (Value.ref (s.heap.objs.size + 1) :: (us ++ ds)) := .cons rfl (r.append hd)
  have hl : (Value.ref (s.heap.objs.size + 1) :: us ++ ds).length = ps.length := by
    have e := r2.length
    rw [F.len _ _ _ _ hq] at e
    exact e.symm
  refine wpAny_call (make_map (f := f) I.kIn M.makes M.init (beq_iff_eq.mp M.fn) (codeAny_mono (F.run _ X.stack _ _ ⟨Value.ref (s.heap.objs.size + 1) :: us, []⟩ (Value.ref (s.heap.objs.size + 1) :: (us ++ ds)) _ _ E (hr.make C us [])
    (I2.env0.make C us []) (hb _ (Value.ref (s.heap.objs.size + 1) :: us) I2.kIn hl) r2 hq) fun r s' hq' => ?_))
  cases r with
  | error e => exact hx pins σ _ _ e s' I2 hq'
  | ok fl =>
    cases fl with
    | ret u =>
      obtain ⟨v, H', I3, rv, ev, q3⟩ := I2.after hq'
      subst ev
      exact ⟨rv, ⟨V.ref (s.heap.objs.size + 1), H', I3, rfl, q3⟩⟩
    | next => exact False.elim hq'
    | brk => exact False.elim hq'
    | cont => exact False.elim hq'
theorem pe_make (M : Mk X.K C f) (F : FnOk X.prog X.w X.K X.mg X.base CX k f fd ps sp) (hr : Room (k + 1) X.A) (hg : Gl X x) (hm : X.mg x = some (.ref C)) (hb : Binds X.K fd ps ds) (hd : Vals dvs ds) (hx : Passes CX X E)
    (ha : PA X (e :: es) t) (hdb : (x == ("__debug__" : Str)) = false := by decide) (he : starEach (e :: es) X.env = (false, eval e X.env) :: starEach es X.env := by rfl) (hpl : (backTo pos (starEach es X.env)).any (·.1) = false := by rfl) :
    PE X (.Call (.Name x p) (e :: es) [] pos) (tMake C sp dvs E t) := by
  intro pins s σ H Q I h
  refine wpAny_Call_Name_kw (ld_glob I hg hm ?_ hdb)
  refine PySem.W.callWith_K (h₀ := X.base) I.ok.mod.kin M.kp (thn (ha pos pins s σ H _ I h) fun us s1 ⟨vs, H1, I1, r, q⟩ => ⟨I1.kIn, ?_⟩) he hpl
  exact run_make M F hr hb hd hx I1 r q
end

section
variable {X : Cx} {CX : CXT} {k : Nat} {f C : Addr} {fd : FuncData} {ps ks : List Str} {sp : Sp} {E : XK} {x m : Str} {p pos apos kpos : Pos} {e o : Expr} {es : List Expr} {kws : List Keyword} {te ta : TE} {t tk : TA} {nm : Option Str}
variable {g : List Value → List Value → List Value} {gV : List V → List V → List V}
end

set_option genInjectivity false in
structure FnScope (N P : List Str) (sc : Scope) : Prop where
  kind : sc.kind = .function
  co : sc.isCoroutine = false
  gen : sc.isGenerator = false
  nd : N.Nodup
  pre : N.take P.length = P
  par : ∀ x ∈ P, sc.names.lookup x = some .local ∨ sc.names.lookup x = some .cell
  nofree : ∀ y ∈ sc.names, y.2 ≠ .free

theorem bindL_out {kindOf : Str → Option NameKind} {x : Str} : ∀ {binds : List (Str × Value)} {m : Str → Option Value}, (∀ v, (x, v) ∉ binds) → bindL kindOf binds m x = m x
  | [], _, _ => rfl
  | (n, v) :: r, m, h => by
    unfold bindL
    rw [bindL_out fun w hw => h w (List.mem_cons_of_mem _ hw)]
    split
    · have : x ≠ n := by rintro rfl; exact h v List.mem_cons_self
      simp [this]
    · rfl
theorem bindC_out {kindOf : Str → Option NameKind} {x : Str} : ∀ {binds : List (Str × Value)} {m : Str → Option Value}, (∀ v, (x, v) ∉ binds) → bindC kindOf binds m x = m x
  | [], _, _ => rfl
  | (n, v) :: r, m, h => by
    unfold bindC
    rw [bindC_out fun w hw => h w (List.mem_cons_of_mem _ hw)]
    split
    · rfl
    · have : x ≠ n := by rintro rfl; exact h v List.mem_cons_self
      simp [this]
theorem bindL_get {kindOf : Str → Option NameKind} {x : Str} {v : Value} : ∀ {P : List Str} {vs : List Value} {i : Nat} {m : Str → Option Value}, P.Nodup → P[i]? = some x → vs[i]? = some v → kindOf x = some .local →
    bindL kindOf (P.zip vs) m x = some v
  | [], _, _, _, _, h, _, _ => by simp at h
  | _ :: _, [], _, _, _, _, h, _ => by simp at h
  | p :: P, w :: vs, 0, m, nd, h1, h2, hk => by
    simp at h1 h2; subst h1; subst h2
    show bindL kindOf ((p, w) :: P.zip vs) m p = _
    unfold bindL
    rw [bindL_out fun v hv => (List.nodup_cons.mp nd).1 (List.of_mem_zip hv).1, if_pos hk]
    simp
  | p :: P, w :: vs, i + 1, m, nd, h1, h2, hk => by
    show bindL kindOf ((p, w) :: P.zip vs) m x = _
    unfold bindL
    exact bindL_get (i := i) (List.nodup_cons.mp nd).2 (by simpa using h1) (by simpa using h2) hk
theorem bindC_get {kindOf : Str → Option NameKind} {x : Str} {v : Value} : ∀ {P : List Str} {vs : List Value} {i : Nat} {m : Str → Option Value}, P.Nodup → P[i]? = some x → vs[i]? = some v → kindOf x ≠ some .local →
    bindC kindOf (P.zip vs) m x = some v
  | [], _, _, _, _, h, _, _ => by simp at h
  | _ :: _, [], _, _, _, _, h, _ => by simp at h
  | p :: P, w :: vs, 0, m, nd, h1, h2, hk => by
    simp at h1 h2; subst h1; subst h2
    show bindC kindOf ((p, w) :: P.zip vs) m p = _
    unfold bindC
    rw [bindC_out fun v hv => (List.nodup_cons.mp nd).1 (List.of_mem_zip hv).1, if_neg hk]
    simp
  | p :: P, w :: vs, i + 1, m, nd, h1, h2, hk => by
    show bindC kindOf ((p, w) :: P.zip vs) m x = _
    unfold bindC
    exact bindC_get (i := i) (List.nodup_cons.mp nd).2 (by simpa using h1) (by simpa using h2) hk

noncomputable def start (N : List Str) (vs : List V) : St := vs.map some ++ List.replicate (N.length - vs.length) none

noncomputable def cxOf (CX : CXT) (P : Program) (w : World) (K : PySem.W.Frag) (mg : Str → Option Value) (base : Heap) (N : List Str) (qual : Str) (scope : Scope) (f : Addr) (cd : Value) (A : Around) (outer : List Env) (s : Shared) (H : Hp) (E : XK) : Cx where
  prog := P
  w := w
  K := K
  mg := mg
  base := base
  A := A.deeper (envOfC qual scope s.heap.objs.size f cd)
  N := N
  s₀ := s
  H₀ := H
  env := envOfC qual scope s.heap.objs.size f cd
  outer := outer
  stack := envOfC qual scope s.heap.objs.size f cd :: outer
  ex := []
  calm := true
  fn := fun _ => true
  pn := []
  xe := fun e s' => wpAny (model P w) (A.deeper (envOfC qual scope s.heap.objs.size f cd)) (leaving (envOfC qual scope s.heap.objs.size f cd) e) (fun _ s'' => CX outer H s E e s'') (fun e' s'' => CX outer H s E e' s'') s'

theorem cell_has {sc : Scope} {n : Nat} {x : Str} (h : sc.names.lookup x = some .cell) : ∃ c, (cellsFrom n sc.names []).lookup x = some c := by
  have q := PySem.W.cellsFrom_some sc.names n [] (.inl h)
  exact Option.isSome_iff_exists.mp q

theorem inv_start {CX : CXT} {P : Program} {w : World} {K : PySem.W.Frag} {mg : Str → Option Value} {base : Heap} {N ps : List Str} {qual : Str} {scope : Scope} {f : Addr} {cd : Value} {A : Around} {outer : List Env} {s s1 : Shared} {H : Hp} {E : XK} {us : List Value} {vs : List V}
    (S : FnScope N ps scope) (hd : A.handled = none) (e0 : Env0 P w K mg base A outer s H) (hl : vs.length = ps.length) (r : Vals vs us)
    (x : InCallC s s.heap.objs.size (bindL (envOfC qual scope s.heap.objs.size f cd).kindOf (ps.zip us) fun _ => none) (cellsFrom (s.heap.objs.size + 1) scope.names []) (bindC (envOfC qual scope s.heap.objs.size f cd).kindOf (ps.zip us) fun _ => none) s1) :
    Inv (cxOf CX P w K mg base N qual scope f cd A outer s H E) [] (start N vs) H s1 := by
  have hpl : ps.length ≤ N.length := by have := congrArg List.length S.pre; rw [List.length_take] at this; omega
  obtain ⟨h1, tk, rfl, hk⟩ := x.done
  have noA : ∀ b : Addr, b ∉ (cxOf CX P w K mg base N qual scope f cd A outer s H E).ex := fun b z => absurd (show b ∈ ([] : List Addr) from z) (by simp)
  refine ⟨⟨e0.mod, S.kind, rfl, rfl, Nat.le_refl _, fun y z c h1 h2 => ?_, fun y hy => ?_, fun y c _ h => ?_, fun _ => hd, Around.frames_deeper e0.frames, .inr ⟨rfl, rfl⟩, fun b z => absurd z (noA b), e0.bs, e0.bsz, fun b _ _ => noA b, fun b z => absurd z (noA b), e0.funs, e0.frf⟩,
    rfl, e0.bare, Un.kept hk, ⟨_, x.toInCall.ns, fun i y v h1 h2 h3 => ?_⟩, fun y c h => ⟨_, x.cell y c h⟩, e0.hok.fresh (Nat.le_refl _), fun y c h => ?_, fun p hp => absurd (show p ∈ ([] : List (Addr × Obj)) from hp) (by simp), e0.hok.kept hk, ?_⟩
  · exact name_of_addr x.apart (PySem.mem_of_lookup h1) (PySem.mem_of_lookup h2)
  · have hy : scope.names.lookup y = some .cell ∨ scope.names.lookup y = some .free := hy
    rcases hy with hy | hy
    · exact cell_has hy
    · exact absurd rfl (S.nofree _ (PySem.mem_of_lookup hy))
  · exact Nat.le_of_lt (x.above y c (PySem.mem_of_lookup h))
  · have hi : i < vs.length := by
      unfold start at h2
      by_cases hi : i < vs.length
      · exact hi
      · rw [List.getElem?_append_right (by simpa using hi)] at h2
        rw [List.getElem?_replicate] at h2
        split at h2 <;> cases h2
    have ha : vs[i]? = some v := by
      unfold start at h2
      rw [List.getElem?_append_left (by simpa using hi), List.getElem?_map] at h2
      cases e : vs[i]? with
      | none => rw [e] at h2; cases h2
      | some a => rw [e] at h2; cases h2; rfl
    obtain ⟨u, hu, rv⟩ := r.get ha
    have hp : ps[i]? = some y := by
      rw [← S.pre, List.getElem?_take_of_lt (by omega)]; exact h1
    have ndP : ps.Nodup := by rw [← S.pre]; exact S.nd.sublist (List.take_sublist _ _)
    refine ⟨u, rv, ?_⟩
    rcases S.par y (List.mem_of_getElem? hp) with k | k
    · exact .inl ⟨k, bindL_get ndP hp hu k⟩
    · obtain ⟨c, e⟩ := cell_has (n := s.heap.objs.size + 1) k
      refine .inr ⟨.inl k, c, e, ?_⟩
      have q := x.cell y c e
      rw [bindC_get ndP hp hu (by show scope.names.lookup y ≠ _; rw [k]; decide)] at q
      exact q
  · exact e0.hok.fresh (Nat.le_of_lt (x.above y c (PySem.mem_of_lookup h)))
  · unfold start
    show _ = N.length
    rw [List.length_append, List.length_map, List.length_replicate]
    omega

theorem fn_of {CX : CXT} {P : Program} {w : World} {K : PySem.W.Frag} {mg : Str → Option Value} {base : Heap} {k : Nat} {f : Addr} {name qual : Str} {params : Arguments} {body : List Stmt} {scope : Scope} {dV kV doc pm cdv ct oc : Value} {an od : Option Addr}
    {osl : Array (Option Value)} {N ps : List Str} {sp : Sp} (lk : K.lookup f = some ⟨oc, od, .func (PySem.W.fnOf name qual params body scope dV kV doc pm an cdv ct), osl⟩) (hcd : PySem.W.codeIn K cdv qual = true) (S : FnScope N ps scope)
    (len : ∀ vs H Q E, sp vs H Q E → vs.length = ps.length)
    (hbody : ∀ (A : Around) (outer : List Env) (s : Shared) (H : Hp) (vs : List V) (Q : VK) (E : XK), Room k (A.deeper (envOfC qual scope s.heap.objs.size f cdv)) → sp vs H Q E →
      ∃ t, PSs (cxOf CX P w K mg base N qual scope f cdv A outer s H E) body t ∧ t { nx := fun _ H' => Q .non H', rt := Q } (start N vs) H) :
    FnOk P w K mg base CX (k + 1) f (PySem.W.fnOf name qual params body scope dV kV doc pm an cdv ct) ps sp := by
  refine ⟨len, fun A outer s H args us vs Q E hr e0 hb r hsp => ?_⟩
  have hl := len _ _ _ _ hsp
  have KX : K.In s.heap := e0.mod.kin.keeps fun b o e => (e0.bs b o e).1
  have lim : s.heap.NoLimit := e0.mod.nolimit.keeps fun b o e => (e0.bs b o e).1
  have hkind : ∀ y ∈ ps.zip us, scope.names.lookup y.1 = some .local ∨ (scope.names.lookup y.1 = some .cell ∧ ((cellsFrom (s.heap.objs.size + 1) scope.names []).lookup y.1).isSome = true) := fun ⟨n, v⟩ hy => by
    rcases S.par n (List.of_mem_zip hy).1 with q | q
    · exact .inl q
    · exact .inr ⟨q, PySem.W.cellsFrom_some _ _ _ (.inl q)⟩
  refine codeAny_call_function hr.depth (KX _ _ lk) rfl S.co S.gen rfl (PySem.W.codeRec_of KX hcd) (hb _ _ _ _ ?_)
  refine wpAny_newFunctionEnv_cells S.kind hkind fun env he s1 x => ?_
  subst he
  refine ⟨lim.keeps x.toInCall.keep, codeAny_func ?_⟩
  obtain ⟨t, ht, hq⟩ := hbody A outer s H vs Q E (hr.deeper _) hsp
  have I : Inv (cxOf CX P w K mg base N qual scope f cdv A outer s H E) [] (start N vs) H s1 := inv_start S hr.hd e0 hl r x
  refine wpAny_mono (ht [] s1 (start N vs) H _ I hq) (fun fl s' hs => ?_) fun e s' hs => hs
  have fin : ∀ {σ' : St} {H' : Hp} {v : V} {u : Value}, Inv (cxOf CX P w K mg base N qual scope f cdv A outer s H E) [] σ' H' s' → RelV v u → Q v H' → CE outer P w H s Q u s' :=
    fun {σ' H' v u} J rv q => ⟨v, H', J.os, J.bare, J.base, J.hok, rv, q⟩
  cases fl with
  | ret u =>
    obtain ⟨v, σ', H', J, rv, q⟩ := hs
    exact fin J rv q
  | next =>
    obtain ⟨σ', H', J, q⟩ := hs
    exact fin (v := V.non) (u := Value.none) J rfl q
  | brk =>
    obtain ⟨_, _, _, q⟩ := hs
    exact False.elim q
  | cont =>
    obtain ⟨_, _, _, q⟩ := hs
    exact False.elim q
end L2

namespace L2
open PySem PySem.Spec PyProof.Rows
section
variable {X : Cx} {x : Str} {p pos : Pos} {e : Expr} {es : List Expr} {t : TA} {id T : String} {r : List V → Hp → VK → Prop}

noncomputable def tCB (r : List V → Hp → VK → Prop) (t : TA) : TE := fun σ H Q => t σ H fun vs H1 => r vs H1 Q
theorem pe_callB (hc : CallR X (.builtin id) r) (hg : Gl X x) (hm : X.mg x = none) (hv : bootBuiltins x = some (.builtin id)) (ha : PA X (e :: es) t) (hn : x ≠ "__name__" := by decide) (hdb : (x == ("__debug__" : Str)) = false := by decide)
    (he : starEach (e :: es) X.env = (false, eval e X.env) :: starEach es X.env := by rfl) (hpl : (backTo pos (starEach es X.env)).any (·.1) = false := by rfl) : PE X (.Call (.Name x p) (e :: es) [] pos) (tCB r t) := by
  intro pins s σ H Q I h
  refine wpAny_Call_Name_kw (ld_blt I hg hm hv ?_ hn hdb)
  exact PyProof.Rows.callWith_builtin1 (thn (ha pos pins s σ H _ I h) fun us s1 ⟨vs, H1, I1, r1, q1⟩ => hc pins s1 σ H1 vs us Q I1 r1 q1) he hpl
theorem pe_callTy (hc : CallR X (.type T) r) (hg : Gl X x) (hm : X.mg x = none) (hv : bootBuiltins x = some (.type T)) (ha : PA X (e :: es) t) (hn : x ≠ "__name__" := by decide) (hdb : (x == ("__debug__" : Str)) = false := by decide)
    (he : starEach (e :: es) X.env = (false, eval e X.env) :: starEach es X.env := by rfl) (hpl : (backTo pos (starEach es X.env)).any (·.1) = false := by rfl) : PE X (.Call (.Name x p) (e :: es) [] pos) (tCB r t) := by
  intro pins s σ H Q I h
  refine wpAny_Call_Name_kw (ld_blt I hg hm hv ?_ hn hdb)
  exact PyProof.Rows.callWith_type1 (thn (ha pos pins s σ H _ I h) fun us s1 ⟨vs, H1, I1, r1, q1⟩ => hc pins s1 σ H1 vs us Q I1 r1 q1) he hpl
end
end L2

namespace HT
open PySem PyProof.Rows

section
open PySem.SeqAt
open PySem.AutoSeq1 (wpAny_loadPart')
open PySem.MeetsSeq PySem.MeetsSeq2 PySem.MeetsSeq3

end

section
variable {prog : Program} {w : World} {A : Around} {E : Value → Shared → Prop} {s : Shared}

theorem cat_tup {t b : Addr} {vs ws : List Value} {Q : Value → Shared → Prop} (ht : IsTup s.heap t vs.toArray) (hb : IsTup s.heap b ws.toArray) (hv : vs ≠ [])
    (h1 : ws = [] → Q (.ref t) s) (h2 : ws ≠ [] → Q (.ref s.heap.objs.size) { s with heap := s.heap.push { cls := .type "tuple", data := .seq (vs ++ ws).toArray } })
    (hsz : vs.length + ws.length ≤ sizeLine) : wpAny (model prog w) A (binaryOp .Add (.ref t) (.ref b)) Q E s := by
  obtain ⟨⟨cls, dd, data, sl⟩, ho, hc, n, hd⟩ := id ht
  obtain ⟨⟨cls2, dd2, data2, sl2⟩, ho2, hc2, n2, hd2⟩ := id hb
  simp only at hc hd hc2 hd2
  subst hc hd hc2 hd2
  have e : vs.toArray ++ ws.toArray = (vs ++ ws).toArray := by simp
  by_cases hw : ws = []
  · exact concat_meets ⟨_, ho, rfl⟩ ⟨_, ho2, rfl⟩ noFill_tuple_add seq_tuple_add PySem.F.slot_tuple_add PySem.F.entry_tuple_add (PySem.F.args_tuple_add_2 _ _)
      (tuple_addW1 t b vs.toArray ws.toArray n n2 dd dd2 sl sl2 (by simpa using hv) (by simp [hw])) ⟨ho, ho2, h1 hw⟩
  · refine concat_meets ⟨_, ho, rfl⟩ ⟨_, ho2, rfl⟩ noFill_tuple_add seq_tuple_add PySem.F.slot_tuple_add PySem.F.entry_tuple_add (PySem.F.args_tuple_add_2 _ _)
      (tuple_addW2 t b vs.toArray ws.toArray n n2 dd dd2 sl sl2 (by simpa using hv) (by simpa using hw) (by rw [List.size_toArray, List.size_toArray]; exact hsz)) ⟨ho, ho2, ?_⟩
    rw [e]
    exact h2 hw

noncomputable def sIx (n d : Nat) : Option Int → Nat
  | none => d
  | some v => if v < 0 then (v + (n : Int)).toNat else min v.toNat n
theorem sIx_none (n d : Nat) : sIx n d none = d := rfl
theorem sIx_nat (n d k : Nat) : sIx n d (some (k : Int)) = min k n := by
  show (if (k : Int) < 0 then ((k : Int) + (n : Int)).toNat else min (k : Int).toNat n) = min k n
  rw [if_neg (by omega), Int.toNat_natCast]
theorem sIx_le (n d : Nat) (hd : d ≤ n) (o : Option Int) : sIx n d o ≤ n := by
  cases o with
  | none => exact hd
  | some v =>
    show (if v < 0 then (v + (n : Int)).toNat else min v.toNat n) ≤ n
    by_cases hv : v < 0
    · rw [if_pos hv]; omega
    · rw [if_neg hv]; exact Nat.min_le_right _ _
end
end HT

namespace L2
open PySem PySem.Spec PyProof.Rows

noncomputable abbrev TO := St → Hp → (Option Int → Hp → Prop) → Prop
noncomputable def PO (X : Cx) (e : Option Expr) (t : TO) : Prop :=
  ∀ (pins : List (Addr × Obj)) (s : Shared) (σ : St) (H : Hp) (Q : Option Int → Hp → Prop), Inv X pins σ H s → t σ H Q →
    wpAny (model X.prog X.w) X.A (evalPart e X.env) (fun u s' => ∃ o H', Inv X pins σ H' s' ∧ IsPart u o ∧ Q o H') X.xe s
noncomputable def tNoPart : TO := fun _ H Q => Q none H
noncomputable def tPart (t : TE) : TO := fun σ H Q => t σ H fun x H1 => ∃ i, x = .int i ∧ Q (some i) H1

theorem intsAre_of {ns : List Int} : ∀ {us : List Value}, Vals (ns.map V.int) us → IntsAre us ns := by
  induction ns with
  | nil => intro us r; rw [List.map_nil] at r; cases r; exact .nil
  | cons n ns ih =>
    intro us r
    rw [List.map_cons] at r
    cases r with
    | cons r1 r2 =>
      obtain ⟨t, e⟩ := r1
      subst e
      exact .cons n t (ih r2)

section
variable {X : Cx} {e : Expr} {te : TE} {lo hi : Option Expr} {tl th : TO} {pos p2 : Pos}

theorem po_none : PO X none tNoPart := by
  intro pins s σ H Q I h
  rw [evalPart_none]
  exact wpAny_pure ⟨none, H, I, .none, h⟩
theorem po_some (h : PE X e te) : PO X (some e) (tPart te) := by
  intro pins s σ H Q I hw
  rw [evalPart_some]
  refine thn (h pins s σ H _ I hw) fun u s1 ⟨x, H1, I1, r1, q1⟩ => ?_
  obtain ⟨i, rfl, q⟩ := q1
  obtain ⟨t, rfl⟩ := r1
  exact ⟨some i, H1, I1, .int i t, q⟩

noncomputable def SlR (X : Cx) (r : V → Option Int → Option Int → Hp → VK → Prop) : Prop :=
  ∀ (pins : List (Addr × Obj)) (s : Shared) (σ : St) (H : Hp) (x : V) (v vl vu : Value) (lo hi : Option Int) (sl : Addr) (Q : VK), Inv X pins σ H s → RelV x v → s.heap.IsSliceOf sl vl vu .none → IsPart vl lo → IsPart vu hi → r x lo hi H Q →
    ∃ T id, typeLookup (.type T) "__getitem__" = pure (some (.builtin id)) ∧ s.TypeIs v T ∧ wpAny (model X.prog X.w) X.A (getItem v (.ref sl)) (EP X pins σ Q) X.xe s
noncomputable def tSl (r : V → Option Int → Option Int → Hp → VK → Prop) (te : TE) (tl th : TO) : TE := fun σ H Q => te σ H fun x H1 => tl σ H1 fun l H2 => th σ H2 fun u H3 => r x l u H3 Q
theorem pe_slice {r : V → Option Int → Option Int → Hp → VK → Prop} (hr : SlR X r) (he : PE X e te) (hl : PO X lo tl) (hu : PO X hi th) : PE X (.Subscript e (.Slice lo hi none p2) pos) (tSl r te tl th) := by
  intro pins s σ H Q I h
  refine Subscript_ (thn (he pins s σ H _ I h) fun v s1 ⟨x, H1, I1, r1, q1⟩ => ?_)
  refine wpAny_Slice (thn (hl pins s1 σ H1 _ I1 q1) fun vl s2 ⟨l, H2, I2, pl, q2⟩ => thn (hu pins s2 σ H2 _ I2 q2) fun vu s3 ⟨u, H3, I3, pu, q3⟩ => ?_)
  rw [evalPart_none]
  refine wpAny_pure ?_
  have I4 : Inv X pins σ H3 { s3 with heap := s3.heap.push { cls := .type "slice", data := .fields #[vl, vu, .none] } } := I3.kept (t' := s3.toks) fun b ob q => Heap.get?_push_of_some _ q
  obtain ⟨T, id, hT, ht, hg⟩ := hr pins { s3 with heap := s3.heap.push { cls := .type "slice", data := .fields #[vl, vu, .none] } } σ H3 x v vl vu l u s3.heap.objs.size Q I4 r1 (Heap.IsSliceOf.new ..) pl pu q3
  show wpAny (model X.prog X.w) X.A (subscriptTail e (.Slice lo hi none p2) v (.ref s3.heap.objs.size)) (EP X pins σ Q) X.xe { s3 with heap := s3.heap.push { cls := .type "slice", data := .fields #[vl, vu, .none] } }
  exact tail_any (ops := [.ref s3.heap.objs.size, v]) ht hT hg (by with_unfolding_all rfl)

noncomputable def cutV (xs : List V) (lo hi : Option Int) : List V := (xs.drop (HT.sIx xs.length 0 lo)).take (HT.sIx xs.length xs.length hi - HT.sIx xs.length 0 lo)
theorem cutV_length (xs : List V) (lo hi : Option Int) : (cutV xs lo hi).length ≤ xs.length := by
  unfold cutV
  rw [List.length_take, List.length_drop]
  omega
noncomputable def rCatT (K : PySem.W.Frag) : R2 := fun x y H Q => ∃ a b xs ys, x = .ref a ∧ y = .ref b ∧ SqT K H a xs ∧ SqT K H b ys ∧ xs ≠ [] ∧ xs.length + ys.length ≤ sizeLine ∧
  (ys = [] → Q (.ref a) H) ∧ (ys ≠ [] → ∀ p, H p = none → Q (.ref p) (upd H p (.tup (xs ++ ys))))
theorem Vals.nil_iff {xs : List V} {us : List Value} (r : Vals xs us) : us = [] ↔ xs = [] := by
  cases r with
  | nil => simp
  | cons _ _ => simp
theorem op_catT : OpR X (binaryOp .Add) (rCatT X.K) := by
  intro pins s σ H x y v u Q I rx ry h
  obtain ⟨a, b, xs, ys, rfl, rfl, ha, hb, hx, hz, q1, q2⟩ := h
  cases rx
  cases ry
  obtain ⟨its, r1, p1, _⟩ := I.tuple ha
  obtain ⟨its2, r2, p2, _⟩ := I.tuple hb
  refine HT.cat_tup p1 p2 (fun z => hx (r1.nil_iff.mp z)) (fun z => ⟨.ref a, H, I, rfl, q1 (r2.nil_iff.mp z)⟩) (fun z => ?_) (by rw [← r1.length, ← r2.length]; exact hz)
  refine ⟨.ref s.heap.objs.size, _, I.laid (t' := s.toks) (o := .tup (xs ++ ys)) (fun b ob q => Heap.get?_push_of_some _ q) (Nat.le_refl _) ?_, rfl, q2 (fun w => z (r2.nil_iff.mpr w)) _ (I.hok.fresh (Nat.le_refl _))⟩
  exact ⟨by rw [List.length_append]; exact hz, _, r1.append r2, IsTup.new _ _⟩
end
end L2

namespace L2
open PySem PySem.Spec PyProof.Rows

noncomputable def ixN (n : Nat) (i : Int) : Option Nat := if 0 ≤ i then (if i < n then some i.toNat else none) else if -(n : Int) ≤ i then some (i + n).toNat else none
noncomputable def atI {α : Type} (xs : List α) (i : Int) : Option α := (ixN xs.length i).bind fun j => xs[j]?
theorem ixN_seq {n : Nat} {i : Int} {j : Nat} (h : ixN n i = some j) : seqIndex? i n = some j ∧ j < n ∧ -(n : Int) ≤ i ∧ i < n := by
  unfold ixN at h
  by_cases h0 : 0 ≤ i
  · rw [if_pos h0] at h
    by_cases h1 : i < n
    · rw [if_pos h1] at h
      have e : i.toNat = j := Option.some.inj h
      exact ⟨by rw [seqIndex_of h0 h1, e], by omega, by omega, h1⟩
    · rw [if_neg h1] at h; cases h
  · rw [if_neg h0] at h
    by_cases h1 : -(n : Int) ≤ i
    · rw [if_pos h1] at h
      have e : (i + n).toNat = j := Option.some.inj h
      exact ⟨by rw [seqIndex_neg (by omega) h1, e], by omega, h1, by omega⟩
    · rw [if_neg h1] at h; cases h
theorem atI_get {α : Type} {xs : List α} {i : Int} {v : α} (h : atI xs i = some v) : ∃ j, seqIndex? i xs.length = some j ∧ xs[j]? = some v ∧ j < xs.length ∧ -(xs.length : Int) ≤ i ∧ i < xs.length := by
  unfold atI at h
  cases e : ixN xs.length i with
  | none => rw [e] at h; cases h
  | some j =>
    rw [e] at h
    obtain ⟨h1, h2, h3, h4⟩ := ixN_seq e
    exact ⟨j, h1, h, h2, h3, h4⟩
theorem atI_nat {α : Type} {xs : List α} {j : Nat} {v : α} (h : xs[j]? = some v) : atI xs (j : Int) = some v := by
  have hj : j < xs.length := (List.getElem?_eq_some_iff.mp h).1
  have e : ixN xs.length (j : Int) = some j := by
    unfold ixN
    rw [if_pos (by omega), if_pos (by omega)]; simp
  unfold atI; rw [e]; exact h
noncomputable def PlainIx (b : Expr) : Prop := ∀ o i, subscripted b false o i = operate [o, i] (getItem o i)
noncomputable def IxR (X : Cx) (r : R2) : Prop :=
  ∀ (value slice : Expr) (pins : List (Addr × Obj)) (s : Shared) (σ : St) (H : Hp) (x y : V) (v u : Value) (Q : VK), Inv X pins σ H s → RelV x v → RelV y u → r x y H Q →
    subscripted slice false v u = operate [v, u] (getItem v u) → wpAny (model X.prog X.w) X.A (subscriptTail value slice v u) (EP X pins σ Q) X.xe s
noncomputable def MtR (X : Cx) (id : String) (r : V → List V → Hp → VK → Prop) : Prop :=
  ∀ (pins : List (Addr × Obj)) (s : Shared) (σ : St) (H : Hp) (x : V) (xs : List V) (v : Value) (us : List Value) (Q : VK), Inv X pins σ H s → RelV x v → Vals xs us → r x xs H Q →
    wpAny (model X.prog X.w) X.A (call (.builtin id) (v :: us)) (EP X pins σ Q) X.xe s
section
variable {X : Cx} {a b : Expr} {ta tb : TE} {pos : Pos}
theorem pe_ix {r : R2} (hr : IxR X r) (ha : PE X a ta) (hb : PE X b tb) (hs : PlainIx b) : PE X (.Subscript a b pos) (tOp r ta tb) := by
  intro pins s σ H Q I h
  exact Subscript_ (binT ha hb I h fun v u s2 x y H2 I2 rx ry q => hr a b pins s2 σ H2 x y v u Q I2 rx ry q (hs _ _))

noncomputable def rIxL (K : PySem.W.Frag) : R2 := fun x y H Q => ∃ p xs i v, x = .ref p ∧ y = .int i ∧ SqL K H p xs ∧ atI xs i = some v ∧ Q v H
noncomputable def rIxT (K : PySem.W.Frag) : R2 := fun x y H Q => ∃ p xs i v, x = .ref p ∧ y = .int i ∧ SqT K H p xs ∧ atI xs i = some v ∧ Q v H
noncomputable def rIxS : R2 := fun x y H Q => ∃ z i c, x = .str z ∧ y = .int i ∧ z.length ≤ sizeLine ∧ atI z.cps.toList i = some c ∧ Q (.str ⟨#[c]⟩) H
theorem ix_list : IxR X (rIxL X.K) := by
  intro value slice pins s σ H x y v u Q I rx ry h hs
  obtain ⟨p, xs, i, z, rfl, rfl, hq, he, q⟩ := h
  cases rx
  obtain ⟨t, rfl⟩ := ry
  obtain ⟨its, r, pl, hz⟩ := I.list hq
  obtain ⟨j, h1, h2, h3, h4, h5⟩ := atI_get he
  obtain ⟨w, ew, rw'⟩ := r.get h2
  have hl := r.length
  have hn := line63
  have fin : EP X pins σ Q w s := ⟨z, H, I, rw', q⟩
  by_cases h0 : 0 ≤ i
  · have hj : i.toNat = j := by
      rw [seqIndex_of h0 h5] at h1
      exact Option.some.inj h1
    exact item_listR pl.isList h0 (by omega) (by rw [hj]; simpa using ew) fin hs
  · have hj : (i + (its.toArray.size : Int)).toNat = j := by
      rw [seqIndex_neg (by omega) h4] at h1
      rw [List.size_toArray, ← hl]
      exact Option.some.inj h1
    exact subscriptTail_builtinR (x := w) pl.isList.typeIs slot_list_getitem.lookup
      (wpAny_getItem_list_neg (Q := fun r s' => r = w ∧ EP X pins σ Q r s') pl.isList (by omega) (by rw [List.size_toArray] <;> omega) (by omega) (by rw [hj]; simpa using ew) ⟨rfl, fin⟩) hs
theorem ix_tup : IxR X (rIxT X.K) := by
  intro value slice pins s σ H x y v u Q I rx ry h hs
  obtain ⟨p, xs, i, z, rfl, rfl, hq, he, q⟩ := h
  cases rx
  obtain ⟨t, rfl⟩ := ry
  obtain ⟨its, r, pl, hz⟩ := I.tuple hq
  obtain ⟨j, h1, h2, h3, h4, h5⟩ := atI_get he
  obtain ⟨w, ew, rw'⟩ := r.get h2
  have hl := r.length
  have hn := line63
  have fin : EP X pins σ Q w s := ⟨z, H, I, rw', q⟩
  exact subscriptTail_builtinR (x := w) pl.typeIs slot_tuple_getitem.lookup
    (getItem_tuple (j := j) (Q := fun r s' => r = w ∧ EP X pins σ Q r s') pl (by omega) (by omega) (by rw [List.size_toArray, ← hl]; exact h1) (by simpa using ew) ⟨rfl, fin⟩) hs
theorem ix_str : IxR X rIxS := by
  intro value slice pins s σ H x y v u Q I rx ry h hs
  obtain ⟨z, i, c, rfl, rfl, hz, he, q⟩ := h
  obtain ⟨t, rfl⟩ := rx
  obtain ⟨t', rfl⟩ := ry
  obtain ⟨j, h1, h2, h3, h4, h5⟩ := atI_get he
  have hl : z.cps.toList.length = z.length := by simp [Str.length]
  rw [hl] at h1 h4 h5
  have hn := line63
  exact tail_any (typeIs_str s z t) slot_str_getitem.lookup (getItem_str (c := c) (by
    have e1 : decide (i < -(2 ^ 63 : Int)) = false := decide_eq_false (by omega)
    have e2 : decide (i ≥ 2 ^ 63) = false := decide_eq_false (by omega)
    rw [e1, e2, Bool.or_false]) (by rw [h1]; simpa using h2) ⟨.str ⟨#[c]⟩, H, I.tok _, ⟨_, rfl⟩, q⟩) hs
theorem mapSeq_set (its : List Value) (n j : Nat) (u : Value) : Obj.mapSeq (·.setIfInBounds j u) { cls := .type "list", data := .seq its.toArray n } = { cls := .type "list", data := .seq (its.set j u).toArray n } := by
  simp [Obj.mapSeq]
theorem Inv.lst {pins : List (Addr × Obj)} {σ : St} {H : Hp} {s : Shared} {p : Addr} {xs : List V} (I : Inv X pins σ H s) (h : H p = some (.lst xs)) :
    ∃ (its : List Value) (n : Nat), Vals xs its ∧ s.heap.get? p = some { cls := .type "list", data := .seq its.toArray n } ∧ xs.length ≤ sizeLine := by
  obtain ⟨z, its, n, r, e⟩ := I.hok p _ h
  exact ⟨its, n, r, e, z⟩
theorem Inv.lstUpd {pins : List (Addr × Obj)} {σ : St} {H : Hp} {s : Shared} {p : Addr} {xs ys : List V} {its its' : List Value} {n n' : Nat} {f : Obj → Obj} (I : Inv X pins σ H s) (h : H p = some (.lst xs))
    (ho : s.heap.get? p = some { cls := .type "list", data := .seq its.toArray n }) (hf : f { cls := .type "list", data := .seq its.toArray n } = { cls := .type "list", data := .seq its'.toArray n' }) (r : Vals ys its') (hz : ys.length ≤ sizeLine) (t : Nat) :
    Inv X pins σ (upd H p (.lst ys)) { s with heap := s.heap.update p f, toks := t } := by
  have e : (s.heap.update p f).get? p = some { cls := .type "list", data := .seq its'.toArray n' } := by
    rw [Heap.get?_update_self f ho (by rw [hf] <;> rfl), hf]
  refine I.write (x := p) (e := p) (by rw [h]; trivial) (.inl rfl) (fun b u hb q => (Heap.get?_update_other _ _ (Ne.symm hb)).trans q) ⟨_, e⟩ ?_
  exact ⟨hz, its', n', r, e⟩
noncomputable def rSetL : V → V → V → Hp → (Hp → Prop) → Prop := fun o i v H Q => ∃ p xs k j, o = .ref p ∧ i = .int k ∧ H p = some (.lst xs) ∧ ixN xs.length k = some j ∧ Q (upd H p (.lst (xs.set j v)))
theorem set_list : PSet X rSetL := by
  intro pins s σ H o i v ov iv u Q I ro ri rv h
  obtain ⟨p, xs, k, j, rfl, rfl, hp, hj, q⟩ := h
  cases ro
  obtain ⟨t, rfl⟩ := ri
  obtain ⟨its, n, r, ho, hz⟩ := I.lst hp
  obtain ⟨h1, h2, h3, h4⟩ := ixN_seq hj
  have hl := r.length
  have hn := line63
  have I' : Inv X pins σ (upd H p (.lst (xs.set j v))) { s with heap := s.heap.update p (Obj.mapSeq (·.setIfInBounds j u)) } :=
    I.lstUpd hp ho (mapSeq_set its n j u) (r.set rv j) (by rw [List.length_set]; exact hz) s.toks
  by_cases h0 : 0 ≤ k
  · have hk : k.toNat = j := by
      rw [seqIndex_of h0 h4] at h1
      exact Option.some.inj h1
    exact PySem.W.ki_setAt ho h0 (by omega) (by rw [List.size_toArray, ← hl]; exact h4) (by rw [hk]; exact ⟨_, I', q⟩)
  · have hk : (k + (its.toArray.size : Int)).toNat = j := by
      rw [seqIndex_neg (by omega) h3] at h1
      rw [List.size_toArray, ← hl]
      exact Option.some.inj h1
    exact PySem.W.ki_setBack ho (by omega) (by rw [List.size_toArray, ← hl]; exact h3) (by omega) (by rw [hk]; exact ⟨_, I', q⟩)

theorem slice_bounds (lo hi : Option Int) (n : Nat) : (sliceBounds lo hi none n).1 = ((HT.sIx n 0 lo : Nat) : Int) ∧ (sliceBounds lo hi none n).2.1 = ((HT.sIx n n hi : Nat) : Int) ∧ (sliceBounds lo hi none n).2.2 = 1 := by
  refine ⟨?_, ?_, rfl⟩
  · cases lo with
    | none => simp [sliceBounds, HT.sIx]
    | some i =>
      simp only [sliceBounds, HT.sIx, Option.getD_none, show (1 : Int) > 0 by decide, if_true]
      by_cases h : i < 0
      · simp only [h, if_true] <;> omega
      · simp only [h, if_false] <;> omega
  · cases hi with
    | none => simp [sliceBounds, HT.sIx]
    | some i =>
      simp only [sliceBounds, HT.sIx, Option.getD_none, show (1 : Int) > 0 by decide, if_true]
      by_cases h : i < 0
      · simp only [h, if_true] <;> omega
      · simp only [h, if_false] <;> omega
theorem slicePick_cut (its : List Value) (lo hi : Option Int) : slicePick its.toArray lo hi none = ((its.drop (HT.sIx its.length 0 lo)).take (HT.sIx its.length its.length hi - HT.sIx its.length 0 lo)).toArray := by
  obtain ⟨h1, h2, h3⟩ := slice_bounds lo hi its.toArray.size
  unfold slicePick
  rw [h1, h2, h3]
  simp only [sliceRange_one, pick_run, List.size_toArray] <;> rfl
noncomputable def rSlL (K : PySem.W.Frag) : V → Option Int → Option Int → Hp → VK → Prop := fun x lo hi H Q => ∃ a xs, x = .ref a ∧ SqL K H a xs ∧ ∀ p, H p = none → Q (.ref p) (upd H p (.lst (cutV xs lo hi)))
theorem sl_list : SlR X (rSlL X.K) := by
  intro pins s σ H x v vl vu lo hi sl Q I rx hs pl pu h
  obtain ⟨a, xs, rfl, hx, q⟩ := h
  cases rx
  obtain ⟨its, r, ht, hz⟩ := I.list hx
  have hlen := r.length
  refine ⟨"list", _, slot_list_getitem.lookup, ht.isList.typeIs, ?_⟩
  refine wpAny_getItem_list_slice ht.isList hs pl pu .none (by simp) ?_ (by rw [List.size_toArray] <;> omega)
  rw [slicePick_cut, ← hlen]
  refine ⟨.ref s.heap.objs.size, _, I.laid (t' := s.toks) (o := .lst (cutV xs lo hi)) (fun b ob q => Heap.get?_push_of_some _ q) (Nat.le_refl _) ?_, rfl, q _ (I.hok.fresh (Nat.le_refl _))⟩
  exact ⟨Nat.le_trans (cutV_length xs lo hi) hz, _, 0, (r.drop (HT.sIx xs.length 0 lo)).take (HT.sIx xs.length xs.length hi - HT.sIx xs.length 0 lo), Heap.get?_push_size _ rfl⟩

noncomputable def flatV : V → Bool
  | .non => true
  | .bl _ => true
  | .int _ => true
  | .str _ => true
  | _ => false
noncomputable def eqV : V → V → Bool
  | .non, .non => true
  | .bl a, .bl b => a == b
  | .bl a, .int b => (if a then 1 else 0) == b
  | .int a, .bl b => a == (if b then 1 else 0)
  | .int a, .int b => a == b
  | .str a, .str b => a == b
  | _, _ => false
theorem eqAt_V {A : Around} {s : Shared} {y x : V} {u v : Value} (ry : RelV y u) (rx : RelV x v) (fy : flatV y = true) (fx : flatV x = true) : SeqAt.EqAt A s u v (eqV y x) := by
  cases y with
  | non =>
    cases ry
    cases x with
    | non => cases rx; exact SeqAt.EqAt.same _
    | bl b => cases rx; exact SeqAt.EqAt.none_bool b
    | int b => obtain ⟨t, rfl⟩ := rx; exact SeqAt.EqAt.none_int b t
    | str b => obtain ⟨t, rfl⟩ := rx; exact SeqAt.EqAt.none_str b t
    | _ => exact absurd (show false = true from fx) Bool.false_ne_true
  | bl a =>
    cases ry
    cases x with
    | non => cases rx; exact SeqAt.EqAt.bool_none a
    | bl b => cases rx; exact SeqAt.EqAt.bool_bool a b
    | int b => obtain ⟨t, rfl⟩ := rx; exact SeqAt.EqAt.bool_int a b t
    | str b => obtain ⟨t, rfl⟩ := rx; exact SeqAt.EqAt.bool_str a b t
    | _ => exact absurd (show false = true from fx) Bool.false_ne_true
  | int a =>
    obtain ⟨t', rfl⟩ := ry
    cases x with
    | non => cases rx; exact SeqAt.EqAt.int_none a t'
    | bl b => cases rx; exact SeqAt.EqAt.int_bool a t' b
    | int b => obtain ⟨t, rfl⟩ := rx; exact SeqAt.EqAt.int_int a t' b t
    | str b => obtain ⟨t, rfl⟩ := rx; exact SeqAt.EqAt.int_str a t' b t
    | _ => exact absurd (show false = true from fx) Bool.false_ne_true
  | str a =>
    obtain ⟨t', rfl⟩ := ry
    cases x with
    | non => cases rx; exact SeqAt.EqAt.str_none a t'
    | bl b => cases rx; exact SeqAt.EqAt.str_bool a t' b
    | int b => obtain ⟨t, rfl⟩ := rx; exact SeqAt.EqAt.str_int a t' b t
    | str b => obtain ⟨t, rfl⟩ := rx; exact SeqAt.EqAt.str_str a t' b t
    | _ => exact absurd (show false = true from fx) Bool.false_ne_true
  | _ => exact absurd (show false = true from fy) Bool.false_ne_true
noncomputable def eqU (x : V) (u : Value) : Bool := match u with
  | .none => eqV .non x
  | .bool b => eqV (.bl b) x
  | .int i _ => eqV (.int i) x
  | .str z _ => eqV (.str z) x
  | _ => false
theorem eqU_of {x y : V} {u : Value} (r : RelV y u) (f : flatV y = true) : eqU x u = eqV y x := by
  cases y with
  | non => cases r; rfl
  | bl b => cases r; rfl
  | int i => obtain ⟨t, rfl⟩ := r; rfl
  | str z => obtain ⟨t, rfl⟩ := r; rfl
  | _ => exact absurd (show false = true from f) Bool.false_ne_true
theorem any_eqU {x : V} : ∀ {xs : List V} {us : List Value}, Vals xs us → xs.all flatV = true → us.any (eqU x) = xs.any fun y => eqV y x
  | _, _, .nil, _ => rfl
  | y :: xs, u :: us, .cons r t, f => by
    rw [List.all_cons, Bool.and_eq_true] at f
    rw [List.any_cons, List.any_cons, eqU_of r f.1, any_eqU t f.2]
theorem mem_eqAt {A : Around} {s : Shared} {x : V} {v : Value} (rx : RelV x v) (fx : flatV x = true) : ∀ {xs : List V} {us : List Value}, Vals xs us → xs.all flatV = true → ∀ u ∈ us, SeqAt.EqAt A s u v (eqU x u)
  | _, _, .nil, _ => fun u hu => by cases hu
  | y :: xs, u :: us, .cons r t, f => fun u' hu => by
    rw [List.all_cons, Bool.and_eq_true] at f
    rcases List.mem_cons.mp hu with rfl | hu
    · rw [eqU_of r f.1]; exact eqAt_V r rx f.1 fx
    · exact mem_eqAt rx fx t f.2 u' hu
noncomputable def inV (x : V) (xs : List V) : Bool := xs.any fun y => eqV y x
noncomputable def rIn (K : PySem.W.Frag) (neg : Bool) : R2 := fun x y H Q => ∃ p xs, y = .ref p ∧ (SqL K H p xs ∨ SqT K H p xs) ∧ flatV x = true ∧ xs.all flatV = true ∧ Q (.bl (if neg then !inV x xs else inV x xs)) H
theorem op_in_seq : OpR X (compareOp .In) (rIn X.K false) := by
  intro pins s σ H x y v u Q I rx ry h
  obtain ⟨p, xs, rfl, hq, fx, fs, q⟩ := h
  cases ry
  rcases hq with hq | hq
  · obtain ⟨its, r, pl, hz⟩ := I.list hq
    refine SeqAt.in_listAt (eqU x) pl.isList (fun w hw => mem_eqAt rx fx r fs w (by simpa using hw)) ⟨.bl _, H, I, rfl, ?_⟩
    rw [show its.toArray.any (eqU x) = its.any (eqU x) by simp, any_eqU r fs]
    exact q
  · obtain ⟨its, r, pl, hz⟩ := I.tuple hq
    refine SeqAt.in_tupleAt (eqU x) pl (fun w hw => mem_eqAt rx fx r fs w (by simpa using hw)) ⟨.bl _, H, I, rfl, ?_⟩
    rw [show its.toArray.any (eqU x) = its.any (eqU x) by simp, any_eqU r fs]
    exact q
theorem op_notIn_seq : OpR X (compareOp .NotIn) (rIn X.K true) := by
  intro pins s σ H x y v u Q I rx ry h
  obtain ⟨p, xs, rfl, hq, fx, fs, q⟩ := h
  cases ry
  rcases hq with hq | hq
  · obtain ⟨its, r, pl, hz⟩ := I.list hq
    refine SeqAt.notIn_listAt (eqU x) pl.isList (fun w hw => mem_eqAt rx fx r fs w (by simpa using hw)) ⟨.bl _, H, I, rfl, ?_⟩
    rw [show its.toArray.any (eqU x) = its.any (eqU x) by simp, any_eqU r fs]
    exact q
  · obtain ⟨its, r, pl, hz⟩ := I.tuple hq
    refine SeqAt.notIn_tupleAt (eqU x) pl (fun w hw => mem_eqAt rx fx r fs w (by simpa using hw)) ⟨.bl _, H, I, rfl, ?_⟩
    rw [show its.toArray.any (eqU x) = its.any (eqU x) by simp, any_eqU r fs]
    exact q
theorem op_notIn_str : OpR X (compareOp .NotIn) (fun x y H Q => ∃ i j, x = .str i ∧ y = .str j ∧ Q (.bl (!(!(Builtin.Str.occurrences j i 0 j.length 1).isEmpty))) H) := by
  intro pins s σ H x y v u Q I rx ry h
  obtain ⟨i, j, rfl, rfl, q⟩ := h
  obtain ⟨t, rfl⟩ := rx
  obtain ⟨t', rfl⟩ := ry
  exact notIn_str ⟨.bl _, H, I, rfl, q⟩

theorem call_len_seq : CallR X (.builtin "len") (fun xs H Q => ∃ p ys, xs = [.ref p] ∧ (SqL X.K H p ys ∨ SqT X.K H p ys) ∧ Q (.int ys.length) H) := by
  intro pins s σ H xs us Q I r h
  obtain ⟨p, ys, rfl, hq, q⟩ := h
  obtain ⟨u, rfl, rx⟩ := vals1 r
  cases rx
  have hn := line63
  rcases hq with hq | hq
  · obtain ⟨its, r', pl, hz⟩ := I.list hq
    have hlen := r'.length
    exact Calls.call_len_list pl.isList (by simp only [List.size_toArray] <;> omega) ⟨.int ys.length, H, I.tok _, ⟨s.toks + 1, by rw [List.size_toArray, hlen]⟩, q⟩
  · obtain ⟨its, r', pl, hz⟩ := I.tuple hq
    have hlen := r'.length
    exact len_tuple pl (by simp only [List.size_toArray] <;> omega) ⟨.int ys.length, H, I.tok _, ⟨s.toks + 1, by rw [List.size_toArray, hlen]⟩, q⟩
theorem call_len_str : CallR X (.builtin "len") (fun xs H Q => ∃ z, xs = [.str z] ∧ z.length ≤ sizeLine ∧ Q (.int z.length) H) := by
  intro pins s σ H xs us Q I r h
  obtain ⟨z, rfl, hz, q⟩ := h
  obtain ⟨u, rfl, t, rfl⟩ := vals1 r
  have hn := line63
  exact len_str (by omega) ⟨.int z.length, H, I.tok _, ⟨_, rfl⟩, q⟩
theorem call_list_of : CallR X (.type "list") (fun xs H Q => ∃ p ys, xs = [.ref p] ∧ (SqL X.K H p ys ∨ SqT X.K H p ys) ∧ ∀ l, H l = none → Q (.ref l) (upd H l (.lst ys))) := by
  intro pins s σ H xs us Q I r h
  obtain ⟨p, ys, rfl, hq, q⟩ := h
  obtain ⟨u, rfl, rx⟩ := vals1 r
  cases rx
  have fin : ∀ (its : List Value), Vals ys its → ys.length ≤ sizeLine → ∀ (h' : Heap) (c' : Nat), (∀ b o', s.heap.get? b = some o' → h'.get? b = some o') →
      h'.get? s.heap.objs.size = some { cls := .type "list", dict := none, data := .seq its.toArray c', slots := #[] } → EP X pins σ Q (.ref s.heap.objs.size) { s with heap := h' } := fun its r' hz h' c' kp e =>
    ⟨.ref s.heap.objs.size, _, I.laid (t' := s.toks) kp (Nat.le_refl _) (show ObjOk X.prog X.w _ h' _ (.lst ys) from ⟨hz, its, c', r', e⟩), rfl, q _ (I.hok.fresh (Nat.le_refl _))⟩
  rcases hq with hq | hq
  · obtain ⟨its, r', pl, hz⟩ := I.list hq
    have hlen := r'.length
    obtain ⟨o, ho, hc, n, hd⟩ := pl.isList
    exact call_list_seq p (.inl rfl) ho hc hd (fun h' c' kp e => fin its r' hz h' c' kp e) (by simp only [List.size_toArray] <;> omega)
  · obtain ⟨its, r', pl, hz⟩ := I.tuple hq
    have hlen := r'.length
    obtain ⟨o, ho, hc, n, hd⟩ := pl
    exact call_list_seq p (.inr rfl) ho hc hd (fun h' c' kp e => fin its r' hz h' c' kp e) (by simp only [List.size_toArray] <;> omega)
theorem call_tuple_of : CallR X (.type "tuple") (fun xs H Q => ∃ p ys, xs = [.ref p] ∧ ((SqL X.K H p ys ∧ ∀ l, H l = none → Q (.ref l) (upd H l (.tup ys))) ∨ (SqT X.K H p ys ∧ Q (.ref p) H))) := by
  intro pins s σ H xs us Q I r h
  obtain ⟨p, ys, rfl, h⟩ := h
  obtain ⟨u, rfl, rx⟩ := vals1 r
  cases rx
  rcases h with ⟨hq, q⟩ | ⟨hq, q⟩
  · obtain ⟨its, r', pl, hz⟩ := I.list hq
    have hlen := r'.length
    refine call_tuple_list pl.isList (fun h' kp => ?_) (by simp only [List.size_toArray] <;> omega)
    have I1 : Inv X pins σ H { s with heap := h' } := I.kept (t' := s.toks) kp
    have I2 : Inv X pins σ (upd H h'.objs.size (.tup ys)) { s with heap := h'.push { cls := .type "tuple", data := .seq its.toArray } } :=
      I1.laid (t' := s.toks) (fun b o e => Heap.get?_push_of_some _ e) (Nat.le_refl _) (show ObjOk X.prog X.w _ _ _ (.tup ys) from ⟨hz, its, r', IsTup.new _ _⟩)
    exact ⟨.ref h'.objs.size, _, I2, rfl, q _ (I1.hok.fresh (Nat.le_refl _))⟩
  · obtain ⟨its, r', pl, hz⟩ := I.tuple hq
    exact call_tuple_same pl ⟨.ref p, H, I, rfl, q⟩

noncomputable def tyV (K : PySem.W.Frag) (T : String) (x : V) (H : Hp) : Prop := match x with
  | .str _ => T = "str"
  | .int _ => T = "int"
  | .ref p => (T = "list" ∧ ∃ xs, SqL K H p xs) ∨ (T = "tuple" ∧ ∃ o, K.lookup p = some o ∧ o.cls = .type "tuple" ∧ o.dict = none) ∨
      (T = "dict" ∧ ((∃ kvs, H p = some (.dK kvs)) ∨ ∃ kvs, H p = some (.dT kvs))) ∨ (T = "set" ∧ ∃ S n, H p = some (.set S n))
  | _ => False
theorem tyV_is {pins : List (Addr × Obj)} {σ : St} {H : Hp} {s : Shared} {T : String} {x : V} {v : Value} (I : Inv X pins σ H s) (r : RelV x v) (ty : tyV X.K T x H) :
    s.TypeIs v T ∧ ∀ a, v = .ref a → ∃ ob, s.heap.get? a = some ob ∧ ob.dict = none := by
  cases x with
  | str z =>
    obtain ⟨t, rfl⟩ := r
    cases (show T = "str" from ty)
    exact ⟨typeIs_str s z t, fun _ e => nomatch e⟩
  | int i =>
    obtain ⟨t, rfl⟩ := r
    cases (show T = "int" from ty)
    exact ⟨typeIs_int s i t, fun _ e => nomatch e⟩
  | ref p =>
    cases r
    rcases ty with ⟨rfl, xs, hq⟩ | ⟨rfl, o, hk, hc, hd⟩ | ⟨rfl, hk⟩ | ⟨rfl, S, n, hk⟩
    · obtain ⟨its, _, pl, _⟩ := I.list hq
      refine ⟨pl.isList.typeIs, fun a e => ?_⟩
      cases e
      obtain ⟨o, n, e, c, hd, _⟩ := pl
      exact ⟨o, e, hd⟩
    · refine ⟨⟨o, I.kIn p o hk, hc⟩, fun a e => ?_⟩
      cases e
      exact ⟨o, I.kIn _ o hk, hd⟩
    · have z : ∃ o, s.heap.get? p = some o ∧ o.ExactDict := by
        rcases hk with ⟨kvs, hk⟩ | ⟨kvs, hk⟩
        · obtain ⟨_, _, _, _, o, _, _, e, ex, _⟩ := I.hok p _ hk
          exact ⟨o, e, ex⟩
        · obtain ⟨_, _, _, _, o, _, _, e, ex, _⟩ := I.hok p _ hk
          exact ⟨o, e, ex⟩
      obtain ⟨o, e, ex⟩ := z
      refine ⟨⟨o, e, ex.1⟩, fun a e2 => ?_⟩
      cases e2
      exact ⟨o, e, ex.2.1⟩
    · obtain ⟨o, _, _, _, e, ex, _⟩ := I.hok p _ hk
      refine ⟨⟨o, e, ex.1⟩, fun a e2 => ?_⟩
      cases e2
      exact ⟨o, e, ex.2.1⟩
  | _ => exact False.elim ty
noncomputable def tBM (K : PySem.W.Frag) (T : String) (r : V → List V → Hp → VK → Prop) (to : TE) (t : TA) : TE := fun σ H Q => to σ H fun x H1 => tyV K T x H1 ∧ t σ H1 fun xs H2 => r x xs H2 Q
variable {o e : Expr} {es : List Expr} {to : TE} {t : TA} {name : Str} {apos cpos : Pos} {T id : String} {r : V → List V → Hp → VK → Prop}
theorem pe_bm (pa : PlainAttrs T) (slot : Slot T name id) (hty : typeOf (.builtin id) = pure (.type "method_descriptor")) (hm : MtR X id r) (ho : PE X o to) (ha : PA X (e :: es) t)
    (hbase : attributeBase o name X.env (eval o X.env) = eval o X.env := by rfl)
    (hfew : ((backTo cpos (starEach (e :: es) X.env)).all (fun x => !x.1) && (backToKw cpos (keywordEach [] X.env)).all (fun x => x.1.isSome)
      && decide ((e :: es).length + ([] : List Keyword).length + (if ([] : List Keyword).isEmpty then 0 else 1) < 30)) = true := by rfl)
    (hline : (apos.endLine == cpos.line) = true := by rfl) (hs : starEach (e :: es) X.env = (false, eval e X.env) :: starEach es X.env := by rfl) (hplain : (backTo cpos (starEach es X.env)).any (·.1) = false := by rfl) :
    PE X (.Call (.Attribute o name apos) (e :: es) [] cpos) (tBM X.K T r to t) := by
  intro pins s σ H Q I h
  refine wpAny_Call_method_late hbase hfew hline rfl (thn (ho pins s σ H _ I h) fun v s1 ⟨x, H1, I1, r1, ty, q1⟩ => ?_)
  obtain ⟨h1, h2⟩ := tyV_is I1 r1 ty
  refine ⟨T, id, pa, slot, hty, h1, h2, ?_⟩
  have hA := ha cpos pins s1 σ H1 _ I1 q1
  rw [hs] at hA ⊢
  refine Calls.callWith_builtin (by show (false || (backTo cpos (starEach es X.env)).any (·.1)) = false; rw [hplain] <;> rfl) (Calls.evalArgs_plain ?_)
  exact thn hA fun us s2 ⟨vs, H2, I2, r2, q2⟩ => hm pins s2 σ H2 x vs v us Q I2 r1 r2 q2
end
end L2

namespace L2
open PySem PySem.Spec PyProof.Rows

noncomputable def MtM (X : Cx) (id : String) (r : V → List V → Hp → VK → Prop) : Prop :=
  ∀ (pins : List (Addr × Obj)) (s : Shared) (σ : St) (H : Hp) (x : V) (xs : List V) (v : Value) (us : List Value) (Q : VK), Inv X pins σ H s → RelV x v → Vals xs us → r x xs H Q →
    wpAny (model X.prog X.w) X.A (call (.builtin id) (v :: us)) (EP X pins σ Q) X.xe s

theorem Vals.one : ∀ {x : V} {us : List Value}, Vals [x] us → ∃ u, us = [u] ∧ RelV x u
  | _, _, .cons r .nil => ⟨_, rfl, r⟩
theorem Vals.reverse {xs : List V} {us : List Value} (h : Vals xs us) : Vals xs.reverse us.reverse := by
  induction h with
  | nil => exact .nil
  | cons r t ih => rw [List.reverse_cons, List.reverse_cons]; exact Vals.append ih (.cons r .nil)
theorem Vals.rep {xs : List V} {us : List Value} (h : Vals xs us) : ∀ k : Nat, Vals (List.replicate k xs).flatten (List.replicate k us).flatten
  | 0 => .nil
  | k + 1 => by
    rw [List.replicate_succ, List.replicate_succ, List.flatten_cons, List.flatten_cons]
    exact Vals.append h (Vals.rep h k)
theorem foldl_rep (its : List Value) : ∀ (k : Nat) (acc : List Value),
    List.foldl (fun x1 x2 => x1 ++ x2) acc.toArray (List.replicate k its.toArray) = (acc ++ (List.replicate k its).flatten).toArray
  | 0, acc => by simp
  | k + 1, acc => by
    have e : acc.toArray ++ its.toArray = (acc ++ its).toArray := by simp
    have e2 : (acc ++ its) ++ (List.replicate k its).flatten = acc ++ (List.replicate (k + 1) its).flatten := by
      rw [List.replicate_succ, List.flatten_cons, List.append_assoc]
    rw [← e2, ← foldl_rep its k (acc ++ its), ← e, List.replicate_succ, List.foldl_cons]

section
variable {X : Cx} {pins : List (Addr × Obj)} {σ : St} {H : Hp} {s : Shared} {l b : Addr} {xs ys zs : List V}

theorem Inv.lset {its its' : List Value} {n : Nat} {f : Array Value → Array Value} {t' : Nat} (I : Inv X pins σ H s) (hH : H l = some (.lst xs))
    (e : s.heap.get? l = some { cls := .type "list", data := .seq its.toArray n }) (hf : f its.toArray = its'.toArray) (hv : Vals ys its') (hz : ys.length ≤ sizeLine) :
    Inv X pins σ (upd H l (.lst ys)) { s with heap := s.heap.update l (Obj.mapSeq f), toks := t' } := by
  have q := PySem.IsL.update e f
  rw [hf] at q
  refine I.write (x := l) (e := l) (by rw [hH]; exact trivial) (.inl rfl) (fun b' u hb hu => (Heap.get?_update_other s.heap (Obj.mapSeq f) (Ne.symm hb)).trans hu) ⟨_, q⟩ ?_
  exact ⟨hz, its', _, hv, q⟩
theorem Inv.lnew {its : List Value} {t' : Nat} (I : Inv X pins σ H s) (hv : Vals ys its) (hz : ys.length ≤ sizeLine) :
    Inv X pins σ (upd H s.heap.objs.size (.lst ys)) { s with heap := s.heap.push { cls := .type "list", data := .seq its.toArray }, toks := t' } :=
  I.laid (fun _ _ q => Heap.get?_push_of_some _ q) (Nat.le_refl _) ⟨hz, its, 0, hv, Heap.get?_push_size _ rfl⟩
theorem Inv.fresh (I : Inv X pins σ H s) : H s.heap.objs.size = none := I.hok.fresh (Nat.le_refl _)
theorem Inv.lstM (I : Inv X pins σ H s) (hH : H l = some (.lst xs)) : xs.length ≤ sizeLine ∧ ∃ (its : List Value) (n : Nat), Vals xs its ∧ xs.length = its.length ∧ s.heap.get? l = some { cls := .type "list", data := .seq its.toArray n } := by
  obtain ⟨z, its, n, r, e⟩ := I.hok l _ hH
  exact ⟨z, its, n, r, r.length, e⟩

theorem notLongL {n : Nat} (h : n ≤ sizeLine) : Builtin.List.listTooLong n = false := by
  unfold Builtin.List.listTooLong
  exact decide_eq_false (by omega)
end

section
variable {X : Cx}

noncomputable def rAppend : V → List V → Hp → VK → Prop := fun x vs H Q => ∃ l xs y, x = .ref l ∧ vs = [y] ∧ H l = some (.lst xs) ∧ xs.length < sizeLine ∧ Q .non (upd H l (.lst (xs ++ [y])))
theorem mt_append : MtM X "list.append" rAppend := by
  intro pins s σ H x vs v us Q I rx rv h
  obtain ⟨l, xs, y, rfl, rfl, hH, hz, q⟩ := h
  cases rx
  obtain ⟨u, rfl, ru⟩ := rv.one
  obtain ⟨z, its, n, r, hl, e⟩ := I.lstM hH
  refine call_meets F.slot_list_append ⟨_, e, rfl⟩ F.entry_list_append (F.args_list_append_2 _ _) (PySem.list_append l its.toArray n u (by rw [List.size_toArray]; omega)) ⟨e, ?_⟩
  refine ⟨.non, _, I.lset (its' := its ++ [u]) hH e (by simp) (r.append (.cons ru .nil)) ?_, rfl, q⟩
  rw [List.length_append, List.length_singleton]
  omega

noncomputable def rExtend : V → List V → Hp → VK → Prop := fun x vs H Q => ∃ l b xs zs, x = .ref l ∧ vs = [.ref b] ∧ H l = some (.lst xs) ∧ H b = some (.lst zs) ∧ xs.length + zs.length ≤ sizeLine ∧ Q .non (upd H l (.lst (xs ++ zs)))
theorem mt_extend : MtM X "list.extend" rExtend := by
  intro pins s σ H x vs v us Q I rx rv h
  obtain ⟨l, b, xs, zs, rfl, rfl, hH, hB, hz, q⟩ := h
  cases rx
  obtain ⟨u, rfl, ru⟩ := rv.one
  cases ru
  obtain ⟨z, its, n, r, hl, e⟩ := I.lstM hH
  obtain ⟨z2, its2, n2, r2, hl2, e2⟩ := I.lstM hB
  have hsz : its.toArray.size + its2.toArray.size ≤ sizeLine := by rw [List.size_toArray, List.size_toArray]; omega
  have hlong : ¬ (!its.toArray.isEmpty && Builtin.List.listTooLong (its.toArray.size + its2.toArray.size)) = true := by
    rw [notLongL hsz, Bool.and_false]
    exact Bool.false_ne_true
  refine call_meets F.slot_list_extend ⟨_, e, rfl⟩ F.entry_list_extend (F.args_list_extend_2 _ _)
    (AutoSeq1.list_extend_list_list_0 l its.toArray n b its2.toArray n2 hlong (by rw [List.size_toArray]; omega) (by omega)) ⟨e, e2, ?_⟩
  refine ⟨.non, _, I.lset (its' := its ++ its2) hH e (by simp) (r.append r2) ?_, rfl, q⟩
  rw [List.length_append]
  omega

theorem len_rep {α : Type} (xs : List α) (k : Nat) : (List.replicate k xs).flatten.length = k * xs.length := by
  induction k with
  | zero => simp
  | succ k ih => rw [List.replicate_succ, List.flatten_cons, List.length_append, ih, Nat.succ_mul, Nat.add_comm]
end

section
variable {prog : Program} {w : World} {A : Around} {E : Value → Shared → Prop} {s : Shared}
end

section
variable {X : Cx}
end
end L2

namespace Att
open PySem PySem.W PySem.Calls PyProof.Rows

theorem ints_of_wellAll {P : Params} {h : Heap} : ∀ (ns : List Int) (vs : List Value), WellAll P h vs (ns.map WData.int) → IntsAre vs ns := by
  intro ns
  induction ns with
  | nil =>
    intro vs w
    rw [List.map_nil] at w
    cases w
    exact .nil
  | cons n ns ih =>
    intro vs w
    rw [List.map_cons] at w
    cases w with
    | cons a b =>
      cases a
      exact .cons _ _ (ih _ b)

theorem script_of {l : OpenLaw} {n : Nat} (hn : l.most = some n) {P : Params} {h : Heap} {args : List WData} {vals : List Value}
    (hpre : l.row.toRowW.claim.pre args = true) (hwl : WellAll P h vals args) :
    ∃ a vs ns, vals = [Value.ref a] ∧ args = [WData.list (ns.map WData.int)] ∧ h.get? a = some { cls := .type "list", data := .seq vs.toArray } ∧ IntsAre vs ns ∧ ns.length ≤ n := by
  have hsh : WShape.hasAll [] args [.list .int] = true := (pre_splitW hpre).1
  have hc : l.pre.holds [] { args := args } = true := (pre_splitW hpre).2
  obtain ⟨d, r, rfl, h1, h2⟩ := hasAllW_cons hsh
  obtain rfl := hasAllW_nil h2
  obtain ⟨xs, rfl, h3⟩ := hasW_list h1
  obtain ⟨ns, rfl⟩ := items_int h3
  have hlen : ns.length ≤ n := by
    unfold OpenLaw.pre at hc
    have h4 : (WTm.not (.lt (.lit (.int (n : Int))) (.len (.arg 0)))).holds [] { args := [.list (ns.map .int)] } = true := by
      have h4 := (holds_andW hc).1
      rw [hn] at h4
      exact h4
    have h5 := condW_of h4 (w_not (w_lt w_lit (w_len_list (w_arg rfl))))
    rw [List.length_map] at h5
    refine Nat.le_of_not_lt fun q => ?_
    have q' : (n : Int) < ((ns.length : Nat) : Int) := by omega
    first
      | (rw [decide_eq_true q'] at h5; exact absurd h5 (by decide))
      | (simp at h5; omega)
  cases hwl with
  | cons w1 w2 =>
    cases w2
    cases w1 with
    | list ho hall => exact ⟨_, _, ns, rfl, rfl, ho, ints_of_wellAll ns _ hall, hlen⟩

theorem post_true (l : OpenLaw) (args : List WData) : l.row.toRowW.claim.post args (.bool true) args = true :=
  postW_of (r := l.row.toRowW) (X := (true == true))
    (show WShape.has [] (.bool true) .bool = true by first | rfl | decide | simp [WShape.has, WShape.arms, WShape.armsAll])
    (show (WTm.eq .res (.lit (.bool true))).value [] { args := args, res := some (.bool true), after := args } = some (.bool (true == true)) from w_eq_bool (w_res rfl) w_lit) rfl

theorem attach_call {l : OpenLaw} {n : Nat} {q : Program} {loose : List Str} {XP : (Str → Option Value) → Heap → Prop} {YP : World → Heap → Prop} {d : DefRec}
    (hn : l.most = some n) (hdf : d.params.defaults = [])
    (call : ∀ (w : World) (s₀ s₁ : Shared) (mg mb : Str → Option Value) (fa : Addr) (o : Obj) (pm cd doc : Value) (a : Addr) (vs : List Value) (ns : List Int),
      Ground q loose [] XP w s₀ mg mb s₁.heap → YP w s₁.heap →
      s₁.heap.get? fa = some o → o.data = .func (docDef d.name d.params d.body d.scope pm cd doc) → s₁.heap.CodeRec cd d.name → mg d.name = some (.ref fa) →
      s₁.heap.get? a = some { cls := .type "list", data := .seq vs.toArray } → IntsAre vs ns → ns.length ≤ n → s₁.gens = #[] →
      codeAny (model l.prog w) callerA (.call (.ref fa) ⟨[.ref a], []⟩) (fun r s' => r = .ok (.ret (.bool true)) ∧ OldK s₁.heap s'.heap ∧ s'.os = s₁.os ∧ AllBare s'.gens) s₁) :
    WalkO q loose XP YP l.row.toRowW d [] (fun f vs => PySem.call f vs) := by
  intro w s₀ s₁ mg mb G Y fa o pm cd doc dV kV ho hd hcd hD hmg hg args vals as hpre hlay hrd hwl hlo
  obtain rfl : dV = .none := Dflts.none hD hdf
  obtain rfl : kV = .none := Dflts.noKw hD
  obtain ⟨a, vs, ns, rfl, rfl, hobj, hints, hlen⟩ := script_of hn hpre hwl
  refine enter_call (codeAny_mono (call w s₀ s₁ mg mb fa o pm cd doc a vs ns G Y ho (fd_plain hd) hcd hmg hobj hints hlen hg) fun r s' hq => ?_)
  obtain ⟨rfl, h2, h3, h4⟩ := hq
  exact ⟨.inl ⟨.bool true, .bool true, [], rfl, fun _ => rfl, .bool true, post_true l _, fun _ => ⟨List.Pairwise.nil, fun _ hm => (nomatch hm)⟩⟩, h2, h3, h4⟩

section
variable {prog : Program} {w : World} {A : Around} {E : Value → Shared → Prop} {s : Shared} {K : Frag}

end
end Att

namespace L2
open PySem PySem.Spec PyProof.Rows

theorem vals_ints : ∀ {vs : List Value} {ns : List Int}, IntsAre vs ns → Vals (ns.map V.int) vs
  | _, _, .nil => .nil
  | _, _, .cons n t h => .cons ⟨t, rfl⟩ (vals_ints h)

noncomputable def Only (H : Hp) : Prop := ∀ b, H b = none ∨ ∃ o xs, H b = some (.frz o (.lst xs))

theorem law_call {P : Program} {w : World} {K : PySem.W.Frag} {mg mb : Str → Option Value} {CX : CXT} {k : Nat} {fa a : Addr} {fd : FuncData} {x : Str} {sp : Sp} {s₁ : Shared} {vs : List Value} {ns : List Int}
    (KX : K.In s₁.heap) (hns : s₁.heap.Ns mainGlobals mg) (hb : s₁.heap.Ns builtinsNs mb) (hbb : ∀ x : Str, x ≠ "__name__" → mb x = bootBuiltins x) (hlim : s₁.heap.NoLimit) (hg : s₁.gens = #[])
    (ha : s₁.heap.get? a = some { cls := .type "list", data := .seq vs.toArray }) (hi : IntsAre vs ns) (hl : ns.length ≤ sizeLine) (hr : Room k callerA)
    (F : ∀ base : Heap, K.In base → base.Ns mainGlobals mg → FnOk P w K mg base CX k fa fd [x] sp) (hbind : ∀ (s : Shared) (u : Value), BindsTo s fd ⟨[u], []⟩ [(x, u)])
    (hsp : ∀ H : Hp, Only H → SqL K H a (ns.map V.int) → sp [.ref a] H (fun v _ => v = .bl true) fun _ _ _ => False)
    (hCX : ∀ H e s', CX [] H s₁ (fun _ _ _ => False) e s' → False) :
    codeAny (model P w) callerA (.call (.ref fa) ⟨[.ref a], []⟩) (fun r s' => r = .ok (.ret (.bool true)) ∧ OldK s₁.heap s'.heap ∧ s'.os = s₁.os ∧ AllBare s'.gens) s₁ := by
  have rv := vals_ints hi
  have lenV := hi.length

  have core : ∀ H : Hp, Only H → SqL K H a (ns.map V.int) → HOk P w H s₁.heap → (∀ b, H b ≠ none → b = a) → (H a ≠ none → K.lookup a = none) →
      codeAny (model P w) callerA (.call (.ref fa) ⟨[.ref a], []⟩) (fun r s' => r = .ok (.ret (.bool true)) ∧ OldK s₁.heap s'.heap ∧ s'.os = s₁.os ∧ AllBare s'.gens) s₁ := by
    intro H hO hS hok hA hK
    have base_of : ∀ {b : Addr} {o : Obj}, s₁.heap.get? b = some o → H b = none → (hidT s₁.heap H).get? b = some o := fun e n => hidT_get e n
    have noA : ∀ {b : Addr} {o : Obj} {es : Array DictEntry} {ep : Nat}, s₁.heap.get? b = some o → o.data = .dict es ep → H b = none := fun {b o es ep} e d => by
      cases q : H b with
      | none => rfl
      | some u =>
        have e' : b = a := hA b (by rw [q]; simp)
        subst e'
        rw [ha] at e; cases e
        have d' : Data.seq vs.toArray _ = Data.dict es ep := d
        cases d'
    have nsK : ∀ {b : Addr} {m : Str → Option Value}, s₁.heap.Ns b m → (hidT s₁.heap H).Ns b m := fun {b m} ⟨o, es, ep, e, d, r⟩ => ⟨o, es, ep, base_of e (noA e d), d, r⟩
    have hKb : K.In (hidT s₁.heap H) := fun b o e => base_of (KX b o e) (by
      cases q : H b with
      | none => rfl
      | some u =>
        have e' : b = a := hA b (by rw [q]; simp)
        subst e'
        rw [hK (by rw [q]; simp)] at e; cases e)
    have hM : Mod K mg (hidT s₁.heap H) := ⟨hKb, nsK hns, ⟨mb, nsK hb, hbb⟩, let ⟨mc, h1, h2⟩ := hlim; ⟨mc, nsK h1, h2⟩⟩
    have e0 : Env0 P w K mg (hidT s₁.heap H) callerA [] s₁ H := ⟨rfl, hM, fun b o e => of_hidT e, Nat.le_of_eq (hidT_size _ _), trivial, fun b hb => absurd (show b ∈ ([] : List Addr) from hb) (by simp), hok, .of_eq hg⟩
    refine codeAny_mono ((F _ hKb (nsK hns)).run callerA [] s₁ H ⟨[.ref a], []⟩ [.ref a] [.ref a] _ _ hr e0 (hbind s₁ (.ref a)) (.cons rfl .nil) (hsp H hO hS)) fun r s' h => ?_
    cases r with
    | error e => exact (hCX H e s' h).elim
    | ok fl =>
      cases fl with
      | next => exact False.elim h
      | brk => exact False.elim h
      | cont => exact False.elim h
      | ret u =>
        obtain ⟨v, H', os, bare, un, hok', r', q⟩ := h
        have q' : v = .bl true := q
        subst q'
        obtain rfl : u = Value.bool true := r'
        refine ⟨rfl, OldK.of_keep fun b o e => ?_, os, bare⟩
        cases q : H b with
        | none => exact un.keep b o e q (by intro z; exact absurd (show b ∈ ([] : List Addr) from z) (by simp)) (by simp)
        | some u =>
          rcases hO b with z | ⟨ob, xs, z⟩
          · rw [q] at z; cases z
          · have z2 := un.frzs b ob _ z
            obtain ⟨e1, _⟩ := hok b _ z
            obtain ⟨e2, _⟩ := hok' b _ z2
            rw [e] at e1; cases e1
            exact e2
  cases hk : K.lookup a with
  | some o =>
  
    have e := KX a o hk
    rw [ha] at e
    cases e
    refine core (fun _ => none) (fun _ => .inl rfl) (.inr ⟨_, vs.toArray, _, hk, rfl, rfl, rfl, by rw [List.size_toArray, lenV]; exact hl, by simpa using rv⟩) (fun b u z => by have z' : (none : Option HO) = some u := z; cases z') (fun b z => absurd rfl z) fun z => absurd rfl z
  | none =>
    refine core (fun b => if b = a then some (.frz { cls := .type "list", data := .seq vs.toArray } (.lst (ns.map V.int))) else none) (fun b => ?_) (.inl (.inr ⟨{ cls := .type "list", data := .seq vs.toArray }, if_pos rfl⟩)) (fun b u z => ?_) (fun b z => ?_) fun _ => hk
    · by_cases hb : b = a
      · exact .inr ⟨_, _, if_pos hb⟩
      · exact .inl (if_neg hb)
    · by_cases hb : b = a
      · have z' := (if_pos hb).symm.trans z
        cases z'
        subst hb
        exact ⟨ha, by rw [List.length_map]; exact hl, vs, _, rv, ha⟩
      · have z' := (if_neg hb).symm.trans z
        cases z'
    · by_cases hb : b = a
      · exact hb
      · exact absurd (if_neg hb) z
end L2

namespace L2
open PySem PySem.Spec PyProof.Rows

theorem walk_of {l : PySem.W.OpenLaw} {n k : Nat} {q : Program} {loose : List Str} {XP : (Str → Option Value) → Heap → Prop} {YP : World → Heap → Prop} {d : DefRec} {K : Params → PySem.W.Frag} {CX : World → CXT} {sp : World → Sp} {x : Str}
    (hn : l.most = some n) (hn2 : n ≤ sizeLine) (hdf : d.params.defaults = []) (hr : Room k callerA)
    (hY : ∀ (w : World) (h : Heap), YP w h → (K w.params).In h)
    (F : ∀ (w : World) (mg : Str → Option Value) (fa : Addr) (h : Heap), (K w.params).In h → h.Ns mainGlobals mg → mg d.name = some (.ref fa) →
      ∃ fd : FuncData, (∀ (s : Shared) (u : Value), BindsTo s fd ⟨[u], []⟩ [(x, u)]) ∧
        ∀ base : Heap, (K w.params).In base → base.Ns mainGlobals mg → FnOk l.prog w (K w.params) mg base (CX w) k fa fd [x] (sp w))
    (hsp : ∀ (w : World) (H : Hp) (a : Addr) (ns : List Int), ns.length ≤ n → Only H → SqL (K w.params) H a (ns.map V.int) → sp w [.ref a] H (fun v _ => v = .bl true) fun _ _ _ => False)
    (hCX : ∀ (w : World) (H : Hp) (s : Shared) (e : Value) (s' : Shared), CX w [] H s (fun _ _ _ => False) e s' → False) :
    PySem.W.WalkO q loose XP YP l.row.toRowW d [] (fun f vs => PySem.call f vs) := by
  refine Att.attach_call hn hdf fun w s₀ s₁ mg mb fa o pm cd doc a vs ns G Y ho hd hcd hmg hobj hints hlen hg => ?_
  have KX := hY w _ Y
  obtain ⟨fd, hb, hF⟩ := F w mg fa _ KX G.T.g hmg
  exact law_call KX G.T.g G.T.b G.T.builtins G.T.nolimit hg hobj hints (Nat.le_trans hlen hn2) hr hF hb (fun H hO hS => hsp w H a ns hlen hO hS) fun H e s' => hCX w H s₁ e s'
end L2


namespace L2
open PySem PySem.Spec PyProof.Rows

noncomputable def inClass (s : Stmt) (j : Nat) : Stmt := match s with
  | .ClassDef _ _ _ body _ _ _ _ _ _ _ => body.getD j (.Pass ⟨0, 0, 0, 0⟩)
  | _ => .Pass ⟨0, 0, 0, 0⟩
noncomputable def defArgs (s : Stmt) : Arguments := match s with
  | .FunctionDef _ a _ _ _ _ _ _ _ _ => a
  | _ => { posonlyargs := [], args := [], vararg := none, kwonlyargs := [], kw_defaults := [], kwarg := none, defaults := [] }
noncomputable def defBody (s : Stmt) : List Stmt := match s with
  | .FunctionDef _ _ b _ _ _ _ _ _ _ => b
  | _ => []
noncomputable def defScope (s : Stmt) : Scope := match s with
  | .FunctionDef _ _ _ _ _ _ sc _ _ _ => sc
  | _ => { kind := .function, names := [], isGenerator := false, isCoroutine := false }

noncomputable abbrev E0 : XK := fun _ _ _ => False
set_option genInjectivity false in
structure Fun (K : PySem.W.Frag) (x qual : Str) (st : Stmt) (f : Addr) (fd : FuncData) : Prop where
  ex : ∃ (oc : Value) (od : Option Addr) (kV doc pm : Value) (an : Option Addr) (cdv ct : Value) (osl : Array (Option Value)),
    fd = PySem.W.fnOf x qual (defArgs st) (defBody st) (defScope st) .none kV doc pm an cdv ct ∧ K.lookup f = some ⟨oc, od, .func fd, osl⟩ ∧ PySem.W.codeIn K cdv qual = true
  kp : PySem.W.keepIn K (.ref f) = true
section
variable {P : Program} {w : World} {K : PySem.W.Frag} {mg : Str → Option Value} {base : Heap}
theorem Fun.binds {x qual : Str} {st : Stmt} {f : Addr} {fd : FuncData} {ps : List Str} (F : Fun K x qual st f fd)
    (h : ∀ (kV doc pm : Value) (an : Option Addr) (cdv ct : Value) (us : List Value), us.length = ps.length → bindArgs (PySem.W.fnOf x qual (defArgs st) (defBody st) (defScope st) .none kV doc pm an cdv ct) ⟨us, []⟩ = pure (ps.zip us)) : Binds K fd ps [] := by
  obtain ⟨oc, od, kV, doc, pm, an, cdv, ct, osl, rfl, lk, hcd⟩ := F.ex
  exact .all (h kV doc pm an cdv ct)
theorem fun_mk {x qual : Str} {st : Stmt} {f : Addr} {oc : Value} {od an : Option Addr} {osl : Array (Option Value)} {kV doc pm cdv ct : Value} (l : K.lookup f = some ⟨oc, od, .func (PySem.W.fnOf x qual (defArgs st) (defBody st) (defScope st) .none kV doc pm an cdv ct), osl⟩)
    (c : PySem.W.codeIn K cdv qual = true) (k : PySem.W.keepIn K (.ref f) = true) : Fun K x qual st f (PySem.W.fnOf x qual (defArgs st) (defBody st) (defScope st) .none kV doc pm an cdv ct) := ⟨⟨oc, od, kV, doc, pm, an, cdv, ct, osl, rfl, l, c⟩, k⟩
end
theorem hu_of {A : Around} {k : Nat} (hr : Room k A) : A.units + 1 < cLine := Nat.lt_of_le_of_lt (Nat.add_le_add_left (by decide : 1 ≤ 64) _) hr.units
section
variable {X : Cx}
theorem pv (i : Nat) {x : Str} {pos : Pos} (hN : X.N[i]? = some x := by rfl) (hv : Vis X.env.scope x := by first | exact Or.inl rfl | exact Or.inr (Or.inl rfl) | exact Or.inr (Or.inr rfl)) (hd : (x == ("__debug__" : Str)) = false := by decide)
    (hcd : (x == ("__classdict__" : Str)) = false := by decide) : PE X (.Name x pos) (tVar i) := pe_var hN hv hd hcd
end

theorem iteF {A B : Prop} (h : B) : if false = true then A else B := by
  rw [if_neg Bool.false_ne_true]
  exact h
theorem iteT {A B : Prop} (h : A) : if true = true then A else B := by
  rw [if_pos rfl]
  exact h
theorem ite2 {c A B : Prop} [Decidable c] (h1 : c → A) (h2 : ¬ c → B) : if c then A else B := by
  by_cases h : c
  · rw [if_pos h]
    exact h1 h
  · rw [if_neg h]
    exact h2 h
theorem iteNS {c A B : Prop} [Decidable c] (hc : c) (h : B) : if (!decide c) = true then A else B := by
  rw [decide_eq_true hc]
  exact iteF h

noncomputable def Same (H H' : Hp) : Prop := ∀ b o, H b = some o → H' b = some o
theorem Same.refl (H : Hp) : Same H H := fun _ _ h => h
theorem Same.trans {H H1 H2 : Hp} (a : Same H H1) (b : Same H1 H2) : Same H H2 := fun c o h => b c o (a c o h)
theorem Same.seq {K : PySem.W.Frag} {H H' : Hp} {a : Addr} {xs : List V} (e : Same H H') (h : SqL K H a xs) : SqL K H' a xs := by
  rcases h with (h | ⟨o, h⟩) | h
  · exact .inl (.inl (e _ _ h))
  · exact .inl (.inr ⟨o, e _ _ h⟩)
  · exact .inr h

end L2

namespace Wd
noncomputable abbrev W := List Nat
theorem ltir (a : W) : ¬ a < a := List.lt_irrefl a
theorem lele {a b c : W} (h : ¬ b < a) (h' : ¬ c < b) : ¬ c < a := fun hc => List.not_lt.mpr (List.le_trans (List.not_lt.mp h) (List.not_lt.mp h')) hc
noncomputable def rot (k : Nat) (w : W) : W := w.drop k ++ w.take k
noncomputable def leastTo (w : W) : Nat → W
  | 0 => w
  | n + 1 => if rot (n + 1) w < leastTo w n then rot (n + 1) w else leastTo w n
noncomputable def least (w : W) : W := leastTo w (w.length - 1)
end Wd

namespace Wd
theorem lt_app {a b : W} (h : a < b) (hl : b.length ≤ a.length) (x y : W) : a ++ x < b ++ y := by
  induction a generalizing b with
  | nil =>
    cases b with
    | nil => exact absurd h (ltir _)
    | cons d b => simp at hl
  | cons c a ih =>
    cases b with
    | nil => exact absurd h (by simp)
    | cons d b =>
      rw [List.cons_append, List.cons_append]
      rw [List.cons_lt_cons_iff] at h ⊢
      rcases h with h | ⟨h, h'⟩
      · exact .inl h
      · exact .inr ⟨h, ih h' (by simpa using hl)⟩
theorem lt_app_left (p : W) {a b : W} : p ++ a < p ++ b ↔ a < b := by
  induction p with
  | nil => rfl
  | cons c p ih =>
    rw [List.cons_append, List.cons_append, List.cons_lt_cons_iff]
    constructor
    · intro h
      rcases h with h | ⟨_, h⟩
      · exact absurd h (Nat.lt_irrefl _)
      · exact ih.mp h
    · intro h
      exact .inr ⟨rfl, ih.mpr h⟩
end Wd

namespace Wd
noncomputable def rep (n : Nat) (l : W) : W := (List.replicate n l).flatten
theorem rep_succ (n : Nat) (l : W) : rep (n + 1) l = l ++ rep n l := by unfold rep; rw [List.replicate_succ, List.flatten_cons]
theorem rep_zero (l : W) : rep 0 l = [] := rfl
theorem rep_one (l : W) : rep 1 l = l := by rw [rep_succ, rep_zero, List.append_nil]
theorem rep_len (n : Nat) (l : W) : (rep n l).length = n * l.length := by
  induction n with
  | zero => rw [rep_zero, Nat.zero_mul]; rfl
  | succ n ih => rw [rep_succ, List.length_append, ih, Nat.succ_mul, Nat.add_comm]
noncomputable def Rp (w : W) (d : Nat) : Prop := ∀ i, w[i % w.length]? = w[(i + d) % w.length]?
end Wd
namespace Wd
end Wd

namespace Wd
end Wd

set_option linter.all false
namespace Dt
noncomputable abbrev Mx := Nat → Nat → Int
section
variable {n N p q i j k l : Nat} {A B : Mx} {f g : Nat → Int} {c m : Int}
noncomputable def tr (p i : Nat) : Nat := if i = p then p + 1 else if i = p + 1 then p else i
noncomputable def mv (p : Nat) (A : Mx) : Mx := fun i k => if i = 0 then A p k else if i ≤ p then A (i - 1) k else A i k
end
end Dt

set_option linter.all false
namespace Dt
noncomputable def sN : Nat → (Nat → Nat) → Nat
  | 0, _ => 0
  | n + 1, f => sN n f + f n
section
variable {n N p q i j k l : Nat} {A B : Mx} {f g : Nat → Nat} {c m : Int}
end
end Dt

namespace Wd
end Wd

set_option linter.all false
namespace Wd
theorem sorted_same : ∀ {xs ys : List W}, xs.Perm ys → xs.Pairwise (fun a b => ¬ b < a) → ys.Pairwise (fun a b => ¬ b < a) → xs = ys := by
  intro xs ys h h1 h2
  refine List.Perm.eq_of_pairwise ?_ h1 h2 h
  intro a b _ _ z1 z2
  exact Std.Trichotomous.trichotomous a b z2 z1
end Wd

set_option linter.all false
namespace Hg
variable {bg en : List Nat → List Nat}
inductive Rch (bg en : List Nat → List Nat) (ms : List (List Nat)) (p : List Nat) : List Nat → Prop
  | self : Rch bg en ms p p
  | fw {w : List Nat} : w ∈ ms → Rch bg en ms p (bg w) → Rch bg en ms p (en w)
  | bw {w : List Nat} : w ∈ ms → Rch bg en ms p (en w) → Rch bg en ms p (bg w)
noncomputable def Cl (bg en : List Nat → List Nat) (ls : List (List Nat)) (w : List Nat) : Prop := bg w ∈ ls ↔ en w ∈ ls
set_option genInjectivity false in
structure Pass (bg en : List Nat → List Nat) (ms : List (List Nat)) (p : List Nat) (fs : List (List Nat)) (i : Nat) (ls : List (List Nat)) : Prop where
  nd : ls.Nodup
  pre : fs <+: ls
  rch : ∀ z ∈ ls, Rch bg en ms p z
  cl : ls.length = fs.length → ∀ w ∈ ms.take i, Cl bg en fs w
theorem nd_len {α : Type} [BEq α] [LawfulBEq α] : ∀ {ls ms : List α}, ls.Nodup → (∀ z ∈ ls, z ∈ ms) → ls.length ≤ ms.length
  | [], _, _, _ => Nat.zero_le _
  | a :: ls, ms, h, hs => by
    rw [List.nodup_cons] at h
    have ha := hs a (List.mem_cons_self ..)
    have ih := nd_len (ls := ls) (ms := ms.erase a) h.2 fun z hz => (List.mem_erase_of_ne (fun e : z = a => h.1 (e ▸ hz))).mpr (hs z (List.mem_cons_of_mem _ hz))
    have := List.length_erase_of_mem ha
    have := List.length_pos_of_mem ha
    rw [List.length_cons]
    omega
end Hg

set_option linter.all false
namespace Dt
section
variable {N F b d e n : Nat}
noncomputable def pm (N : Nat) : Nat → Nat → Nat → Nat
  | 0, _, _ => 1 % N
  | f + 1, b, e => if e = 0 then 1 % N else if e % 2 = 1 then b * pm N f (b * b % N) (e / 2) % N else pm N f (b * b % N) (e / 2)
end
end Dt

set_option linter.all false
namespace Dt
section
variable {N F b d e n : Nat}
end
end Dt

set_option linter.all false
namespace Dt
end Dt
namespace Dt
noncomputable def rs (n : Nat) (r : List Int) : Nat := sN n fun k => (r.getD k 0).natAbs
noncomputable def kn : List Nat := [133, 211, 598, 652, 721, 850, 1282]
end Dt

set_option linter.all false
namespace Dt
section
variable {n m p q i j k l : Nat} {A B T U : Mx} {f g : Nat → Int} {c : Nat → Int}
end
end Dt

set_option linter.all false
namespace Dt
section
variable {n i j k l m : Nat} {A B : Mx} {f : Nat → Nat} {c : Int}
noncomputable def un (i k : Nat) : Int := if k = i then 1 else 0
end
end Dt

set_option linter.all false
namespace Dt
section
variable {n m i : Nat} {A : Mx} {Ws : Nat → List Nat} {c : List Nat}
end
end Dt

set_option linter.all false
namespace Dt
noncomputable def cE (words : List (List Nat)) (o : List Nat) : Int := ((words.countP fun w => decide (w.drop 1 = o) : Nat) : Int)
noncomputable def rI (texts : List (List Nat)) (t : List Nat) (words : List (List Nat)) : List Int := texts.map fun o => if o = t then ((words.length : Nat) : Int) - cE words t else - cE words o
end Dt

set_option linter.all false
namespace Dt
end Dt

set_option linter.all false
namespace Dt
inductive R2 {α β : Type} (R : α → β → Prop) : List α → List β → Prop
  | nil : R2 R [] []
  | cons {a : α} {b : β} {as : List α} {bs : List β} : R a b → R2 R as bs → R2 R (a :: as) (b :: bs)
section
variable {α β : Type} {R R' : α → β → Prop} {as : List α} {bs : List β}
theorem R2.len (h : R2 R as bs) : as.length = bs.length := by
  induction h with
  | nil => rfl
  | cons _ _ ih => rw [List.length_cons, List.length_cons, ih]
theorem R2.mono (h : R2 R as bs) (f : ∀ a b, a ∈ as → R a b → R' a b) : R2 R' as bs := by
  induction h with
  | nil => exact .nil
  | cons r _ ih => exact .cons (f _ _ (List.mem_cons_self ..) r) (ih fun a b ha => f a b (List.mem_cons_of_mem _ ha))
theorem R2.snoc {a : α} {b : β} (h : R2 R as bs) (r : R a b) : R2 R (as ++ [a]) (bs ++ [b]) := by
  induction h with
  | nil => exact .cons r .nil
  | cons r' _ ih => exact .cons r' ih
end
noncomputable abbrev W := List Nat
end Dt

namespace Wd
noncomputable def spell (k : Nat) : Nat → Nat → W
  | 0, _ => []
  | n + 1, N => spell k n (N / k) ++ [97 + N % k]
theorem spell_len (k : Nat) : ∀ n N, (spell k n N).length = n
  | 0, _ => rfl
  | n + 1, N => by rw [spell, List.length_append, spell_len k n]; rfl
theorem spell_rev (k : Nat) : ∀ n N, ((List.range n).map fun i => 97 + N / k ^ i % k).reverse = spell k n N
  | 0, _ => rfl
  | n + 1, N => by
    rw [List.range_succ_eq_map, List.map_cons, List.map_map, List.reverse_cons, spell, ← spell_rev k n (N / k), Nat.pow_zero, Nat.div_one]
    congr 3
    funext i
    show 97 + N / k ^ (i + 1) % k = 97 + N / k / k ^ i % k
    rw [Nat.div_div_eq_div_mul, Nat.pow_succ, Nat.mul_comm]
theorem spell_lt {k : Nat} (hk : 0 < k) : ∀ n N M, N < M → M < k ^ n → spell k n N < spell k n M
  | 0, N, M, h1, h2 => by rw [Nat.pow_zero] at h2; omega
  | n + 1, N, M, h1, h2 => by
    rw [spell, spell]
    have hle : N / k ≤ M / k := Nat.div_le_div_right (Nat.le_of_lt h1)
    rcases Nat.lt_or_eq_of_le hle with h | h
    · exact lt_app (spell_lt hk n _ _ h (Nat.div_lt_of_lt_mul (by rw [Nat.mul_comm, ← Nat.pow_succ]; exact h2))) (by rw [spell_len, spell_len]; exact Nat.le_refl _) _ _
    · rw [h, lt_app_left]
      have e1 := Nat.div_add_mod N k
      have e2 := Nat.div_add_mod M k
      rw [h] at e1
      have : N % k < M % k := by omega
      rw [List.cons_lt_cons_iff]
      left
      omega
theorem spell_mem {k : Nat} (hk : 0 < k) : ∀ n N, ∀ c ∈ spell k n N, 97 ≤ c ∧ c < 97 + k
  | 0, _, c, h => by cases h
  | n + 1, N, c, h => by
    rw [spell, List.mem_append] at h
    rcases h with h | h
    · exact spell_mem hk n _ c h
    · have e : c = 97 + N % k := by simpa using h
      have := Nat.mod_lt N hk
      omega
noncomputable def num (k : Nat) (w : W) : Nat := w.foldl (fun a c => a * k + (c - 97)) 0
theorem num_snoc (k : Nat) (w : W) (c : Nat) : num k (w ++ [c]) = num k w * k + (c - 97) := by
  unfold num
  rw [List.foldl_append]
  rfl
theorem snoc_ex {w : W} (h : 0 < w.length) : ∃ u c, w = u ++ [c] := by
  exact ⟨w.dropLast, w.getLast (List.length_pos_iff.mp h), (List.dropLast_concat_getLast _).symm⟩
theorem spell_num {k : Nat} : ∀ (n : Nat) (w : W), w.length = n → (∀ c ∈ w, 97 ≤ c ∧ c < 97 + k) → spell k n (num k w) = w ∧ num k w < k ^ n
  | 0, w, h, _ => by
    have : w = [] := List.length_eq_zero_iff.mp h
    subst this
    exact ⟨rfl, by rw [Nat.pow_zero]; exact Nat.zero_lt_one⟩
  | n + 1, w, h, hw => by
    obtain ⟨u, c, rfl⟩ := snoc_ex (w := w) (by omega)
    rw [List.length_append] at h
    have hu : u.length = n := by
      have : [c].length = 1 := rfl
      omega
    obtain ⟨h1, h2⟩ := spell_num n u hu fun d hd => hw d (List.mem_append_left _ hd)
    have hc := hw c (by simp)
    have hk : 0 < k := by omega
    have hd : (num k u * k + (c - 97)) / k = num k u := by rw [Nat.add_comm, Nat.add_mul_div_right _ _ hk, Nat.div_eq_of_lt (by omega), Nat.zero_add]
    have hm : (num k u * k + (c - 97)) % k = c - 97 := by rw [Nat.add_comm, Nat.add_mul_mod_self_right, Nat.mod_eq_of_lt (by omega)]
    rw [num_snoc, spell, hd, hm, h1]
    refine ⟨by rw [show 97 + (c - 97) = c by omega], ?_⟩
    rw [Nat.pow_succ]
    have : num k u * k + k ≤ k ^ n * k := by rw [← Nat.succ_mul]; exact Nat.mul_le_mul_right k h2
    omega
noncomputable def allW (k n : Nat) : List W := (List.range (k ^ n)).map (spell k n)
theorem allW_len (k n : Nat) : (allW k n).length = k ^ n := by rw [allW, List.length_map, List.length_range]
end Wd

namespace Wd
noncomputable def Okk (k : Nat) (w : W) : Prop := ∀ c ∈ w, 97 ≤ c ∧ c < 97 + k
noncomputable def Lst (w : W) : Prop := w = least w
noncomputable instance (w : W) : Decidable (Lst w) := inferInstanceAs (Decidable (w = least w))
set_option genInjectivity false in
structure LW (k n : Nat) (w : W) : Prop where
  len : w.length = n
  ok : Okk k w
  lst : Lst w
end Wd

namespace Wd
noncomputable def Nn (k : Nat) (w : W) (m : Nat) : Prop := ∀ v, LW k w.length v → ∀ p, m ≤ p → p < w.length → v.take p = w.take p → ¬ w.getD p 0 < v.getD p 0
end Wd

namespace Wd
theorem mem_allW {k n : Nat} {w : W} (hk : 0 < k) : w ∈ allW k n ↔ w.length = n ∧ Okk k w := by
  unfold allW
  rw [List.mem_map]
  constructor
  · rintro ⟨i, _, rfl⟩
    exact ⟨spell_len k n i, spell_mem hk n i⟩
  · rintro ⟨hl, ho⟩
    obtain ⟨h1, h2⟩ := spell_num n w hl ho
    exact ⟨num k w, List.mem_range.mpr h2, h1⟩
theorem allW_sorted {k n : Nat} (hk : 0 < k) : (allW k n).Pairwise (· < ·) := by
  unfold allW
  rw [List.pairwise_map]
  refine List.Pairwise.imp_of_mem ?_ List.pairwise_lt_range
  intro a b _ hb hab
  exact spell_lt hk n a b hab (List.mem_range.mp hb)
theorem allW_succ (k n : Nat) (hk : 0 < k) : allW k (n + 1) = (allW k n).flatMap fun w => (List.range k).map fun c => w ++ [97 + c] := by
  unfold allW
  rw [List.flatMap_map, Nat.pow_succ]
  generalize k ^ n = m
  induction m with
  | zero => simp
  | succ m ih =>
    rw [Nat.succ_mul, List.range_add, List.map_append, ih, List.range_succ, List.flatMap_append]
    congr 1
    simp only [List.flatMap_cons, List.flatMap_nil, List.append_nil, List.map_map]
    apply List.map_congr_left
    intro c hc
    have hc' := List.mem_range.mp hc
    show spell k (n + 1) (m * k + c) = _
    rw [spell]
    have e1 : (m * k + c) / k = m := by rw [Nat.mul_comm, Nat.mul_add_div hk, Nat.div_eq_of_lt hc']; omega
    have e2 : (m * k + c) % k = c := by rw [Nat.mul_comm, Nat.mul_add_mod, Nat.mod_eq_of_lt hc']
    rw [e1, e2]
end Wd

set_option Elab.async false
set_option linter.all false
set_option maxRecDepth 100000
set_option maxHeartbeats 4000000

namespace L2
open PySem PySem.Spec PyProof.Rows

noncomputable def tx (l : List Nat) : Str := ⟨l.toArray⟩
noncomputable abbrev T (l : List Nat) : V := .str (tx l)
theorem tx_len (l : List Nat) : (tx l).length = l.length := by simp [tx, Str.length]
theorem tx_cps (l : List Nat) : (tx l).cps.toList = l := by simp [tx]
theorem tx_eta (x : Str) : tx x.cps.toList = x := by cases x; simp [tx]
theorem tx_inj {a b : List Nat} (h : tx a = tx b) : a = b := by
  have e := congrArg (fun x : Str => x.cps.toList) h
  simpa [tx] using e
theorem T_inj {a b : List Nat} (h : T a = T b) : a = b := tx_inj (V.str.inj h)
theorem T_dec {a b : List Nat} : decide (T a = T b) = decide (a = b) := by
  rw [Bool.eq_iff_iff, decide_eq_true_iff, decide_eq_true_iff]
  exact ⟨T_inj, fun h => by rw [h]⟩
theorem tx_app (a b : List Nat) : tx a ++ tx b = tx (a ++ b) := by
  rw [← tx_eta (tx a ++ tx b), PySem.W.KT.app_list, tx_cps, tx_cps]

section
variable {X : Cx}
theorem op_add_T : OpR X (binaryOp .Add) (fun x y H Q => ∃ a, x = T a ∧ ∃ b, y = T b ∧ a.length + b.length ≤ sizeLine ∧ Q (T (a ++ b)) H) := by
  intro pins s σ H x y v u Q I rx ry h
  obtain ⟨a, e1, b, e2, hz, q⟩ := h
  exact op_add_str pins s σ H x y v u Q I rx ry ⟨tx a, tx b, e1, e2, by rw [tx_len, tx_len]; exact hz, by rw [tx_app]; exact q⟩
theorem op_eq_T : OpR X (compareOp .Eq) (fun x y H Q => ∃ a, x = T a ∧ ∃ b, y = T b ∧ Q (.bl (decide (a = b))) H) := by
  intro pins s σ H x y v u Q I rx ry h
  obtain ⟨a, rfl, b, rfl, q⟩ := h
  exact op_eq pins s σ H _ _ v u Q I rx ry ⟨rfl, by rw [T_dec]; exact q⟩
theorem op_ne_T : OpR X (compareOp .NotEq) (fun x y H Q => ∃ a, x = T a ∧ ∃ b, y = T b ∧ Q (.bl (!decide (a = b))) H) := by
  intro pins s σ H x y v u Q I rx ry h
  obtain ⟨a, rfl, b, rfl, q⟩ := h
  exact op_ne pins s σ H _ _ v u Q I rx ry ⟨rfl, by rw [T_dec]; exact q⟩
theorem op_eq_I : OpR X (compareOp .Eq) (fun x y H Q => ∃ a, x = .int a ∧ ∃ b, y = .int b ∧ Q (.bl (decide (a = b))) H) := by
  intro pins s σ H x y v u Q I rx ry h
  obtain ⟨a, rfl, b, rfl, q⟩ := h
  exact op_eq pins s σ H _ _ v u Q I rx ry ⟨rfl, by rw [dec_int, Bool.beq_eq_decide_eq]; exact q⟩
theorem op_ne_I : OpR X (compareOp .NotEq) (fun x y H Q => ∃ a, x = .int a ∧ ∃ b, y = .int b ∧ Q (.bl (!decide (a = b))) H) := by
  intro pins s σ H x y v u Q I rx ry h
  obtain ⟨a, rfl, b, rfl, q⟩ := h
  exact op_ne pins s σ H _ _ v u Q I rx ry ⟨rfl, by rw [dec_int, Bool.beq_eq_decide_eq]; exact q⟩
noncomputable def cutL (l : List Nat) (lo hi : Option Int) : List Nat := (l.drop (HT.sIx l.length 0 lo)).take (HT.sIx l.length l.length hi - HT.sIx l.length 0 lo)
theorem clip_sIx (v : Option Int) (n d : Nat) : (match v with | none => (d : Int) | some i => max 0 (min (if i < 0 then i + (n : Int) else i) (n : Int))) = ((HT.sIx n d v : Nat) : Int) := by
  cases v with
  | none => rfl
  | some i =>
    show max 0 (min (if i < 0 then i + (n : Int) else i) (n : Int)) = (((if i < 0 then (i + (n : Int)).toNat else min i.toNat n) : Nat) : Int)
    by_cases hi : i < 0
    · simp only [if_pos hi]; omega
    · simp only [if_neg hi]; omega
theorem indices_sIx (lo hi : Option Int) (n : Nat) : Builtin.Str.strSliceIndices lo hi 1 n = Builtin.Str.strSliceIndices (some ((HT.sIx n 0 lo : Nat) : Int)) (some ((HT.sIx n n hi : Nat) : Int)) 1 n := by
  have h1 := HT.sIx_le n 0 (Nat.zero_le _) lo
  have h2 := HT.sIx_le n n (Nat.le_refl _) hi
  have c1 := clip_sIx lo n 0
  have c2 := clip_sIx hi n n
  have d1 := clip_sIx (some ((HT.sIx n 0 lo : Nat) : Int)) n 0
  have d2 := clip_sIx (some ((HT.sIx n n hi : Nat) : Int)) n n
  rw [HT.sIx_nat, Nat.min_eq_left h1] at d1
  rw [HT.sIx_nat, Nat.min_eq_left h2] at d2
  unfold Builtin.Str.strSliceIndices
  simp only [show ((1 : Int) > 0) from by decide, if_true]
  have g : ∀ a b c d : Int, a = c → b = d → sliceRange a b 1 = sliceRange c d 1 := fun a b c d h1 h2 => by rw [h1, h2]
  exact g _ _ _ _ (c1.trans d1.symm) (c2.trans d2.symm)
theorem slice_tx (l : List Nat) (lo hi : Option Int) : Txt.slice (tx l) lo hi = tx (cutL l lo hi) := by
  have h1 := HT.sIx_le l.length 0 (Nat.zero_le _) lo
  have h2 := HT.sIx_le l.length l.length (Nat.le_refl _) hi
  unfold Txt.slice
  rw [tx_len, indices_sIx]
  by_cases hab : HT.sIx l.length 0 lo ≤ HT.sIx l.length l.length hi
  · have e := StrLaws.sliceText_nat (tx l) hab (by rw [tx_len]; exact h2)
    unfold StrLaws.sliceText at e
    rw [tx_len, tx_cps] at e
    exact e
  · have e0 : Builtin.Str.strSliceIndices (some ((HT.sIx l.length 0 lo : Nat) : Int)) (some ((HT.sIx l.length l.length hi : Nat) : Int)) 1 l.length = [] := by
      unfold Builtin.Str.strSliceIndices sliceRange
      have n1 : ¬ (((HT.sIx l.length 0 lo : Nat) : Int) < 0) := by omega
      have n2 : ¬ (((HT.sIx l.length l.length hi : Nat) : Int) < 0) := by omega
      simp only [show ((1 : Int) > 0) from by decide, if_true, if_neg n1, if_neg n2]
      have n3 : ¬ (max (0 : Int) (min ((HT.sIx l.length 0 lo : Nat) : Int) (l.length : Int)) < max (0 : Int) (min ((HT.sIx l.length l.length hi : Nat) : Int) (l.length : Int))) := by omega
      simp [n3]
    have e1 : cutL l lo hi = [] := by
      unfold cutL
      rw [show HT.sIx l.length l.length hi - HT.sIx l.length 0 lo = 0 by omega, List.take_zero]
    rw [e0, e1]
    cases l with
    | nil => rfl
    | cons c r => rfl
theorem sl_T : SlR X (fun x lo hi H Q => ∃ a, x = T a ∧ a.length ≤ sizeLine ∧ Q (T (cutL a lo hi)) H) := by
  intro pins s σ H x v vl vu lo hi sl Q I rx hs pl pu h
  obtain ⟨a, rfl, hz, q⟩ := h
  obtain ⟨t, rfl⟩ := rx
  obtain ⟨l, hl1, hl2⟩ : ∃ l : Option (Int × Tok), partValue l = vl ∧ l.map (·.1) = lo := by
    cases pl with
    | none => exact ⟨none, rfl, rfl⟩
    | int i t => exact ⟨some (i, t), rfl, rfl⟩
  obtain ⟨u, hu1, hu2⟩ : ∃ u : Option (Int × Tok), partValue u = vu ∧ u.map (·.1) = hi := by
    cases pu with
    | none => exact ⟨none, rfl, rfl⟩
    | int i t => exact ⟨some (i, t), rfl, rfl⟩
  refine ⟨"str", _, F.slot_str_getitem.lookup, typeIs_str _ _ _, ?_⟩
  have hsl : s.heap.IsSlice sl l u none := by
    obtain ⟨o, ho, hc, hd⟩ := hs
    exact ⟨o, ho, hc, by rw [hl1, hu1]; exact hd⟩
  refine wpAny_getItem_str_slice hsl rfl ?_
  have key : (if ((1 : Int) == 1 && (Builtin.Str.strSliceIndices lo hi 1 (tx a).length).length == (tx a).length) = true then (tx a) else ⟨((Builtin.Str.strSliceIndices lo hi 1 (tx a).length).filterMap ((tx a).cps[·]?)).toArray⟩) = tx (cutL a lo hi) := slice_tx a lo hi
  unfold sliceMade slicePicked
  rw [hl2, hu2]
  refine post_val_or_str ⟨?_, fun t' k => ?_⟩
  · show (Txt.slice (tx a) lo hi).length ≤ sizeLine
    exact Nat.le_trans (Txt.slice_le _ _ _) (by rw [tx_len]; exact hz)
  · refine ⟨T (cutL a lo hi), H, I.tok _, ⟨t', ?_⟩, q⟩
    exact congrArg (fun z => Value.str z t') key

theorem rep_length (n : Nat) (l : List Nat) : (Wd.rep n l).length = n * l.length := Wd.rep_len n l
theorem foldl_cps (n : Nat) (c : Array Nat) : ∀ acc : Array Nat, (List.replicate n c).foldl (· ++ ·) acc = acc ++ (Wd.rep n c.toList).toArray := by
  induction n with
  | zero => intro acc; simp [Wd.rep]
  | succ n ih =>
    intro acc
    rw [List.replicate_succ, List.foldl_cons, ih]
    rw [Wd.rep_succ, Array.append_assoc]
    congr 1
    apply Array.ext'
    simp
theorem mul_tx (n : Nat) (l : List Nat) : Txt.mul (tx l) (n : Int) = tx (Wd.rep n l) := by
  unfold Txt.mul
  by_cases h1 : (n : Int) < 1
  · have e : n = 0 := by omega
    subst e
    rw [if_pos h1]
    rfl
  · rw [if_neg h1]
    by_cases h2 : ((n : Int) == 1 || (tx l).length == 0) = true
    · rw [if_pos h2]
      rw [Bool.or_eq_true, beq_iff_eq, beq_iff_eq, tx_len] at h2
      rcases h2 with h2 | h2
      · have e : n = 1 := by omega
        subst e
        rw [Wd.rep_one]
      · have e : l = [] := List.length_eq_zero_iff.mp h2
        subst e
        have : Wd.rep n [] = [] := List.length_eq_zero_iff.mp (by rw [rep_length]; simp)
        rw [this]
    · rw [if_neg h2, Int.toNat_natCast, foldl_cps]
      simp [tx]
theorem op_mul_T : OpR X (binaryOp .Mult) (fun x y H Q => ∃ a, x = T a ∧ ∃ n : Nat, y = .int n ∧ (n ≤ sizeLine ∧ n * a.length ≤ sizeLine) ∧ Q (T (Wd.rep n a)) H) := by
  intro pins s σ H x y v u Q I rx ry h
  obtain ⟨a, rfl, n, rfl, ⟨h1, h2⟩, q⟩ := h
  obtain ⟨t, rfl⟩ := rx
  obtain ⟨t', rfl⟩ := ry
  have hs : sizeLine = 16777216 := sizeLine_eq
  refine SB.mul ⟨?_, ?_, ?_⟩ fun t' k => ⟨T (Wd.rep n a), H, I.tok _, ⟨t', by rw [mul_tx]⟩, q⟩
  · have e1 : decide ((n : Int) < -(2 ^ 63 : Int)) = false := decide_eq_false (by omega)
    have e2 : decide ((n : Int) ≥ 2 ^ 63) = false := decide_eq_false (by omega)
    rw [e1, e2]
    rfl
  · intro hn _
    rw [tx_len]
    have h3 : n * a.length ≤ 16777216 := by omega
    intro hc
    have h4 : ((n * a.length : Nat) : Int) ≤ 16777216 := by omega
    have hn' : (0 : Int) < n := by omega
    have h5 : ((2 ^ 63 - 1) / (n : Int)) * n ≤ 2 ^ 63 - 1 := Int.ediv_mul_le _ (by omega)
    have h6 : (2 ^ 63 - 1 : Int) < ((2 ^ 63 - 1) / (n : Int) + 1) * n := Int.lt_ediv_add_one_mul_self _ hn'
    have h7 : ((2 ^ 63 - 1) / (n : Int) + 1) * n ≤ (a.length : Int) * n := Int.mul_le_mul_of_nonneg_right (by omega) (by omega)
    have h8 : ((n * a.length : Nat) : Int) = (a.length : Int) * n := by rw [Int.natCast_mul, Int.mul_comm]
    omega
  · intro hn _
    rw [tx_len, Int.toNat_natCast, Nat.mul_comm]
    unfold Builtin.Str.tooLong
    exact decide_eq_false (by omega)

theorem strsAre_T : ∀ {ls : List (List Nat)} {us : List Value}, Vals (ls.map T) us → StrsAre us (ls.map tx)
  | [], us, r => by
    cases r
    exact .nil
  | l :: ls, us, r => by
    rw [List.map_cons] at r
    cases r with
    | cons r1 r2 =>
      obtain ⟨t, rfl⟩ := r1
      exact .cons _ _ (strsAre_T r2)
theorem glued_empty : ∀ (ls : List (List Nat)) (acc : Array Nat), (ls.map tx).foldl (fun acc p => acc ++ (tx []).cps ++ p.cps) acc = acc ++ ls.flatten.toArray
  | [], acc => by simp
  | l :: ls, acc => by
    rw [List.map_cons, List.foldl_cons, glued_empty ls]
    simp [tx]
theorem join_tx (ls : List (List Nat)) : Txt.join (tx []) (ls.map tx) = tx ls.flatten := by
  unfold Txt.join Builtin.Str.glued
  cases ls with
  | nil => rfl
  | cons l ls =>
    rw [List.map_cons, List.drop_succ_cons, List.drop_zero, List.headD_cons, glued_empty]
    simp [tx]
theorem sum_len_tx (ls : List (List Nat)) : ((ls.map tx).map (·.length)).sum = ls.flatten.length := by
  induction ls with
  | nil => rfl
  | cons l ls ih => rw [List.map_cons, List.map_cons, List.sum_cons, ih, List.flatten_cons, List.length_append, tx_len]
theorem mt_join : MtR X "str.join" (fun x xs H Q => x = T [] ∧ ∃ (p : Addr) (ls : List (List Nat)), xs = [.ref p] ∧ SqL X.K H p (ls.map T) ∧ ls.flatten.length ≤ sizeLine ∧ Q (T ls.flatten) H) := by
  intro pins s σ H x xs v us Q I rx rs h
  obtain ⟨rfl, p, ls, rfl, hq, hz, q⟩ := h
  obtain ⟨t, rfl⟩ := rx
  obtain ⟨u, rfl, ru⟩ := vals1 rs
  cases ru
  obtain ⟨its, r, pl, _⟩ := I.list hq
  have hs : sizeLine = 16777216 := sizeLine_eq
  refine join_list pl.isList (ys := ls.map tx) (by simpa using strsAre_T r) ?_ fun t' k => ⟨T ls.flatten, H, I.tok _, ⟨t', by rw [join_tx]⟩, q⟩
  rw [sum_len_tx, tx_len, List.length_nil, Nat.mul_zero]
  omega
end
end L2
namespace L2
theorem cutL_from {w : List Nat} {k : Nat} (h : k ≤ w.length) : cutL w (some (k : Int)) none = w.drop k := by
  unfold cutL
  rw [HT.sIx_nat, HT.sIx_none, Nat.min_eq_left h]
  exact List.take_of_length_le (by rw [List.length_drop]; omega)
theorem cutL_to {w : List Nat} {k : Nat} (h : k ≤ w.length) : cutL w none (some (k : Int)) = w.take k := by
  unfold cutL
  rw [HT.sIx_nat, HT.sIx_none, Nat.min_eq_left h, List.drop_zero, Nat.sub_zero]
end L2

set_option Elab.async false
set_option linter.all false
set_option maxRecDepth 100000
set_option maxHeartbeats 4000000

namespace L2
open PySem PySem.Spec PyProof.Rows

set_option genInjectivity false in
structure CompSc (N N' : List Str) (sc scope : Scope) (x : Str) : Prop where
  kind : scope.kind = .function
  cell : ∀ y ∈ scope.names, y.2 ≠ .cell
  names : ∀ y ∈ scope.names, y.2 = .local → scope.names.lookup y.1 = some .local
  var : scope.names.lookup x = some .local
  ok : ∀ y ∈ scope.names, y.2 = .free → sc.names.lookup y.1 = some .cell ∨ sc.names.lookup y.1 = some .free
  hd : N'[0]? = some x
  len : N'.length = N.length + 1
  sub : ∀ i, i < N.length → N'[i + 1]? = N[i]? ∨ (N'[i + 1]?.map fun y => scope.names.lookup y) = some none
  noe : scope.names.lookup ("" : Str) = none
  nol : ∀ y ∈ N'.tail, scope.names.lookup y ≠ some .local
  nd : N'.Nodup

noncomputable def closOf (cells : List (Str × Addr)) : List (Str × NameKind) → List (Str × Addr) → List (Str × Addr)
  | [], acc => acc
  | (n, k) :: r, acc => closOf cells r (if k == .free then (n, (cells.lookup n).getD 0) :: acc else acc)
theorem clos_sound {cells : List (Str × Addr)} {y : Str} {c : Addr} : ∀ (names : List (Str × NameKind)) (acc : List (Str × Addr)), (∀ z ∈ names, z.2 = .free → ∃ c, cells.lookup z.1 = some c) →
    (acc.lookup y = some c → cells.lookup y = some c) → (closOf cells names acc).lookup y = some c → cells.lookup y = some c
  | [], acc, _, ha, h => ha h
  | (n, k) :: r, acc, hz, ha, h => by
    unfold closOf at h
    refine clos_sound r _ (fun z hm => hz z (List.mem_cons_of_mem _ hm)) (fun q => ?_) h
    split at q
    · rename_i hk
      obtain ⟨c', e⟩ := hz (n, k) List.mem_cons_self (by simpa using hk)
      rw [List.lookup_cons] at q
      split at q
      · rename_i he
        have : y = n := by simpa using he
        subst this
        rw [e] at q
        rw [e]
        exact q
      · exact ha q
    · exact ha q
theorem clos_acc {cells : List (Str × Addr)} {y : Str} : ∀ (names : List (Str × NameKind)) (acc : List (Str × Addr)), (∃ c, acc.lookup y = some c) → ∃ c, (closOf cells names acc).lookup y = some c
  | [], acc, h => h
  | (n, k) :: r, acc, ⟨c, h⟩ => by
    unfold closOf
    refine clos_acc r _ ?_
    split
    · rw [List.lookup_cons]
      split
      · exact ⟨_, rfl⟩
      · exact ⟨c, h⟩
    · exact ⟨c, h⟩
theorem clos_has {cells : List (Str × Addr)} {y : Str} : ∀ (names : List (Str × NameKind)) (acc : List (Str × Addr)), (y, NameKind.free) ∈ names → ∃ c, (closOf cells names acc).lookup y = some c
  | (n, k) :: r, acc, h => by
    unfold closOf
    rcases List.mem_cons.mp h with e | h
    · cases e
      refine clos_acc r _ ⟨(cells.lookup y).getD 0, ?_⟩
      simp
    · exact clos_has r _ h
theorem clos_eq {scope : Scope} {env : Env} (h : ∀ z ∈ scope.names, z.2 = .free → ∃ c, env.cells.lookup z.1 = some c) : closureFor scope env = pure (closOf env.cells scope.names []) := by
  have gen : ∀ (names : List (Str × NameKind)) (acc : List (Str × Addr)), (∀ z ∈ names, z.2 = .free → ∃ c, env.cells.lookup z.1 = some c) →
      (forIn names acc fun (x : Str × NameKind) (r : List (Str × Addr)) => (if (x.2 == NameKind.free) = true then (do let a ← cellOf env x.1; pure (ForInStep.yield ((x.1, a) :: r))) else pure (ForInStep.yield r) : Sem (ForInStep (List (Str × Addr))))) = (pure (closOf env.cells names acc) : Sem (List (Str × Addr))) := by
    intro names
    induction names with
    | nil => intro acc _; rfl
    | cons z r ih =>
      intro acc hz
      obtain ⟨n, k⟩ := z
      rw [List.forIn_cons]
      unfold closOf
      by_cases hk : (k == NameKind.free) = true
      · obtain ⟨c, e⟩ := hz (n, k) List.mem_cons_self (by simpa using hk)
        have e' : env.cells.lookup n = some c := e
        simp only [hk, if_true, cellOf, e', pure_bind, Option.getD_some]
        exact ih _ fun z hm => hz z (List.mem_cons_of_mem _ hm)
      · simp only [hk, Bool.false_eq_true, if_false, pure_bind]
        exact ih _ fun z hm => hz z (List.mem_cons_of_mem _ hm)
  have g := gen scope.names [] h
  unfold closureFor
  refine Eq.trans ?_ (congrArg (fun (m : Sem (List (Str × Addr))) => m >>= fun cs => pure cs) g)
  rfl
theorem relabel_lookup (scope : Scope) (env : Env) (y : Str) : (relabel scope env).names.lookup y = (scope.names.lookup y).map fun k => if (k == NameKind.free && env.scope.kind == .function && env.kindOf y == some .cell) = true then NameKind.cell else k := by
  unfold relabel
  show List.lookup y (scope.names.map fun (n, k) => if (k == NameKind.free && env.scope.kind == .function && env.kindOf n == some .cell) = true then (n, NameKind.cell) else (n, k)) = _
  induction scope.names with
  | nil => rfl
  | cons z r ih =>
    obtain ⟨n, k⟩ := z
    rw [List.map_cons]
    by_cases hy : (y == n) = true
    · have e : y = n := by simpa using hy
      subst e
      by_cases hc : (k == NameKind.free && env.scope.kind == .function && env.kindOf y == some .cell) = true
      · simp only [hc, if_true, List.lookup_cons, beq_self_eq_true, Option.map_some]
      · simp only [hc, if_false, List.lookup_cons, beq_self_eq_true, Option.map_some, Bool.false_eq_true]
    · have hy' : (y == n) = false := by simpa using hy
      by_cases hc : (k == NameKind.free && env.scope.kind == .function && env.kindOf n == some .cell) = true
      · simp only [hc, if_true, List.lookup_cons, hy']
        exact ih
      · simp only [hc, if_false, List.lookup_cons, hy', Bool.false_eq_true]
        exact ih
theorem lookup_mem {κ : Type} : ∀ {l : List (Str × κ)} {y : Str} {k : κ}, l.lookup y = some k → (y, k) ∈ l := fun h => PySem.mem_of_lookup h

noncomputable abbrev cxComp (X : Cx) (N' : List Str) (scope : Scope) (cl : List (Str × Addr)) (C : Addr) (s : Shared) (H : Hp) (fp : List Addr) : Cx :=
  { X with env := compEnvC scope cl C X.env, N := N', s₀ := s, H₀ := H, outer := X.stack, stack := X.stack, ex := fp, fn := fun _ => false, xe := fun _ _ => False }

noncomputable abbrev tstF (cds : List Expr) (env : Env) : Sem Bool := forIn cds true fun c r => if r = true then do let ok ← isTrue c env (eval c env); pure (ForInStep.yield ok) else pure (ForInStep.yield r)
noncomputable def PTL (X : Cx) (cds : List Expr) (t : TT) : Prop :=
  ∀ (pins : List (Addr × Obj)) (s : Shared) (σ : St) (H : Hp) (Q : Bool → Hp → Prop), Inv X pins σ H s → t σ H Q → wpAny (model X.prog X.w) X.A (tstF cds X.env) (TP X pins σ Q) X.xe s
theorem ptl_nil {X : Cx} : PTL X [] (fun _ H k => k true H) := fun pins s σ H Q I q => wpAny_tests_nil ⟨H, I, q⟩
theorem ptl_one {X : Cx} {cd : Expr} {tc : TT} (h : PT X cd tc) : PTL X [cd] tc := fun pins s σ H Q I q => wpAny_tests_one (h pins s σ H Q I q)
theorem codeAny_compLoop_ts {prog : Program} {w : World} {A : Around} {R : Result → Shared → Prop} {s : Shared} {elt target iter : Expr} {cds : List Expr} {scope : Scope} {pos : Pos} {it acc : Value} {env : Env} (I : Nat → Shared → Prop)
    (turn : ∀ n s, I n s → wpAny (model prog w) A (pyNext it) (fun r s₁ => match r with
      | none => R (.ok .next) s₁
      | some v => wpAny (model prog w) A (letOwnedTupleGo target it v) (fun _ s₁' => wpAny (model prog w) A (assign target env v) (fun _ s₂ => wpAny (model prog w) A (tstF cds env) (fun ok s₂' =>
          if ok = true then wpAny (model prog w) A (eval elt env) (fun x s₃ =>
            wpAny (model prog w) A (call (.builtin "list.append") [acc, x]) (fun _ s₄ => ∃ m, m < n ∧ I m s₄) (fun _ _ => False) s₃) (fun _ _ => False) s₂'
          else ∃ m, m < n ∧ I m s₂') (fun _ _ => False) s₂) (fun _ _ => False) s₁') (fun _ _ => False) s₁) (fun _ _ => False) s)
    (n : Nat) (h : I n s) :
    codeAny (model prog w) A (.compLoop (.ListComp elt [⟨target, iter, cds, 0⟩] scope pos) 0 it acc env) R s := by
  refine codeAny_loop rfl I (fun n s hI => ?_) n h
  show wpAny _ A ((compTurn (.ListComp elt [⟨target, iter, cds, 0⟩] scope pos) 0 it acc env).onRaise (fun x => do noteFrame x env; theTreesLotGoes x)) _ _ s
  refine wpAny_noted ?_
  rw [compTurn_list]
  refine wpAny_bind (wpAny_standAt (wpAny_bind (wpAny_mono (turn n s hI) (fun r s₁ h₁ => ?_) fun _ _ h' => h'.elim)))
  cases r with
  | none => exact wpAny_pure h₁
  | some v =>
    refine wpAny_bind (wpAny_mono h₁ (fun _ s₀ h₀ => ?_) fun _ _ h' => h'.elim)
    refine wpAny_bind (wpAny_mono h₀ (fun _ s₂ h₂ => ?_) fun _ _ h' => h'.elim)
    refine wpAny_bind ((wpAny_mono h₂ (fun ok s₃ h₃ => ?_) fun _ _ h' => h'.elim))
    cases ok with
    | false => exact wpAny_pure ⟨rfl, by simpa using h₃⟩
    | true =>
      have h₃' := h₃
      simp only [if_true] at h₃'
      exact wpAny_bind (wpAny_bind (wpAny_mono h₃' (fun x s₄ h₄ => wpAny_bind (wpAny_mono h₄ (fun _ s₅ h₅ => wpAny_pure (wpAny_pure ⟨rfl, h₅⟩)) fun _ _ h' => h'.elim)) fun _ _ h' => h'.elim))
noncomputable def compAt (te : TE) (σ : St) (Q : VK) (J : It) (H1 : Hp) : Prop := ∀ D, H1 D = none → ∃ W : Nat → Nat → List V → Hp → Prop, (∃ m, W 0 m [] (upd H1 D (.lst []))) ∧ ∀ i m ys H2, W i m ys H2 →
  (J.stop i H2 ∧ Q (.ref D) H2) ∨ (J.go i H2 ∧ ys.length < sizeLine ∧ ∃ N : V → Hp → Prop, (∀ v H', N v H' → H' D = some (.lst ys) ∧ ∃ m', m' < m ∧ W (i + 1) m' (ys ++ [v]) (upd H' D (.lst (ys ++ [v])))) ∧
    ∀ y H', J.yld i H2 y H' → te (some y :: σ) H' N)
noncomputable def tComp (wi : TI) (te : TE) : TE := fun σ H Q => wi σ H (compAt te σ Q)

noncomputable def compAtF (tc : TT) (te : TE) (σ : St) (Q : VK) (J : It) (H1 : Hp) : Prop := ∀ D, H1 D = none → ∃ W : Nat → Nat → List V → Hp → Prop, (∃ m, W 0 m [] (upd H1 D (.lst []))) ∧ ∀ i m ys H2, W i m ys H2 →
  (J.stop i H2 ∧ Q (.ref D) H2) ∨ (J.go i H2 ∧ ys.length < sizeLine ∧ ∃ N : V → Hp → Prop, (∀ v H', N v H' → H' D = some (.lst ys) ∧ ∃ m', m' < m ∧ W (i + 1) m' (ys ++ [v]) (upd H' D (.lst (ys ++ [v])))) ∧
    ∃ Nn : Hp → Prop, (∀ H', Nn H' → ∃ m', m' < m ∧ W (i + 1) m' ys H') ∧
    ∀ y H', J.yld i H2 y H' → tc (some y :: σ) H' fun b H'' => if b = true then te (some y :: σ) H'' N else Nn H'')
noncomputable def tCompF (wi : TI) (tc : TT) (te : TE) : TE := fun σ H Q => wi σ H (compAtF tc te σ Q)

section
variable {X : Cx} {N' : List Str} {scope : Scope} {x : Str} {px : Pos} {elt iter : Expr} {cds : List Expr} {pos : Pos} {te : TE} {tc : TT} {wi : TI}

theorem compx_core (S : CompSc X.N N' X.env.scope scope x) (hc : X.calm = true) (ht : ∀ cl C s H fp, PTL (cxComp X N' scope cl C s H fp) cds tc) (he : ∀ cl C s H fp, PE (cxComp X N' scope cl C s H fp) elt te)
    {pins : List (Addr × Obj)} {σ : St} {H : Hp} {s : Shared} {Q : VK} {E : Value → Shared → Prop} {RR : Value → Addr → Result → Shared → Prop} {it : Addr} {fp : List Addr} {tn : Nat → Heap → Prop} {J : It}
    (I : Inv X pins σ H s) (T : Turn X.prog X.w X.K (.Name x px) J fp it tn) (st : tn 0 s.heap) (f2 : ∀ b ∈ fp, FpOk X pins H b)
    (hw : compAtF tc te σ Q J H)
    (hRR : ∀ D C s' H', Inv X pins σ H' s' → (∃ m, s'.heap.Ns C m) → C ≠ X.env.locals → (∀ y c, X.env.cells.lookup y = some c → c ≠ C) → H' C = none → X.s₀.heap.objs.size ≤ C → (∀ p ∈ X.pn ++ pins, p.1 ≠ C) → Q (.ref D) H' → RR (.ref D) C (.ok .next) s') :
    ∃ cl, closureFor scope X.env = pure cl ∧ wpAny (model X.prog X.w) X.A (newList []) (fun acc s₃ => wpAny (model X.prog X.w) X.A (newFunctionEnv scope X.env.globals cl [] X.env.qual none .none (some X.env)) (fun cenv s₄ =>
      codeAny (model X.prog X.w) X.A (.compStart (.ListComp elt [⟨.Name x px, iter, cds, 0⟩] scope pos) 0 (.ref it) acc { cenv with scope := relabel scope X.env }) (RR acc cenv.locals) s₄) E s₃) E s := by
  have hfree : ∀ z ∈ scope.names, z.2 = .free → ∃ c, X.env.cells.lookup z.1 = some c := fun z hz hk => by
    rcases S.ok z hz hk with q | q
    · exact I.ok.has z.1 (.inl q)
    · exact I.ok.has z.1 (.inr q)
  refine ⟨_, clos_eq hfree, ?_⟩
  have clS : ∀ y c, (closOf X.env.cells scope.names []).lookup y = some c → X.env.cells.lookup y = some c := fun y c => clos_sound scope.names [] hfree fun q => by cases q
  generalize hcl : closOf X.env.cells scope.names [] = cl at clS
  have clH : ∀ y, scope.names.lookup y = some .free → ∃ c, cl.lookup y = some c := fun y hy => by
    rw [← hcl]
    exact clos_has scope.names [] (lookup_mem hy)
  refine wpAny_newObj_type (wpAny_newFunctionEnv S.cell (by intro y hy; simp at hy) (fun h₁ hns₁ hsb₁ => ?_) S.kind)
  have I3 : Inv X pins σ (upd H s.heap.objs.size (.lst [])) { s with heap := s.heap.push { cls := .type "list", data := .seq ([] : List Value).toArray } } := I.lnew (t' := s.toks) .nil (Nat.zero_le _)
  obtain ⟨W, ⟨m0, w0⟩, turn⟩ := hw s.heap.objs.size I.fresh
  dsimp only at hns₁ hsb₁ ⊢
  generalize hs3 : ({ s with heap := s.heap.push { cls := .type "list", data := .seq ([] : List Value).toArray } } : Shared) = s3 at I3
  have hh3 : s3.heap = s.heap.push { cls := .type "list", data := .seq ([] : List Value).toArray } := by rw [← hs3]
  have hsz3 : s3.heap.objs.size = s.heap.objs.size + 1 := by rw [hh3, Heap.size_push]
  rw [← hh3] at hns₁ hsb₁ ⊢
  have old : ∀ b o, s3.heap.get? b = some o → h₁.get? b = some o := fun b o e => hsb₁.extBut b o (by have := Heap.lt_size e; exact Nat.ne_of_lt this) (Heap.get?_push_of_some _ e)
  have old0 : ∀ b o, s.heap.get? b = some o → h₁.get? b = some o := fun b o e => old b o (by rw [hh3]; exact Heap.get?_push_of_some _ e)
  have CneL : s3.heap.objs.size ≠ X.env.locals := Nat.ne_of_gt I3.lt
  have CneC : ∀ y c, X.env.cells.lookup y = some c → c ≠ s3.heap.objs.size := fun y c e z => by
    obtain ⟨v, q⟩ := I3.cell y c e
    have := q.lt
    rw [z] at this
    exact absurd this (Nat.lt_irrefl _)
  have CneP : ∀ p ∈ X.pn ++ pins, p.1 ≠ s3.heap.objs.size := fun p hp z => by
    have := Heap.lt_size (I3.pin p hp).1
    rw [z] at this
    exact absurd this (Nat.lt_irrefl _)
  have CfreeH : ∀ b o, s3.heap.get? b = some o → b < s3.heap.objs.size := fun b o e => by have := Heap.lt_size e; exact this
  have fpLt : ∀ b ∈ fp, b < s3.heap.objs.size := fun b hb => by
    obtain ⟨o, e, _⟩ := T.obj 0 s.heap st b hb
    rw [hsz3]
    exact Nat.lt_succ_of_lt (Heap.lt_size e)
  have fpD : ∀ b ∈ fp, b ≠ s.heap.objs.size := fun b hb => by
    obtain ⟨o, e, _⟩ := T.obj 0 s.heap st b hb
    exact Nat.ne_of_lt (Heap.lt_size e)

  have ok' : (cxComp X N' scope cl s3.heap.objs.size s3 (upd H s.heap.objs.size (.lst [])) fp).Ok := by
    refine ⟨I3.ok.mod, ?_, I3.ok.glob, I3.ok.blt, Nat.le_refl _, fun y z c h1 h2 => I3.ok.inj y z c (clS y c h1) (clS z c h2), fun y hy => ?_, fun y c hf => (by cases hf), I3.ok.hd, I3.ok.frames, .inl rfl, fun b hb => ⟨Nat.ne_of_lt (fpLt b hb), fun y c e => (f2 b hb).2.2.2.2.1 y c (clS y c e)⟩,
      fun b o e => I3.bs b o e, Nat.le_trans I3.ok.bsz I3.sz, fun b o e hb => ?_, fun b hb z => ?_, I3.stack, I3.stkFree⟩
    · show (relabel scope X.env).kind = .function
      exact S.kind
    · have hy' : (relabel scope X.env).names.lookup y = some .cell ∨ (relabel scope X.env).names.lookup y = some .free := hy
      rw [relabel_lookup] at hy'
      cases q : scope.names.lookup y with
      | none => rw [q] at hy'; rcases hy' with z | z <;> cases z
      | some k =>
        have hm := lookup_mem q
        cases k with
        | free => exact clH y q
        | cell => exact absurd rfl (S.cell _ hm)
        | «local» => rw [q] at hy'; rcases hy' with z | z <;> simp at z
        | globalExplicit => rw [q] at hy'; rcases hy' with z | z <;> simp at z
        | globalImplicit => rw [q] at hy'; rcases hy' with z | z <;> simp at z
    · rcases (f2 b hb).2.2.2.1 with z | z
      · exact I.ok.noex b o e z
      · exact absurd (Nat.lt_of_lt_of_le (Heap.lt_size e) (Nat.le_trans I.ok.bsz z)) (Nat.lt_irrefl _)
    · rcases List.mem_cons.mp (I3.stkSub b z) with q | q
      · exact (f2 b hb).2.1 q
      · exact (f2 b hb).2.2.1 q
  have fpOk' : ∀ {H' : Hp}, (∀ b ∈ fp, H' b = none) → ∀ b ∈ fp, FpOk (cxComp X N' scope cl s3.heap.objs.size s3 (upd H s.heap.objs.size (.lst [])) fp) pins H' b := fun hn b hb =>
    ⟨hn b hb, Nat.ne_of_lt (fpLt b hb), fun z => by
      rcases List.mem_cons.mp (I3.stkSub b z) with q | q
      · exact (f2 b hb).2.1 q
      · exact (f2 b hb).2.2.1 q, .inl hb, fun y c e => (f2 b hb).2.2.2.2.1 y c (clS y c e), (f2 b hb).2.2.2.2.2⟩
  have I4 : Inv (cxComp X N' scope cl s3.heap.objs.size s3 (upd H s.heap.objs.size (.lst [])) fp) pins (none :: σ) (upd H s.heap.objs.size (.lst [])) { s3 with heap := h₁, toks := s3.toks + ([] : List (Str × Value)).length } := by
    refine ⟨ok', rfl, I3.bare, Un.kept old, ⟨_, hns₁, fun i y v e1 e2 vis => ?_⟩, fun y c e => ?_, ?_, fun y c e => I3.freeC y c (clS y c e), fun p hp => ?_, I3.hok.kept old, ?_⟩
    · cases i with
      | zero => cases e2
      | succ i =>
        have e2' : σ[i]? = some (some v) := by simpa using e2
        have hi : i < X.N.length := by rw [← I3.len]; exact (List.getElem?_eq_some_iff.mp e2').1
        have vis' : (relabel scope X.env).names.lookup y = some .local ∨ (relabel scope X.env).names.lookup y = some .cell ∨ (relabel scope X.env).names.lookup y = some .free := vis
        have e1' : N'[i + 1]? = some y := e1
        rcases S.sub i hi with q | q
        · rw [e1'] at q
          have hy : X.N[i]? = some y := q.symm
          have hmem : y ∈ N'.tail := by
            rw [List.mem_iff_getElem?]
            exact ⟨i, by rw [List.getElem?_tail]; exact e1'⟩
          have hfr : scope.names.lookup y = some .free := by
            rw [relabel_lookup] at vis'
            cases q2 : scope.names.lookup y with
            | none => rw [q2] at vis'; rcases vis' with z | z | z <;> cases z
            | some k =>
              cases k with
              | free => rfl
              | cell => exact absurd rfl (S.cell _ (lookup_mem q2))
              | «local» => exact absurd q2 (S.nol y hmem)
              | globalExplicit => rw [q2] at vis'; rcases vis' with z | z | z <;> simp at z
              | globalImplicit => rw [q2] at vis'; rcases vis' with z | z | z <;> simp at z
          have hok := S.ok (y, .free) (lookup_mem hfr) rfl
          obtain ⟨m, hn, hl⟩ := I3.loc
          have visX : Vis X.env.scope y := by
            rcases hok with z | z
            · exact .inr (.inl z)
            · exact .inr (.inr z)
          obtain ⟨u, r, l⟩ := hl i y v hy e2' visX
          refine ⟨u, r, .inr ⟨?_, ?_⟩⟩
          · show (relabel scope X.env).names.lookup y = some .cell ∨ (relabel scope X.env).names.lookup y = some .free
            rw [relabel_lookup, hfr, Option.map_some]
            by_cases hcnd : (NameKind.free == NameKind.free && X.env.scope.kind == .function && X.env.kindOf y == some .cell) = true
            · left
              rw [if_pos hcnd]
            · right
              rw [if_neg hcnd]
          · rcases l with ⟨k, _⟩ | ⟨k, c, e, z⟩
            · have k' : X.env.scope.names.lookup y = some .local := k
              have hok' : X.env.scope.names.lookup y = some .cell ∨ X.env.scope.names.lookup y = some .free := hok
              rw [k'] at hok'
              rcases hok' with z | z <;> cases z
            · obtain ⟨c', e'⟩ := clH y hfr
              have e3 := clS y c' e'
              rw [e] at e3
              cases e3
              obtain ⟨o, ho, hd⟩ := z
              exact ⟨c, e', o, old c o ho, hd⟩
        · rw [e1'] at q
          have q : scope.names.lookup y = none := Option.some.inj q
          rw [relabel_lookup, q] at vis'
          rcases vis' with z | z | z <;> cases z
    · obtain ⟨v, o, ho, hd⟩ := I3.cell y c (clS y c e)
      exact ⟨v, o, old c o ho, hd⟩
    · show upd H s.heap.objs.size (.lst []) s3.heap.objs.size = none
      exact I3.hok.fresh (Nat.le_refl _)
    · obtain ⟨e, n, ne, nf, d⟩ := I3.pin p hp
      refine ⟨old _ _ e, n, CneP p hp, fun z => ?_, d⟩
      rcases List.mem_cons.mp (I3.stkSub p.1 z) with q | q
      · exact ne q
      · exact nf q
    · show (none :: σ).length = N'.length
      rw [S.len, List.length_cons, I3.len]
  have st4 : tn 0 h₁ := T.keep 0 s.heap h₁ st fun b _ o e => old0 b o e

  have loop : ∀ s₄ : Shared, s₄ = { s3 with heap := h₁, toks := s3.toks + ([] : List (Str × Value)).length } →
      codeAny (model X.prog X.w) X.A (.compLoop (.ListComp elt [⟨.Name x px, iter, cds, 0⟩] scope pos) 0 (.ref it) (.ref s.heap.objs.size) (compEnvC scope cl s3.heap.objs.size X.env)) (RR (.ref s.heap.objs.size) s3.heap.objs.size) s₄ := by
    rintro s₄ rfl
    refine codeAny_compLoop_ts (fun n s' => ∃ i v0 ys H', Inv (cxComp X N' scope cl s3.heap.objs.size s3 (upd H s.heap.objs.size (.lst [])) fp) pins (v0 :: σ) H' s' ∧ tn i s'.heap ∧ (∀ b ∈ fp, H' b = none) ∧ W i n ys H') ?_ m0
      ⟨0, none, [], _, I4, st4, fun b hb => by rw [upd_ne (fpD b hb)]; exact (f2 b hb).1, w0⟩
    rintro n s5 ⟨i, v0, ys, H5, I5, st5, fr5, w5⟩
    rcases turn i n ys H5 w5 with ⟨stop, qn⟩ | ⟨go, hz, N, hN, Nn, hNn, step⟩
    · refine thn (T.done (cxComp X N' scope cl s3.heap.objs.size s3 (upd H s.heap.objs.size (.lst [])) fp) rfl rfl rfl hc i pins s5 (v0 :: σ) H5 (fun _ _ => False) I5 (fpOk' fr5) st5 stop) fun r s6 ⟨hr, I6⟩ => ?_
      subst hr
      have hch : ∀ b ∈ fp, (b ∈ X.ex ∨ X.s₀.heap.objs.size ≤ b) ∧ b ≠ X.env.locals ∧ (∀ x c, X.env.cells.lookup x = some c → c ≠ b) ∧ ∀ p ∈ X.pn ++ pins, p.1 ≠ b := fun b hb =>
        ⟨(f2 b hb).2.2.2.1, (f2 b hb).2.1, (f2 b hb).2.2.2.2.1, (f2 b hb).2.2.2.2.2⟩
      have I7 : Inv X pins σ H5 s6 := I3.call' (ch := fp) I6.os I6.base I6.hok I6.bare hch
      obtain ⟨m, hm, _⟩ := I6.loc
      exact hRR s.heap.objs.size s3.heap.objs.size s6 H5 I7 ⟨m, hm⟩ CneL CneC I6.free (Nat.le_trans I3.sz (Nat.le_refl _)) CneP qn
    · refine thn (T.item (cxComp X N' scope cl s3.heap.objs.size s3 (upd H s.heap.objs.size (.lst [])) fp) rfl rfl rfl hc i pins s5 (v0 :: σ) H5 (fun _ _ => False) I5 (fpOk' fr5) st5 go) fun r s6 ⟨u, hr, h6⟩ => ?_
      subst hr
      refine thn h6 fun _ s7 ⟨y, H7, I7, r7, y7, st7, fr7⟩ => ?_
      have I7' := I7.pinned (fpOk' fr7) (T.obj _ _ st7)
      refine wpAny_assign_Name (store_ok (i := 0) (v := y) I7' S.nd S.hd (.inl (lookup_relabel_local S.var)) r7 (fun s8 I8 => ?_) (.inr (lookup_relabel_local S.var)))
      have I8' : Inv (cxComp X N' scope cl s3.heap.objs.size s3 (upd H s.heap.objs.size (.lst [])) fp) (pins ++ pinsAt fp s7.heap) (some y :: σ) H7 s8 := I8
      refine thn (ht cl s3.heap.objs.size s3 (upd H s.heap.objs.size (.lst [])) fp _ s8 (some y :: σ) H7 (fun b H'' => if b = true then te (some y :: σ) H'' N else Nn H'') I8' (step y H7 y7)) fun okb s8 ⟨H8, I8, q8⟩ => ?_
      cases okb with
      | false =>
        have q8' : Nn H8 := by simpa using q8
        obtain ⟨m', hm, w9⟩ := hNn H8 q8'
        refine ⟨m', hm, i + 1, some y, ys, _, I8.unpinned, T.keep _ _ _ st7 fun b hb o e => (I8.pin (b, o) (List.mem_append_right _ (List.mem_append_right _ (mem_pinsAt hb e)))).1, fun b hb => ?_, w9⟩
        obtain ⟨o, e, d⟩ := T.obj _ _ st7 b hb
        exact (I8.pin (b, o) (List.mem_append_right _ (List.mem_append_right _ (mem_pinsAt hb e)))).2.1
      | true =>
        refine thn (he cl s3.heap.objs.size s3 (upd H s.heap.objs.size (.lst [])) fp _ s8 (some y :: σ) H8 N I8 (by simpa using q8)) fun w s9 ⟨v, H9, I9, r9, q9⟩ => ?_
        obtain ⟨hD9, m', hm, w9⟩ := hN v H9 q9
        refine thn (mt_append _ s9 (some y :: σ) H9 (.ref s.heap.objs.size) [v] (.ref s.heap.objs.size) [w] (fun z H10 => z = .non ∧ H10 = upd H9 s.heap.objs.size (.lst (ys ++ [v]))) I9 rfl (.cons r9 .nil) ⟨s.heap.objs.size, ys, v, rfl, rfl, hD9, hz, rfl, rfl⟩) fun _ s10 ⟨z, H10, I10, _, ez, e10⟩ => ?_
        subst e10
        refine ⟨m', hm, i + 1, some y, ys ++ [v], _, I10.unpinned, T.keep _ _ _ st7 fun b hb o e => (I10.pin (b, o) (List.mem_append_right _ (List.mem_append_right _ (mem_pinsAt hb e)))).1, fun b hb => ?_, w9⟩
        obtain ⟨o, e, d⟩ := T.obj _ _ st7 b hb
        exact (I10.pin (b, o) (List.mem_append_right _ (List.mem_append_right _ (mem_pinsAt hb e)))).2.1
  exact codeAny_compStart_list (loop _ (by rw [← hs3])) (T.self X.A 0 _ _ _ st4 (loop _ (by rw [← hs3])))
theorem compAt.toF {te : TE} {σ : St} {Q : VK} {J : It} {H : Hp} (hw : compAt te σ Q J H) : compAtF (fun _ H k => k true H) te σ Q J H := fun D hD => by
  obtain ⟨W, h0, hW⟩ := hw D hD
  refine ⟨W, h0, fun i m ys H2 hw2 => ?_⟩
  rcases hW i m ys H2 hw2 with g | ⟨g1, g2, N, g3, g4⟩
  · exact .inl g
  · exact .inr ⟨g1, g2, N, g3, fun _ => False, fun _ z => z.elim, fun y H' hy => iteT (g4 y H' hy)⟩
theorem pe_compx {at' : St → VK → It → Hp → Prop} (S : CompSc X.N N' X.env.scope scope x) (hc : X.calm = true) (hi : PI X (.Name x px) iter wi) (ht : ∀ cl C s H fp, PTL (cxComp X N' scope cl C s H fp) cds tc) (he : ∀ cl C s H fp, PE (cxComp X N' scope cl C s H fp) elt te) (cv : ∀ σ Q J H, at' σ Q J H → compAtF tc te σ Q J H)
    (hs : ∀ x, foldedSetIterable iter X.env x = pure x := by intro _; rfl) : PE X (.ListComp elt [⟨.Name x px, iter, cds, 0⟩] scope pos) (fun σ H Q => wi σ H (at' σ Q)) := by
  intro pins s σ H Q I h
  rw [eval_ListComp]
  have hfree : ∀ z ∈ scope.names, z.2 = .free → ∃ c, X.env.cells.lookup z.1 = some c := fun z hz hk => by
    rcases S.ok z hz hk with q | q
    · exact I.ok.has z.1 (.inl q)
    · exact I.ok.has z.1 (.inr q)
  refine wpAny_comprehension_free (use := none) rfl hs (clos_eq hfree) S.kind S.names (thn (hi pins s σ H _ I h) fun xv s1 h1 => thn h1 fun itv s2 h2 => ?_)
  obtain ⟨it, fp, tn, J, H2, e, I2, T, st2, f2, hw⟩ := h2
  subst e
  obtain ⟨cl, hcl, hrun⟩ := compx_core (tc := tc) (cds := cds) (elt := elt) (iter := iter) (pos := pos) (px := px) (E := X.xe) (RR := fun acc C => compPost (model X.prog X.w) X.A X.xe none (EP X pins σ Q) acc C) S hc ht he I2 T st2 f2 (cv _ _ _ _ hw) (fun D C s' H' I' ⟨m, hm⟩ n1 n2 n3 n4 n5 q =>
    ⟨m, hm, fun h' hsb => ⟨.ref D, H', I'.turned (it := C) (t' := s'.toks) (fun b o hb e => (hsb.2 b hb).trans e) n3 n1 (.inr n4) n2 n5, rfl, q⟩⟩)
  have ecl : (pure (closOf X.env.cells scope.names []) : Sem (List (Str × Addr))) = pure cl := (clos_eq hfree).symm.trans hcl
  have ecl' : closOf X.env.cells scope.names [] = cl := by
    injection ecl
  rw [ecl']
  exact hrun
theorem ps_setCompx {at' : St → VK → It → Hp → Prop} {i : Nat} {y : Str} {py spos : Pos} (S : CompSc X.N N' X.env.scope scope x) (hc : X.calm = true) (hi : PI X (.Name x px) iter wi) (ht : ∀ cl C s H fp, PTL (cxComp X N' scope cl C s H fp) cds tc) (he : ∀ cl C s H fp, PE (cxComp X N' scope cl C s H fp) elt te) (cv : ∀ σ Q J H, at' σ Q J H → compAtF tc te σ Q J H)
    (hN : X.N.Nodup) (hy : X.N[i]? = some y) (hyl : X.env.scope.names.lookup y = some .local)
    (hsw : swapsWith (.ListComp elt [⟨.Name x px, iter, cds, 0⟩] scope pos) (some (.Name y py)) spos.line X.env = pure true := by rfl)
    (hs : ∀ x, foldedSetIterable iter X.env x = pure x := by intro _; rfl) : PS X (.Assign [.Name y py] (.ListComp elt [⟨.Name x px, iter, cds, 0⟩] scope pos) spos) (tAsg (fun σ H Q => wi σ H (at' σ Q)) (gName i)) := by
  intro pins s σ H D0 I h
  have hfree : ∀ z ∈ scope.names, z.2 = .free → ∃ c, X.env.cells.lookup z.1 = some c := fun z hz hk => by
    rcases S.ok z hz hk with q | q
    · exact I.ok.has z.1 (.inl q)
    · exact I.ok.has z.1 (.inr q)
  rw [exec_Assign_Name_used _ _ _ _ hsw]
  refine wpAny_bind (wpAny_standAt (wpAny_bind ?_))
  show wpAny _ X.A (do let _ ← comprehension (.ListComp elt [⟨.Name x px, iter, cds, 0⟩] scope pos) scope X.env _ (newList []) false (eval iter X.env) (some (assign (.Name y py) X.env))) _ _ s
  refine wpAny_bind (wpAny_mono (wpAny_comprehension_free (use := some (assign (.Name y py) X.env)) (Q := fun _ s' => SP X pins D0 .next s') rfl hs (clos_eq hfree) S.kind S.names
    (thn (hi pins s σ H _ I h) fun xv s1 h1 => thn h1 fun itv s2 h2 => ?_)) (fun _ s' hq => wpAny_pure (wpAny_pure hq)) fun _ _ e => e)
  obtain ⟨it, fp, tn, J, H2, e, I2, T, st2, f2, hw⟩ := h2
  subst e
  obtain ⟨cl, hcl, hrun⟩ := compx_core (tc := tc) (cds := cds) (elt := elt) (iter := iter) (pos := pos) (px := px) (E := X.xe) (Q := fun x H1 => gName i x σ H1 D0.nx) (RR := fun acc C => compPost (model X.prog X.w) X.A X.xe (some (assign (.Name y py) X.env)) (fun _ s' => SP X pins D0 .next s') acc C) S hc ht he I2 T st2 f2 (cv _ _ _ _ hw) (fun D C s' H' I' ⟨m, hm⟩ n1 n2 n3 n4 n5 q => by
    show wpAny _ X.A (assign (.Name y py) X.env (.ref D)) _ _ _
    refine wpAny_assign_Name (store_ok2 (i := i) (v := .ref D) I' hN hy (.inl hyl) rfl (fun s'' I'' ⟨a, hsa, hwa⟩ => ?_) (.inr hyl))
    have haC : C ≠ a := by
      rcases hwa with z | z
      · rw [z]; exact n1
      · intro z2
        exact n2 y a z z2.symm
    refine ⟨m, hm.sameBut hsa haC, fun h' hsb => ?_⟩
    exact ⟨_, H', I''.turned (it := C) (t' := s''.toks) (fun b o hb e => (hsb.2 b hb).trans e) n3 n1 (.inr n4) n2 n5, q⟩)
  have ecl : (pure (closOf X.env.cells scope.names []) : Sem (List (Str × Addr))) = pure cl := (clos_eq hfree).symm.trans hcl
  have ecl' : closOf X.env.cells scope.names [] = cl := by
    injection ecl
  rw [ecl']
  exact hrun
theorem pe_comp (S : CompSc X.N N' X.env.scope scope x) (hc : X.calm = true) (hi : PI X (.Name x px) iter wi) (he : ∀ cl C s H fp, PE (cxComp X N' scope cl C s H fp) elt te)
    (hs : ∀ x, foldedSetIterable iter X.env x = pure x := by intro _; rfl) : PE X (.ListComp elt [⟨.Name x px, iter, [], 0⟩] scope pos) (tComp wi te) :=
  pe_compx (at' := fun σ Q => compAt te σ Q) S hc hi (fun _ _ _ _ _ => ptl_nil) he (fun _ _ _ _ h => h.toF) hs
theorem ps_setComp {i : Nat} {y : Str} {py spos : Pos} (S : CompSc X.N N' X.env.scope scope x) (hc : X.calm = true) (hi : PI X (.Name x px) iter wi) (he : ∀ cl C s H fp, PE (cxComp X N' scope cl C s H fp) elt te)
    (hN : X.N.Nodup) (hy : X.N[i]? = some y) (hyl : X.env.scope.names.lookup y = some .local)
    (hsw : swapsWith (.ListComp elt [⟨.Name x px, iter, [], 0⟩] scope pos) (some (.Name y py)) spos.line X.env = pure true := by rfl)
    (hs : ∀ x, foldedSetIterable iter X.env x = pure x := by intro _; rfl) : PS X (.Assign [.Name y py] (.ListComp elt [⟨.Name x px, iter, [], 0⟩] scope pos) spos) (tAsg (tComp wi te) (gName i)) :=
  ps_setCompx (at' := fun σ Q => compAt te σ Q) S hc hi (fun _ _ _ _ _ => ptl_nil) he (fun _ _ _ _ h => h.toF) hN hy hyl hsw hs
end

theorem comp_range {lo : Int} {n : Nat} {te : TE} {σ : St} {H : Hp} {Q : VK} (f : Nat → V) (hn : n ≤ sizeLine)
    (he : ∀ i H', i < n → Same H H' → ∀ N : V → Hp → Prop, (∀ H'', Same H' H'' → N (f i) H'') → te (some (.int (lo + i)) :: σ) H' N)
    (hq : ∀ D H', H D = none → Same H H' → H' D = some (.lst ((List.range n).map f)) → Q (.ref D) H') :
    compAt te σ Q (Itr lo n) H := by
  intro D hD
  refine ⟨fun i m ys H2 => m = n - i ∧ i ≤ n ∧ ys = (List.range i).map f ∧ Same H H2 ∧ H2 D = some (.lst ys), ⟨n, rfl, Nat.zero_le _, rfl, fun b o e => ?_, upd_same⟩, ?_⟩
  · rw [upd_ne (ne_of_none e hD)]
    exact e
  · rintro i m ys H2 ⟨rfl, hi, rfl, hs, hd⟩
    by_cases hlt : i < n
    · refine .inr ⟨hlt, by rw [List.length_map, List.length_range]; omega, fun v H' => v = f i ∧ Same H2 H', fun v H' ⟨ev, hs'⟩ => ⟨hs' D _ hd, n - (i + 1), by omega, rfl, hlt, ?_, fun b o e => ?_, upd_same⟩, fun y H' hy => ?_⟩
      · rw [ev, List.range_succ, List.map_append]
        rfl
      · rw [upd_ne (ne_of_none e hD)]
        exact hs' b o (hs b o e)
      · obtain ⟨e1, e2⟩ := hy
        subst e1 e2
        exact he i _ hlt hs _ fun H'' h'' => ⟨rfl, h''⟩
    · have e : i = n := by omega
      subst e
      exact .inl ⟨Nat.le_refl _, hq D H2 hD hs hd⟩
end L2

set_option Elab.async false
set_option linter.all false
set_option maxRecDepth 100000
set_option maxHeartbeats 4000000

namespace L2
open PySem PySem.Spec PyProof.Rows

set_option genInjectivity false in
structure Cal (P : Program) (w : World) (K : PySem.W.Frag) (mg : Str → Option Value) (base : Heap) (CX : CXT) (x : Str) (k : Nat) (ps : List Str) (sp : Sp) : Prop where
  ex : ∃ (f : Addr) (fd : FuncData), FnOk P w K mg base CX k f fd ps sp ∧ mg x = some (.ref f) ∧ PySem.W.keepIn K (.ref f) = true ∧ Binds K fd ps []
section
variable {X : Cx}
theorem pe_cal {CX : CXT} {x : Str} {j k : Nat} {ps : List Str} {sp : Sp} {E : XK} {e : Expr} {es : List Expr} {t : TA} {p pos : Pos} (c : Cal X.prog X.w X.K X.mg X.base CX x j ps sp) (hr : Room k X.A) (hx : Passes CX X E) (ha : PA X (e :: es) t)
    (hjk : j ≤ k := by decide) (hg : Gl X x := by rfl) (hdb : (x == ("__debug__" : Str)) = false := by decide) (he : starEach (e :: es) X.env = (false, eval e X.env) :: starEach es X.env := by rfl) (hpl : (backTo pos (starEach es X.env)).any (·.1) = false := by rfl) :
    PE X (.Call (.Name x p) (e :: es) [] pos) (tCall sp [] E t) := by
  obtain ⟨f, fd, F, hm, hk, hb⟩ := c.ex
  exact pe_call F (hr.mono hjk) hg hm hk hb .nil hx ha hdb he hpl

theorem pe_strT (l : List Nat) {x : Str} {j pos} (h : x = tx l) : PE X (.Constant (.str x) j pos) (tC (T l)) := by
  subst h
  exact pe_str
theorem call_len_T : CallR X (.builtin "len") (fun xs H Q => ∃ (l : List Nat), xs = [T l] ∧ l.length ≤ sizeLine ∧ Q (.int (l.length : Nat)) H) := by
  intro pins s σ H xs us Q I r h
  obtain ⟨l, e, hz, q⟩ := h
  exact call_len_str pins s σ H xs us Q I r ⟨tx l, e, by rw [tx_len]; exact hz, by rw [tx_len]; exact q⟩
theorem ix_T : IxR X (fun x y H Q => ∃ (l : List Nat), x = T l ∧ ∃ (i : Int), y = .int i ∧ l.length ≤ sizeLine ∧ ∃ c, atI l i = some c ∧ Q (T [c]) H) := by
  intro value slice pins s σ H x y v u Q I rx ry h hs
  obtain ⟨l, e1, i, e2, hz, c, hc, q⟩ := h
  exact ix_str value slice pins s σ H x y v u Q I rx ry ⟨tx l, i, c, e1, e2, by rw [tx_len]; exact hz, by rw [tx_cps]; exact hc, q⟩ hs

theorem call_isinst : CallR X (.builtin "isinstance") (fun xs H Q => ∃ (x : V) (c : String) (t : Value) (b : Bool), xs = [x, .ty c] ∧ TyOf X.K H x t ∧ PySem.W.kitOne X.K t (.type c) = some b ∧ Q (.bl b) H) := by
  intro pins s σ H xs us Q I r h
  obtain ⟨x, c, t, b, rfl, ty, e, q⟩ := h
  obtain ⟨u, w', rfl, ru, rw'⟩ := vals2 r
  cases (show w' = Value.type c from rw')
  exact isinst_ok I ru ty e fun tk => ⟨.bl b, H, I.tok tk, rfl, q⟩
theorem kit_same {K : PySem.W.Frag} (T : String) : PySem.W.kitOne K (.type T) (.type T) = some true := by
  unfold PySem.W.kitOne
  rw [if_pos (by simp)]
theorem op_catL : OpR X (binaryOp .Add) (fun x y H Q => ∃ (l b : Addr) (xs zs : List V), x = .ref l ∧ y = .ref b ∧ SqL X.K H l xs ∧ SqL X.K H b zs ∧ xs.length + zs.length ≤ sizeLine ∧ ∀ p, H p = none → Q (.ref p) (upd H p (.lst (xs ++ zs)))) := by
  intro pins s σ H x y v u Q I rx ry h
  obtain ⟨l, b, xs, zs, rfl, rfl, hH, hB, hz, q⟩ := h
  cases rx
  cases ry
  obtain ⟨its, r, ⟨⟨cls, dd, data, sl⟩, n, ho, hc, hdd, hd⟩, _⟩ := I.list hH
  obtain ⟨its2, r2, ⟨⟨cls2, dd2, data2, sl2⟩, n2, ho2, hc2, hdd2, hd2⟩, _⟩ := I.list hB
  simp only at hc hd hc2 hd2
  subst hc hd hc2 hd2
  have e : its.toArray ++ its2.toArray = (its ++ its2).toArray := by simp
  refine concat_meets ⟨_, ho, rfl⟩ ⟨_, ho2, rfl⟩ noFill_list_add seq_list_add PySem.F.slot_list_add PySem.F.entry_list_add (PySem.F.args_list_add_2 _ _) (list_addW l b its.toArray its2.toArray n n2 dd dd2 sl sl2 (by rw [List.size_toArray, List.size_toArray, ← r.length, ← r2.length]; exact hz)) ⟨ho, ho2, ?_⟩
  rw [e]
  exact ⟨.ref _, _, I.lnew (t' := s.toks) (r.append r2) (by rw [List.length_append]; exact hz), rfl, q _ I.fresh⟩

theorem eqAt_T {ls ms : List (List Nat)} {us ws : List Value} (r : Vals (ls.map T) us) (r' : Vals (ms.map T) ws) {A : Around} {s : Shared} {j : Nat} {u w : Value} (hu : us[j]? = some u) (hw : ws[j]? = some w) : SeqAt.EqAt A s u w (decide (ls[j]? = ms[j]?)) := by
  have h1 : j < ls.length := by have := r.length; rw [List.length_map] at this; rw [this]; exact (List.getElem?_eq_some_iff.mp hu).1
  have h2 : j < ms.length := by have := r'.length; rw [List.length_map] at this; rw [this]; exact (List.getElem?_eq_some_iff.mp hw).1
  obtain ⟨u', e1, q1⟩ := r.get (i := j) (x := T ls[j]) (by rw [List.getElem?_map, List.getElem?_eq_getElem h1]; rfl)
  obtain ⟨w', e2, q2⟩ := r'.get (i := j) (x := T ms[j]) (by rw [List.getElem?_map, List.getElem?_eq_getElem h2]; rfl)
  rw [hu] at e1
  cases e1
  rw [hw] at e2
  cases e2
  have e := eqAt_V (A := A) (s := s) q1 q2 rfl rfl
  have ee : eqV (T ls[j]) (T ms[j]) = decide (ls[j]? = ms[j]?) := by
    show (tx ls[j] == tx ms[j]) = _
    rw [Bool.eq_iff_iff, beq_iff_eq, decide_eq_true_iff, List.getElem?_eq_getElem h1, List.getElem?_eq_getElem h2]
    exact ⟨fun h => by rw [tx_inj h], fun h => by rw [Option.some.inj h]⟩
  rw [ee] at e
  exact e
theorem all_range_eq {ls ms : List (List Nat)} (h : ls.length = ms.length) : (List.range ls.length).all (fun j => decide (ls[j]? = ms[j]?)) = decide (ls = ms) := by
  rw [Bool.eq_iff_iff, List.all_eq_true, decide_eq_true_iff]
  constructor
  · intro g
    apply List.ext_getElem?
    intro i
    by_cases hi : i < ls.length
    · exact of_decide_eq_true (g i (List.mem_range.mpr hi))
    · rw [List.getElem?_eq_none (by omega), List.getElem?_eq_none (by omega)]
  · intro g j _
    rw [g]
    exact decide_eq_true rfl
end
end L2

set_option Elab.async false
set_option linter.all false
set_option maxRecDepth 100000
set_option maxHeartbeats 4000000

namespace L2
open PySem PySem.Spec PyProof.Rows

set_option genInjectivity false in
structure Fly (P : Program) (w : World) (outer : List Env) (H : Hp) (s : Shared) (a : Addr) (cls : Value) (H' : Hp) (s' : Shared) : Prop where
  os : s'.os = s.os
  bare : AllBare s'.gens
  ex : ∃ (B : Heap) (t : Addr), Heap.FlyingW B outer a cls (.ref t) s'.heap ∧ HOk P w H' B ∧ (∀ b o, s.heap.get? b = some o → H b = none → b ∉ frs outer → B.get? b = some o) ∧
    ∀ b o, s.heap.get? b = some o → b ∉ frs outer → ∃ o', B.get? b = some o'
  slot : ∀ b o, s.heap.get? b = some o → H b = none → b ∈ frs outer → ∃ sl, s'.heap.get? b = some { o with slots := sl }
  free : ∀ b o, s.heap.get? b = some o → H b = none → H' b = none
  tups : ∀ b xs, H b = some (.tup xs) → H' b = some (.tup xs)
  frzs : ∀ b o u, H b = some (.frz o u) → H' b = some (.frz o u)
  tbls : ∀ b ps, H b = some (.tbl ps) → ∃ more, H' b = some (.tbl (ps ++ more))
noncomputable def CX1 (P : Program) (w : World) : CXT := fun outer H s E e s' => ∃ a cls H', e = .ref a ∧ Fly P w outer H s a cls H' s' ∧ E cls none H'

section
variable {X : Cx} {pins : List (Addr × Obj)} {σ : St} {H H' : Hp} {s s' : Shared} {a : Addr} {cls : Value} {E : Value → Shared → Prop}

set_option genInjectivity false in
structure Own (X : Cx) : Prop where
  stk : X.stack = X.env :: X.outer
  fr : X.env.frame = some X.env.locals
  ex : X.ex = []
theorem Own.frs (O : Own X) {b : Addr} : b ∈ frs X.stack ↔ b = X.env.locals ∨ b ∈ frs X.outer := by
  unfold L2.frs
  rw [O.stk, List.filterMap_cons, O.fr]
  exact List.mem_cons
theorem Inv.oldNe (I : Inv X pins σ H s) {b : Addr} {o : Obj} (e : X.s₀.heap.get? b = some o) : b ≠ X.env.locals := Nat.ne_of_lt (Nat.lt_of_lt_of_le (Heap.lt_size e) I.ok.above)
theorem Inv.hidHok (I : Inv X pins σ H s) : HOk X.prog X.w H (PySem.W.hideAll s.heap (L2.frs X.stack)) := fun b u e =>
  (I.hok b u e).stay (fun c v hc q => PySem.W.hideAll_get _ q fun hm => by
    have n := I.stkFree c hm
    rcases hc with z | z
    · rw [z, e] at n
      cases n
    · rw [z] at n
      cases n) (fun _ q => q) fun _ _ q => q
theorem Fly.raised {args : List Value} {h : Heap} (I : Inv X pins σ H s) (O : Own X) (hx : Heap.MadeExcOf s.heap h a cls args) :
    wpAny (model X.prog X.w) X.A (leaving X.env (.ref a)) (fun _ s'' => Fly X.prog X.w X.outer X.H₀ X.s₀ a cls H s'') E { s with heap := h } := by
  have hst := I.stack
  have hin : ∀ env ∈ X.stack, ∀ b, env.frame = some b → b ∈ L2.frs X.stack := fun env he b hb => List.mem_filterMap.mpr ⟨env, he, hb⟩
  have hl := PySem.W.funFrames_hide hst hin
  rw [O.stk] at hl
  have hfr := I.ok.frames
  rw [O.stk] at hfr
  have noEx : ∀ b, b ∉ X.ex := fun b z => by
    rw [O.ex] at z
    cases z
  refine wpAny_leaves_madeW (s := { s with heap := h }) hfr O.fr (fun b o q => PySem.W.of_hideAll _ q) hl hx fun h' t x1 x2 x3 x4 => ?_
  have notIn : ∀ b o, X.s₀.heap.get? b = some o → b ∉ L2.frs X.outer → b ∉ L2.frs (X.env :: X.outer) := fun b o e nb z => by
    rw [← O.stk] at z
    rcases O.frs.mp z with q | q
    · exact I.oldNe e q
    · exact nb q
  have hokB := I.hidHok
  rw [O.stk] at hokB
  refine ⟨I.os, I.bare, ⟨_, t, x1, hokB, fun b o e n nb => ?_, fun b o e nb => ?_⟩, fun b o e n hb => ?_, fun b o e n => I.base.free b o e n (noEx b), I.base.tups, I.base.frzs, I.base.tbls⟩
  · exact PySem.W.hideAll_get _ (I.base.keep b o e n nb (noEx b)) (notIn b o e nb)
  · obtain ⟨o', e'⟩ := I.base.there b o e (noEx b)
    exact ⟨o', PySem.W.hideAll_get _ e' (notIn b o e nb)⟩
  · obtain ⟨sl, e1⟩ := I.base.slot b o e n hb (noEx b)
    obtain ⟨_, o2, e2, hd⟩ := I.funs.mem hb
    rw [e1] at e2
    cases e2
    obtain ⟨sl2, e3⟩ := x4 b _ (hx.keeps b _ e1) hd
    exact ⟨sl2, e3⟩
theorem Fly.on (I : Inv X pins σ H s) (O : Own X) (Y : Fly X.prog X.w X.stack H s a cls H' s') :
    wpAny (model X.prog X.w) X.A (leaving X.env (.ref a)) (fun _ s'' => Fly X.prog X.w X.outer X.H₀ X.s₀ a cls H' s'') E s' := by
  obtain ⟨B, t, hfl, hokB, kp, th⟩ := Y.ex
  have hfr := I.ok.frames
  rw [O.stk] at hfr hfl
  have noEx : ∀ b, b ∉ X.ex := fun b z => by
    rw [O.ex] at z
    cases z
  have notIn : ∀ b o, X.s₀.heap.get? b = some o → b ∉ L2.frs X.outer → b ∉ L2.frs X.stack := fun b o e nb z => by
    rcases O.frs.mp z with q | q
    · exact I.oldNe e q
    · exact nb q
  refine wpAny_leaves_onW hfr O.fr hfl fun h' x1 x2 => ?_
  refine ⟨Y.os.trans I.os, Y.bare, ⟨B, t, x1, hokB, fun b o e n nb => kp b o (I.base.keep b o e n nb (noEx b)) (I.base.free b o e n (noEx b)) (notIn b o e nb), fun b o e nb => ?_⟩, fun b o e n hb => ?_, fun b o e n => ?_,
    fun b xs q => Y.tups b xs (I.base.tups b xs q), fun b o u q => Y.frzs b o u (I.base.frzs b o u q), fun b ps q => ?_⟩
  · obtain ⟨o', e'⟩ := I.base.there b o e (noEx b)
    exact th b o' e' (notIn b o e nb)
  · obtain ⟨sl, e1⟩ := I.base.slot b o e n hb (noEx b)
    obtain ⟨_, o2, e2, hd⟩ := I.funs.mem hb
    rw [e1] at e2
    cases e2
    obtain ⟨sl2, e3⟩ := Y.slot b _ e1 (I.base.free b o e n (noEx b)) (O.frs.mpr (.inr hb))
    obtain ⟨sl3, e4⟩ := x2 b _ e3 hd
    exact ⟨sl3, e4⟩
  · obtain ⟨o', e'⟩ := I.base.there b o e (noEx b)
    exact Y.free b o' e' (I.base.free b o e n (noEx b))
  · obtain ⟨m1, e1⟩ := I.base.tbls b ps q
    obtain ⟨m2, e2⟩ := Y.tbls b _ e1
    exact ⟨m1 ++ m2, by rw [e2, Array.append_assoc]⟩
end

noncomputable abbrev bmVE : List Value := [.type "ValueError", .type "Exception", .type "BaseException", .type "object"]
set_option genInjectivity false in
structure Exc (K : PySem.W.Frag) (mg : Str → Option Value) (x : Str) (C : Addr) : Prop where
  mg : mg x = some (.ref C)
  is : PySem.W.excIn K C bmVE "ValueError.__new__" = true
theorem Exc.own {K : PySem.W.Frag} {mg : Str → Option Value} {x : Str} {C : Addr} {h : Heap} (c : Exc K mg x C) (X : K.In h) : OwnCls x C bmVE "ValueError.__new__" mg h := by
  refine ⟨c.mg, ?_⟩
  have q := c.is
  unfold PySem.W.excIn at q
  split at q
  · rename_i dd cd sl ho
    split at q
    · rename_i C' bm k0 k1 k2 k3 n k5 hm hs
      simp only [beq_iff_eq, Bool.not_eq_true', Bool.and_eq_true] at q
      obtain ⟨⟨⟨⟨⟨g1, g2⟩, g3⟩, g4⟩, g5⟩, g6⟩ := q
      subst g1 g2
      obtain ⟨nm, bs, mro, ns, qn, hd, sn, sub, ab, col, del⟩ := cd
      have hsl : sl = #[k0, k1, k2, k3, some (.builtin "ValueError.__new__"), k5] := by
        cases sl with
        | mk l =>
          have hs' : l = _ := hs
          rw [hs']
      have hm' : mro = _ := hm
      have g3' : del = false := g3
      subst hsl hm' g3'
      refine ⟨bm, ns, nm, qn, bs, hd, sn, sub, ab, col, dd, k0, k1, k2, k3, k5, h.nsMap ns, X _ _ ho, ?_, ?_, ?_⟩
      · exact .of_isNs (PySem.W.isNs_of_in X g5)
      · exact PySem.W.nsMap_none_of_in X g5 g6
      · exact PySem.W.tail_of_in X g4
    · cases q
  · cases q
noncomputable def tRaise (E : Value → Hp → Prop) (C : Addr) (t : TA) : TS := fun _ σ H => t σ H fun vs H1 => vs.length ≤ sizeLine ∧ E (.ref C) H1
theorem ps_raise {x : Str} {C : Addr} {e₀ : Expr} {rest : List Expr} {np cpos pos : Pos} {t : TA} {E : Value → Hp → Prop} (c : Exc X.K X.mg x C) (hc : X.calm = true)
    (hE : ∀ (pins : List (Addr × Obj)) (σ : St) (H : Hp) (s : Shared) (h : Heap) (a : Addr) (args : List Value), Inv X pins σ H s → Heap.MadeExcOf s.heap h a (.ref C) args → E (.ref C) H → X.xe (.ref a) { s with heap := h })
    (ha : PA X (e₀ :: rest) t) (hg : Gl X x := by rfl) (hd : (x == ("__debug__" : Str)) = false := by decide)
    (he : starEach (e₀ :: rest) X.env = (false, eval e₀ X.env) :: starEach rest X.env := by rfl) (hpl : (backTo cpos (starEach rest X.env)).any (·.1) = false := by rfl) :
    PS X (.Raise (some (.Call (.Name x np) (e₀ :: rest) [] cpos)) none pos) (tRaise E C t) := by
  intro pins s σ H D I h
  have O := c.own I.mod.kin
  obtain ⟨tl, N, nm, q, bs, hdct, sn, sub, ab, col, dd, k0, k1, k2, k3, k5, mN, hC, hN, hni, T⟩ := O.obj
  refine wpAny_Raise_call_subT (C := C) (nm := nm) (q := q) (N := N) (bs := bs) (bm := tl) (hdct := hdct) (sn := sn) (sub := sub) (ab := ab) (col := col) (dd := dd) (k0 := k0) (k1 := k1) (k2 := k2) (k3 := k3) (k5 := k5) PySem.F.excBase_ValueError (mN := mN)
    (T.hasType (by decide +kernel)) (I.ok.hd hc) (by rw [he]; show (false || (backTo cpos (starEach rest X.env)).any (·.1)) = false; rw [hpl]; rfl) hni (ld_glob I hg c.mg ⟨rfl, ?_⟩ hd)
  have hA := ha cpos pins s σ H _ I h
  rw [he] at hA ⊢
  refine Calls.evalArgs_plain (thn hA fun us s2 ⟨vs, H2, I2, r2, hz, q2⟩ => ?_)
  exact ⟨rfl, by rw [← r2.length]; exact hz, I2.bk _ _ hC, hN.keeps I2.bk, T.keeps I2.bk, fun h' e hx => hE pins σ H2 s2 h' e us I2 hx q2⟩

section
variable {P : Program} {w : World} {K : PySem.W.Frag} {mg : Str → Option Value} {base : Heap} {N : List Str} {qual : Str} {scope : Scope} {f : Addr} {cdv : Value} {A : Around} {outer : List Env} {s : Shared} {H : Hp} {E : XK}
theorem ownX {CX : CXT} : Own (cxOf CX P w K mg base N qual scope f cdv A outer s H E) := ⟨rfl, rfl, rfl⟩
theorem passX : Passes (CX1 P w) (cxOf (CX1 P w) P w K mg base N qual scope f cdv A outer s H E) E := fun pins σ H1 s1 e s' I h => by
  obtain ⟨a, cls, H', rfl, Y, q⟩ := h
  exact thn (Fly.on I ownX Y) fun _ s'' Z => ⟨a, cls, H', rfl, Z, q⟩
theorem raiseX {C : Addr} {pins : List (Addr × Obj)} {σ : St} {H1 : Hp} {s1 : Shared} {h : Heap} {a : Addr} {args : List Value} (I : Inv (cxOf (CX1 P w) P w K mg base N qual scope f cdv A outer s H E) pins σ H1 s1) (hx : Heap.MadeExcOf s1.heap h a (.ref C) args) (q : E (.ref C) none H1) :
    (cxOf (CX1 P w) P w K mg base N qual scope f cdv A outer s H E).xe (.ref a) { s1 with heap := h } := thn (Fly.raised I ownX hx) fun _ s'' Z => ⟨a, .ref C, H1, rfl, Z, q⟩
theorem pass1 {X : Cx} : Passes (CX1 P w) X E0 := fun _ _ _ _ _ _ _ h => by
  obtain ⟨_, _, _, _, _, q⟩ := h
  exact q.elim
theorem Fun.okX {x qual : Str} {st : Stmt} {f : Addr} {fd : FuncData} {N ps : List Str} {k : Nat} {sp : Sp} (F : Fun K x qual st f fd) (S : FnScope N ps (defScope st)) (len : ∀ vs H Q E, sp vs H Q E → vs.length = ps.length)
    (hbody : ∀ (cdv : Value) (A : Around) (outer : List Env) (s : Shared) (H : Hp) (vs : List V) (Q : VK) (E : XK), Room k (A.deeper (envOfC qual (defScope st) s.heap.objs.size f cdv)) → sp vs H Q E →
      ∃ t, PSs (cxOf (CX1 P w) P w K mg base N qual (defScope st) f cdv A outer s H E) (defBody st) t ∧ t { nx := fun _ H' => Q .non H', rt := Q } (start N vs) H) : FnOk P w K mg base (CX1 P w) (k + 1) f fd ps sp := by
  obtain ⟨oc, od, kV, doc, pm, an, cdv, ct, osl, rfl, lk, hcd⟩ := F.ex
  exact fn_of lk hcd S len fun A outer s H vs Q E hr hsp => hbody cdv A outer s H vs Q E hr hsp
end
end L2

set_option Elab.async false
set_option linter.all false
set_option maxRecDepth 100000
set_option maxHeartbeats 4000000

namespace L2
open PySem PySem.Spec PyProof.Rows

noncomputable def XP (X : Cx) (pins : List (Addr × Obj)) (R : St → Value → Hp → Prop) (e : Value) (s' : Shared) : Prop :=
  ∃ a cls σ' H s1 H', e = .ref a ∧ Inv X pins σ' H s1 ∧ Fly X.prog X.w X.stack H s1 a cls H' s' ∧ R σ' cls H'
noncomputable abbrev TTy := Ends → (St → Value → Hp → Prop) → St → Hp → Prop
noncomputable def PTy (X : Cx) (st : List Stmt) (t : TTy) : Prop :=
  ∀ (pins : List (Addr × Obj)) (s : Shared) (σ : St) (H : Hp) (D : Ends) (R : St → Value → Hp → Prop), Inv X pins σ H s → t D R σ H → wpAny (model X.prog X.w) X.A (execs st X.env) (SP X pins D) (XP X pins R) s
section
variable {X : Cx}
noncomputable abbrev TH := Ends → St → Value → Hp → Prop
noncomputable def PH (X : Cx) (hs : List ExceptHandler) (t : TH) : Prop :=
  ∀ (pins : List (Addr × Obj)) (σ : St) (H : Hp) (s : Shared) (a : Addr) (cls : Value) (H' : Hp) (s' : Shared) (D : Ends), Inv X pins σ H s → Fly X.prog X.w X.stack H s a cls H' s' → t D σ cls H' →
    wpAny (model X.prog X.w) X.A (handleBy (.ref a) X.env hs) (SP X pins D) X.xe s'
end
end L2

set_option Elab.async false
set_option linter.all false
set_option maxRecDepth 100000
set_option maxHeartbeats 4000000

namespace L2
open PySem PySem.Spec PyProof.Rows

namespace RV
theorem lri_no_len : typeLookup (.type "list_reverseiterator") "__len__" = pure none := by rw [typeLookup_type, builtinLookup_eq_fast]; kernel_rfl
theorem lri_hint : typeLookup (.type "list_reverseiterator") "__length_hint__" = pure (some (.builtin "list_reverseiterator.__length_hint__")) := by rw [typeLookup_type, builtinLookup_eq_fast]; kernel_rfl
section
variable {prog : Program} {w : World} {A : Around} {E : Value → Shared → Prop} {s : Shared}
theorem hint_rev {it l : Addr} {i : Int} {Q : Bool → Shared → Prop} (hit : s.heap.IsRevIter it l i) (h : Q false s) : wpAny (model prog w) A (Builtin.List.listLengthHint (.ref it)) Q E s := by
  unfold Builtin.List.listLengthHint
  refine wpAny_bind (wpAny_specialOf hit.typeIs lri_no_len ?_)
  show wpAny _ A (specialOf (Value.ref it) (Str.ofString "__length_hint__") >>= _) _ _ _
  refine wpAny_bind (wpAny_specialOf hit.typeIs lri_hint ?_)
  generalize hid : ("list_reverseiterator.__length_hint__" : String) = id0
  wp_delta
  rw [show splitId id0 = some ("list_reverseiterator", "__length_hint__") from by subst hid; decide +kernel]
  subst hid
  refine wpAny_bind (wpAny_isInstance (T := "list_reverseiterator") (b := true) hit.typeIs (by rw [isSubtype_type]; kernel_rfl) ?_)
  refine wpAny_ite_split (fun hab => absurd hab (by decide)) (fun _ => ?_)
  refine wpAny_ite_split (fun _ => ?_) (fun hab => absurd (by decide +kernel) hab)
  refine wpAny_ite_split (fun hab => absurd hab (by decide +kernel)) (fun _ => ?_)
  exact wpAny_pure h

theorem extend_rev {R : Result → Shared → Prop} (hh : A.handled = none) {it l : Addr} {items : Array Value} (hit : s.heap.IsRevIter it l ((items.size : Int) - 1)) (hl : s.heap.IsList l items) (hne : l ≠ it) (S : Addr) (res : Value) (c₀ : Nat)
    (h1 : S ≠ it) (h2 : S ≠ l) (hS : s.heap.get? S = some { cls := .type "list", data := .seq #[] c₀ })
    (hR : ∀ h' tk acc' c', (∀ b o, b ≠ S → b ≠ it → s.heap.get? b = some o → h'.get? b = some o) → h'.get? S = some { cls := .type "list", dict := none, data := .seq acc' c', slots := #[] } →
      acc'.toList = items.toList.reverse → R (.ok (.ret res)) { s with heap := h', toks := tk }) (hn : items.size ≤ sizeLine) :
    wpAny (model prog w) A.in1 (Builtin.List.listExtendWith (.ref S) (.ref it) res)
      (fun fin s' => match fin with | .done f => R (.ok f) s' | .again c' => c'.quiet = true ∧ codeAny (model prog w) A c' R s') (fun e s' => R (.error e) s') s := by
  have W := (Walks.listRev (prog := prog) (w := w) (A := A.in1) hh it l hne items).toS
  unfold Builtin.List.listExtendWith
  refine wpAny_bind (wpAny_typeOf hit.typeIs ?_)
  have g1 : Builtin.List.listSameRef (.ref S) (.ref it) = false := by simp [Builtin.List.listSameRef, h1]
  have g2 : (Value.type "list_reverseiterator" == Value.type "list") = false := by decide
  have g3 : (Value.type "list_reverseiterator" == Value.type "tuple") = false := by decide
  simp only [g1, g2, g3, Bool.or_false, Bool.false_eq_true, if_false]
  refine wpAny_bind (wpAny_pyIter_revIter hit ?_)
  refine wpAny_bind (wpAny_holding (hint_rev hit ?_))
  refine wpAny_ite_split (fun hab => absurd hab (by decide +kernel)) (fun _ => ?_)
  have e0 : (items.size : Int) - 1 - ((0 : Nat) : Int) = (items.size : Int) - 1 := by omega
  refine wpAny_pure ⟨plainId_quiet F.plain_extend_loop _, codeAny_extend_loopS W hn S (by simp [h1, h2]) res items.size 0 _ #[] c₀ rfl (Nat.zero_le _) ⟨Nat.zero_le _, by rw [e0]; exact hit, hl⟩ hS (ItemsOf.nil _) fun s' acc' c' hm hS' hacc => ?_⟩
  rw [Moved.eq_with hm]
  refine hR s'.heap s'.toks acc' c' (fun b o hb hb2 e => hm.heap b o (by simp [hb, hb2]) e) hS' ?_
  · apply List.ext_getElem?
    intro i
    have hsz := hacc.1
    by_cases hi : i < items.size
    · have e1 : acc'[i]? = some (acc'[i]'(by omega)) := Array.getElem?_eq_getElem (by omega)
      have e2 := hacc.2 i _ e1
      rw [List.getElem?_reverse (by simpa using hi), Array.getElem?_toList, Array.getElem?_toList, e1, ← e2]
      simp
    · rw [List.getElem?_eq_none (by simp; omega), List.getElem?_eq_none (by simp; omega)]

end
end RV

section
variable {X : Cx}
theorem arg1 {e : Expr} {pos : Pos} {s : Shared} {Q : List Value → Shared → Prop} {E : Value → Shared → Prop} (h : wpAny (model X.prog X.w) X.A (eval e X.env) (fun u s1 => Q [u] s1) E s) (hs : starEach [e] X.env = (false, eval e X.env) :: starEach [] X.env) :
    wpAny (model X.prog X.w) X.A (spliced (backTo pos (starEach [e] X.env))) Q E s := by
  rw [hs]
  show wpAny _ _ (spliced ((false, eval e X.env) :: backTo pos (starEach [] X.env))) _ _ s
  exact Calls.spliced_cons (thn h fun u s1 q => Calls.spliced_nil q)
theorem rising_pw : ∀ (x : List Nat) (ls : List (List Nat)), risingS (tx x) (ls.map tx) = true → (∀ y ∈ ls, ¬ y < x) ∧ ls.Pairwise (fun a b => ¬ b < a)
  | x, [], _ => ⟨fun _ h => (by cases h), .nil⟩
  | x, y :: ls, h => by
    have h' : (!ltCps (tx y).cps.toList (tx x).cps.toList && risingS (tx y) (ls.map tx)) = true := h
    rw [Bool.and_eq_true, tx_cps, tx_cps, ltCps_eq] at h'
    obtain ⟨a, b⟩ := rising_pw y ls h'.2
    have h1 : ¬ y < x := by simpa using h'.1
    refine ⟨fun z hz => ?_, List.pairwise_cons.mpr ⟨a, b⟩⟩
    rcases List.mem_cons.mp hz with rfl | hz
    · exact h1
    · exact Wd.lele h1 (a z hz)
theorem sorted_pw : ∀ (ls : List (List Nat)), sortedS (ls.map tx) = true → ls.Pairwise (fun a b => ¬ b < a)
  | [], _ => .nil
  | x :: ls, h => List.pairwise_cons.mpr (rising_pw x ls h)
theorem strs_back : ∀ {us : List Value} {ss : List Str}, StrsAre us ss → Vals ((ss.map fun x => x.cps.toList).map T) us
  | _, _, .nil => .nil
  | _, _, .cons x t h => .cons ⟨t, by show Value.str x t = Value.str (tx x.cps.toList) t; rw [tx_eta]⟩ (strs_back h)
theorem call_sortedT : CallR X (.builtin "sorted") (fun xs H Q => ∃ (p : Addr) (ls : List (List Nat)), xs = [.ref p] ∧ SqL X.K H p (ls.map T) ∧ ls.length < 64 ∧ ∀ (ms : List (List Nat)) (D : Addr), H D = none → ms.Perm ls → ms.Pairwise (fun a b => ¬ b < a) → Q (.ref D) (upd H D (.lst (ms.map T)))) := by
  intro pins s σ H xs us Q I r h
  obtain ⟨p, ls, rfl, hq, h64, q⟩ := h
  obtain ⟨u, rfl, ru⟩ := vals1 r
  cases ru
  obtain ⟨its, rv, pl, hz⟩ := I.list hq
  have hlen := rv.length
  rw [List.length_map] at hlen
  refine sorted_strs pl.isList (strsAre_T rv) (by omega) fun out ss' a1 a2 a3 => ?_
  obtain ⟨e, he⟩ := sortedAll_at s.heap its out
  have em : (ss'.map fun x => x.cps.toList).map tx = ss' := by
    rw [List.map_map]
    conv => rhs; rw [← List.map_id ss']
    exact List.map_congr_left fun x _ => tx_eta x
  have hp : (ss'.map fun x => x.cps.toList).Perm ls := by
    have z := a2.map fun x => x.cps.toList
    have e2 : (ls.map tx).map (fun x => x.cps.toList) = ls := by
      rw [List.map_map]
      conv => rhs; rw [← List.map_id ls]
      exact List.map_congr_left fun x _ => tx_cps x
    rw [e2] at z
    exact z
  have hpl := hp.length_eq
  refine ⟨.ref _, _, I.laid (t' := s.toks) (fun _ _ => sortedAll_old) (Nat.le_succ _) (o := .lst ((ss'.map fun x => x.cps.toList).map T)) ⟨by rw [List.length_map, hpl]; rw [List.length_map] at hz; exact hz, out.toList, e, strs_back a1, by simpa using he⟩, rfl, q _ _ (I.hok.fresh (Nat.le_succ _)) hp (sorted_pw _ (by rw [em]; exact a3))⟩

theorem op_ne_LT (hu : X.A.units < cLine) : OpR X (compareOp .NotEq) (fun x y H Q => ∃ (p b : Addr) (ls ms : List (List Nat)), x = .ref p ∧ y = .ref b ∧ SqL X.K H p (ls.map T) ∧ SqL X.K H b (ms.map T) ∧ Q (.bl (!decide (ls = ms))) H) := by
  intro pins s σ H x y v u Q I rx ry h
  obtain ⟨p, b, ls, ms, rfl, rfl, h1, h2, q⟩ := h
  cases rx
  cases ry
  obtain ⟨its, r, pl, _⟩ := I.list h1
  obtain ⟨its2, r2, pl2, _⟩ := I.list h2
  have l1 := r.length
  have l2 := r2.length
  rw [List.length_map] at l1 l2
  by_cases hl : ls.length = ms.length
  · refine SeqAt.RcNeAt.lists (e := fun j => decide (ls[j]? = ms[j]?)) pl.isList pl2.isList (by rw [List.size_toArray, List.size_toArray]; omega) hu (fun j g1 g2 => eqAt_T r r2 (by simp) (by simp)) _ _ _ _ ?_
    rw [List.size_toArray, ← l1, all_range_eq hl]
    exact ⟨.bl _, H, I, rfl, q⟩
  · refine SeqAt.RcNeAt.lists_lengths pl.isList pl2.isList (by rw [List.size_toArray, List.size_toArray, bne_iff_ne]; omega) hu _ _ _ _ ?_
    have e : decide (ls = ms) = false := decide_eq_false fun z => hl (by rw [z])
    rw [e] at q
    exact ⟨.bl _, H, I, rfl, q⟩
end
end L2

set_option Elab.async false
set_option linter.all false
set_option maxRecDepth 100000
set_option maxHeartbeats 4000000

namespace L2
open PySem PySem.Spec PyProof.Rows

noncomputable def nub : List (List Nat) → List (List Nat) → List (List Nat)
  | acc, [] => acc
  | acc, l :: ls => if l ∈ acc then nub acc ls else nub (acc ++ [l]) ls
noncomputable def nubTo (ls : List (List Nat)) : Nat → List (List Nat)
  | 0 => []
  | i + 1 => if ls.getD i [] ∈ nubTo ls i then nubTo ls i else nubTo ls i ++ [ls.getD i []]
theorem nubTo_len (ls : List (List Nat)) : ∀ i, (nubTo ls i).length ≤ i
  | 0 => Nat.le_refl _
  | i + 1 => by
    have h := nubTo_len ls i
    rw [nubTo]
    split
    · omega
    · rw [List.length_append, List.length_singleton]
      omega
theorem nubTo_nodup (ls : List (List Nat)) : ∀ i, (nubTo ls i).Nodup
  | 0 => List.nodup_nil
  | i + 1 => by
    have h := nubTo_nodup ls i
    rw [nubTo]
    split
    · exact h
    · rename_i hn
      refine List.nodup_append.mpr ⟨h, by simp, fun a ha b hb e => ?_⟩
      have hb' : b = ls.getD i [] := by simpa using hb
      rw [e, hb'] at ha
      exact hn ha
theorem nubTo_mem (ls : List (List Nat)) (x : List Nat) : ∀ i, i ≤ ls.length → (x ∈ nubTo ls i ↔ x ∈ ls.take i)
  | 0, _ => by simp [nubTo]
  | i + 1, hi => by
    have h := nubTo_mem ls x i (by omega)
    have e : ls.take (i + 1) = ls.take i ++ [ls.getD i []] := by
      rw [List.take_add_one, List.getD_eq_getElem?_getD, List.getElem?_eq_getElem (by omega)]
      rfl
    rw [e, List.mem_append, nubTo]
    split
    · rename_i hm
      rw [h]
      constructor
      · exact .inl
      · rintro (q | q)
        · exact q
        · have q' : x = ls.getD i [] := by simpa using q
          rw [q', ← nubTo_mem ls _ i (by omega)]
          exact hm
    · rw [List.mem_append, h]
noncomputable def uniq (ls : List (List Nat)) : List (List Nat) := nubTo ls ls.length
theorem uniq_nodup (ls : List (List Nat)) : (uniq ls).Nodup := nubTo_nodup ls _
theorem uniq_mem (ls : List (List Nat)) (x : List Nat) : x ∈ uniq ls ↔ x ∈ ls := by
  rw [uniq, nubTo_mem ls x _ (Nat.le_refl _), List.take_length]

namespace SE
section
variable {prog : Program} {w : World} {A : Around} {R : Result → Shared → Prop} {J : Addr} {fp wr : List Addr} {G : Array GenState → Array GenState → Prop} {n : Nat} {P : Nat → Value → Prop} {St : Nat → Shared → Prop}
noncomputable abbrev Has (prog : Program) (w : World) (h : Heap) (D : Addr) (ms : List (List Nat)) : Prop := h.SetOf (PySem.strKind prog w) D (fun x => decide (x.cps.toList ∈ ms)) ms.length
theorem Has.at {h h' : Heap} {D : Addr} {ms : List (List Nat)} (x : Has prog w h D ms) (k : ∀ o, h.get? D = some o → h'.get? D = some o) : Has prog w h' D ms := by
  obtain ⟨o, es, ep, tb, ho, r⟩ := x
  exact ⟨o, es, ep, tb, k o ho, r⟩
theorem loop (W : WalksS prog w A.in1 J fp wr G n P St) {D : Addr} (hD : D ∉ fp) (ls : List (List Nat)) (hv : ∀ i v, P i v → ∃ t, v = Value.str (tx (ls.getD i [])) t) (hn : n + 1 < scanBound) :
    ∀ (k i : Nat) (s : Shared), n - i = k → i ≤ n → St i s → Has prog w s.heap D (nubTo ls i) →
      (∀ s', Moved (D :: wr) G s s' → Has prog w s'.heap D (nubTo ls n) → R (.ok (.ret .none)) s') → codeAny (model prog w) A (.builtin "set.update.loop" ⟨[.ref D, .ref J], []⟩) R s := by
  have hDw : D ∉ wr := fun z => hD (W.sub _ z)
  have up : ∀ b ∈ wr, b ∈ D :: wr := fun b hb => .tail _ hb
  intro k
  induction k with
  | zero =>
    intro i s hk hi st hs hR
    obtain rfl : i = n := by omega
    refine codeAny_builtin PyProof.Rows.F.entry_set_update_loop ?_
    rw [Around.under_plainId PyProof.Rows.F.plain_set_update_loop]
    refine wpAny_bind (m := pyNext (.ref J)) (W.done s _ _ st fun s2 mv => ?_)
    exact (show wpAny _ A.in1 (ret Value.none) _ _ s2 from wpAny_pure (hR s2 (mv.mono up) (hs.at fun o e => mv.heap D o hDw e)))
  | succ k ih =>
    intro i s hk hi st hs hR
    have hlt : i < n := by omega
    refine codeAny_builtin PyProof.Rows.F.entry_set_update_loop ?_
    rw [Around.under_plainId PyProof.Rows.F.plain_set_update_loop]
    refine wpAny_bind (m := pyNext (.ref J)) (W.item i s _ _ hlt st fun v s2 pv st2 mv => ?_)
    obtain ⟨t, rfl⟩ := hv i v pv
    have hs2 := hs.at fun o e => mv.heap D o hDw e
    refine wpAny_bind (m := holding [Value.str (tx (ls.getD i [])) t] (setAdd D (.str (tx (ls.getD i [])) t))) (wpAny_holding ?_)
    unfold setAdd
    refine wpAny_holding (wpAny_bind ((PySem.strKind prog w).pyHash (k := tx (ls.getD i [])) (strKind_is _ _ _ _) ?_))
    have hl := nubTo_len ls i
    refine wpAny_setAddHashed_of (knd := PySem.strKind prog w) (s := { s2 with toks := s2.toks + 1 }) (strKind_is _ _ _ _) rfl hs2 (by omega) fun h3 sb x3 => ?_
    have x4 : Has prog w h3 D (nubTo ls (i + 1)) := by
      refine PyProof.Rows.SetOf_congr x3 (fun y => ?_) ?_
      · rw [nubTo]
        split
        · rename_i hm
          rw [Bool.eq_iff_iff, Bool.or_eq_true, decide_eq_true_iff, decide_eq_true_iff]
          constructor
          · rintro (q | q)
            · exact q
            · rw [q, tx_cps]
              exact hm
          · exact .inl
        · rw [Bool.eq_iff_iff, Bool.or_eq_true, decide_eq_true_iff, decide_eq_true_iff, decide_eq_true_iff, List.mem_append, List.mem_singleton]
          constructor
          · rintro (q | q)
            · exact .inl q
            · right
              rw [q, tx_cps]
          · rintro (q | q)
            · exact .inl q
            · right
              rw [← q, tx_eta]
      · rw [tx_cps, nubTo]
        by_cases hm : ls.getD i [] ∈ nubTo ls i
        · rw [if_pos hm, if_pos (decide_eq_true hm)]
        · rw [if_neg hm, if_neg (by rw [decide_eq_false hm]; exact Bool.false_ne_true), List.length_append]
          rfl
    refine wpAny_pure ⟨plainId_quiet PyProof.Rows.F.plain_set_update_loop _, ih (i + 1) _ (by omega) hlt (W.frame _ s2 _ _ st2 (Nat.le_succ _) fun b hb o e => (sb.2 b fun z => hD (z ▸ hb)).trans e) x4 fun s5 m5 x5 => ?_⟩
    refine hR s5 (Moved.trans W.gtrans ((mv.mono up).then_heap (Nat.le_succ _) fun b o hb e => (sb.2 b fun z => hb (z ▸ .head _)).trans e) m5) x5

variable {E : Value → Shared → Prop} {s : Shared}
theorem call_of {l : Addr} {its : Array Value} {ls : List (List Nat)} {Q : Value → Shared → Prop} (hh : A.handled = none) (hl : s.heap.IsList l its) (hv : ∀ i v, its[i]? = some v → ∃ t, v = Value.str (tx (ls.getD i [])) t) (hn : its.size + 1 < scanBound)
    (h : ∀ (h' : Heap) (tk : Nat), Has prog w h' s.heap.objs.size (nubTo ls its.size) → (∀ b o, s.heap.get? b = some o → h'.get? b = some o) → Q (.ref s.heap.objs.size) { s with heap := h', toks := tk }) :
    wpAny (model prog w) A (call (.type "set") [.ref l]) Q E s := by
  obtain ⟨mc, mt, f0⟩ := F.called_set.mro
  have f1 := F.called_set.made; have f2 := F.called_set.sub; have f3 := F.called_set.notType; have f4 := F.called_set.canCreate; have f5 := F.typeCall_set_1 (.ref l)
  refine wpAny_call (codeAny_of_tree (show wpAny _ _ (callAny (.type "set") _) _ _ _ from wpAny_pure ⟨Code.quiet_builtin _ (by decide +kernel), codeAny_builtin F.entry_type_call ?_⟩))
  rw [Around.under_plain (weight_type_call_type "set" [.ref l] []) rfl]
  repeat (any_goals (first | wp_step | assumption))
  refine codeAny_mono (code_set_new_1 (.ref l) (E := E) (Q₁ := fun ob s1 => ∃ b : Bool, ob = .ref s.heap.objs.size ∧ s1 = { s with heap := s.heap.push { cls := .type "set", dict := none, data := .set #[] 0 (.fresh 0 0 b) } }) fun b => ⟨b, rfl, rfl⟩) fun r s1 hr => ?_
  cases r with
  | error e => exact hr
  | ok fl =>
    cases fl with
    | ret ob =>
      obtain ⟨b, rfl, rfl⟩ := hr
      generalize hob : ({ cls := .type "set", dict := none, data := .set #[] 0 (.fresh 0 0 b) } : Obj) = ob
      have hD : (s.heap.push ob).get? s.heap.objs.size = some ob := Heap.get?_push_size _ (by rw [← hob]; rfl)
      have hT : Shared.TypeIs { s with heap := s.heap.push ob } (.ref s.heap.objs.size) "set" := ⟨_, hD, by rw [← hob]⟩
      have f6 := F.called_set.init.lookup; have f7 := F.called_set.init.bind (.ref s.heap.objs.size)
      repeat (any_goals (first | wp_step | assumption))
      refine codeAny_mono (codeAny_call_builtin (R := wants (fun r s2 => r = .none ∧ ∃ h' tk, s2 = { s with heap := h', toks := tk } ∧ Has prog w h' s.heap.objs.size (nubTo ls its.size) ∧ ∀ b o, s.heap.get? b = some o → h'.get? b = some o) E)
        F.called_set.init.plain F.entry_set_init (check_set_init_1 hT ?_)) fun r2 s2 hr2 => ?_
      · obtain ⟨⟨oc, od, odt, osl⟩, hol, hcl, nl, hdl⟩ := id hl
        simp only at hcl hdl
        subst hcl hdl
        have hol' : (s.heap.push ob).get? l = some { cls := .type "list", dict := od, data := .seq its nl, slots := osl } := Heap.get?_push_of_some _ hol
        have f8 := F.sub_list_set; have f9 := F.sub_list_frozenset
        have f10 : (Value.type "list" == Value.type "dict") = false := by decide
        have hl1 : (s.heap.push ob).IsList l its := ⟨_, hol', rfl, nl, rfl⟩
        subst hob
        unfold Builtin.«set.__init__» noKeywords Builtin.Frozenset.updateFrom
        generalize hPI : pyIter = PI
        wp_walk
        subst hPI
        refine wpAny_pyIter_list hl1 ?_
        refine wpAny_bind (wpAny_runValue ?_)
        have hlt : l < s.heap.objs.size := Heap.lt_size hol
        have hh3 : A.in1.in1.in1.handled = none := by simp [hh]
        have hsz : (s.heap.push { cls := .type "set", dict := none, data := .set #[] 0 (.fresh 0 0 b) }).objs.size = s.heap.objs.size + 1 := Heap.size_push _ _
        have hne : l ≠ (s.heap.push { cls := .type "set", dict := none, data := .set #[] 0 (.fresh 0 0 b) }).objs.size := by rw [hsz]; exact Nat.ne_of_lt (Nat.lt_succ_of_lt hlt)
        have hfp : s.heap.objs.size ∉ [(s.heap.push { cls := .type "set", dict := none, data := .set #[] 0 (.fresh 0 0 b) }).objs.size, l] := by
          rw [hsz]
          intro z
          rcases List.mem_cons.mp z with e | e
          · exact Nat.ne_of_lt (Nat.lt_succ_self _) e
          · exact Nat.ne_of_gt hlt (List.mem_singleton.mp e)
        refine loop ((Walks.list hh3 _ l hne its).toS) (D := s.heap.objs.size) hfp ls hv hn (its.size - 0) 0 _ (by omega) (Nat.zero_le _) ⟨⟨_, Heap.get?_push_size _ rfl, rfl, rfl⟩, hl1.push _⟩ ?_ fun s3 mv x3 => ?_
        · have hg : ((s.heap.push { cls := .type "set", dict := none, data := .set #[] 0 (.fresh 0 0 b) }).push { cls := .type "list_iterator", data := .fields #[.ref l, .int 0 0] }).get? s.heap.objs.size = some { cls := .type "set", dict := none, data := .set #[] 0 (.fresh 0 0 b) } := Heap.get?_push_of_some _ hD
          exact PyProof.Rows.SetOf_congr ((PyProof.Rows.setObjOf_fresh (knd := PySem.strKind prog w) b).setOf hg (by unfold scanBound; omega)) (fun _ => rfl) rfl
        · obtain ⟨h3, g3, d3, tk3, os3⟩ := s3
          obtain rfl : g3 = s.gens := mv.gens
          obtain rfl : d3 = s.drawn := mv.drawn
          obtain rfl : os3 = s.os := mv.os
          refine wpAny_pure (show wpAny _ _ (ret Value.none) _ _ _ from wpAny_pure ⟨rfl, h3, tk3, rfl, x3, fun c o e => ?_⟩)
          have hc := Heap.lt_size e
          exact mv.heap c o (show c ∉ [s.heap.objs.size, (s.heap.push { cls := .type "set", dict := none, data := .set #[] 0 (.fresh 0 0 b) }).objs.size] by
            rw [hsz]
            intro z
            rcases List.mem_cons.mp z with e | e
            · exact Nat.ne_of_lt hc e
            · exact Nat.ne_of_lt (Nat.lt_succ_of_lt hc) (List.mem_singleton.mp e)) (Heap.get?_push_of_some _ (Heap.get?_push_of_some _ e))
      · cases r2 with
        | error e => exact hr2
        | ok fl2 =>
          cases fl2 with
          | ret r =>
            obtain ⟨rfl, h3, tk, rfl, x3, k3⟩ := hr2
            repeat (any_goals (first | wp_step | assumption))
            exact h _ _ x3 k3
          | _ => exact hr2.elim
    | _ => exact hr.elim
end
end SE

noncomputable def SetT (P : Program) (w : World) (D : Addr) (ms : List (List Nat)) : HO := .ext fun h => SE.Has P w h D ms
section
variable {X : Cx}
theorem str_at {ls : List (List Nat)} {us : List Value} (r : Vals (ls.map T) us) {i : Nat} {v : Value} (h : us[i]? = some v) : ∃ t, v = Value.str (tx (ls.getD i [])) t := by
  have hl := r.length
  rw [List.length_map] at hl
  have hi : i < ls.length := by have := (List.getElem?_eq_some_iff.mp h).1; omega
  obtain ⟨u, h1, h2⟩ := r.get (i := i) (x := T ls[i]) (by rw [List.getElem?_map, List.getElem?_eq_getElem hi]; rfl)
  rw [h] at h1
  cases h1
  rw [List.getD_eq_getElem?_getD, List.getElem?_eq_getElem hi]
  exact h2
theorem call_setT (hc : X.calm = true) : CallR X (.type "set") (fun xs H Q => ∃ (p : Addr) (ls : List (List Nat)), xs = [.ref p] ∧ SqL X.K H p (ls.map T) ∧ ls.length + 1 < 4096 ∧ ∀ D, H D = none → Q (.ref D) (upd H D (SetT X.prog X.w D (uniq ls)))) := by
  intro pins s σ H xs us Q I r h
  obtain ⟨p, ls, rfl, hq, hz, q⟩ := h
  obtain ⟨u, rfl, ru⟩ := vals1 r
  cases ru
  obtain ⟨its, rv, pl, _⟩ := I.list hq
  have hlen := rv.length
  rw [List.length_map] at hlen
  refine SE.call_of (I.ok.hd hc) pl.isList (ls := ls) (fun i v e => str_at rv (by simpa using e)) (by rw [List.size_toArray]; unfold scanBound; omega) fun h' tk x k => ?_
  have e : nubTo ls its.toArray.size = uniq ls := by rw [List.size_toArray, ← hlen]; rfl
  rw [e] at x
  have hf : H s.heap.objs.size = none := I.hok.fresh (Nat.le_refl _)
  refine ⟨.ref s.heap.objs.size, _, I.laid (t' := tk) k (Nat.le_refl _) (o := SetT X.prog X.w s.heap.objs.size (uniq ls)) ?_, rfl, q _ hf⟩
  refine ⟨x, ?_, fun h1 h2 x1 kk => x1.at kk⟩
  obtain ⟨o, _, _, _, ho, _⟩ := x
  exact ⟨o, ho⟩
theorem call_lenS : CallR X (.builtin "len") (fun xs H Q => ∃ (D : Addr) (ms : List (List Nat)), xs = [.ref D] ∧ H D = some (SetT X.prog X.w D ms) ∧ Q (.int (ms.length : Nat)) H) := by
  intro pins s σ H xs us Q I r h
  obtain ⟨D, ms, rfl, hD, q⟩ := h
  obtain ⟨u, rfl, ru⟩ := vals1 r
  cases ru
  obtain ⟨⟨o, es, ep, tb, ho, hex, hd, _, _, hb, hf, hn⟩, _⟩ := (show ObjOk X.prog X.w H s.heap D (SetT X.prog X.w D ms) from I.hok D _ hD)
  have hb' : es.size < 4096 := hb
  exact call_len_set ho hex hd hf (by omega) ⟨.int (ms.length : Nat), H, I.tok _, ⟨s.toks + 1, by rw [← hn]⟩, q⟩

end
end L2

set_option Elab.async false
set_option linter.all false
set_option maxRecDepth 100000
set_option maxHeartbeats 4000000

namespace L2
open PySem PySem.Spec PyProof.Rows
section
variable {X : Cx}
namespace LM
theorem rmul (a : Int) (t : Tok) (l : Addr) (its : Array Value) (n : Nat) (dd : Option Addr) (sl : Array (Option Value)) :
    Meets (Builtin.«int.__rmul__» ⟨[.int a t, .ref l], []⟩) (fun _ R s => s.heap.get? l = some { cls := .type "list", dict := dd, data := .seq its n, slots := sl } ∧ R (.ok (.ret Value.notImplemented)) s) :=
  .of_wp fun prog w A R s z => by
    obtain ⟨hp, g, d, tk, os⟩ := s
    obtain ⟨hl, z⟩ := z
    wp_walk
    exact ⟨_, rfl, z⟩
theorem mul (l : Addr) (its : Array Value) (n : Nat) (dd : Option Addr) (sl : Array (Option Value)) (x : Int) (u : Tok) (c0 : ¬(!Builtin.List.listFitsIndex x) = true) (c1 : ¬its.size * x.toNat > (2 ^ 63 - 1) / 8) (c2 : ¬Builtin.List.listTooLong (its.size * x.toNat) = true) :
    Meets (Builtin.«list.__mul__» ⟨[.ref l, .int x u], []⟩) (fun _ R s => s.heap.get? l = some { cls := .type "list", dict := dd, data := .seq its n, slots := sl } ∧
      R (.ok (.ret (Value.ref s.heap.objs.size))) { s with heap := s.heap.push { cls := Value.type "list", data := Data.seq (List.foldl (fun x1 x2 => x1 ++ x2) #[] (List.replicate (if its.isEmpty = true then 0 else x.toNat) its)) } }) :=
  .of_wp fun prog w A R s z => by
    obtain ⟨hp, g, d, tk, os⟩ := s
    obtain ⟨hl, z⟩ := z
    have hsz := AutoListH.joined_fits c2
    wp_walk using wpAny_loadPart' hl
    refine wpAny_ite_false (decide_eq_false (Nat.not_lt.mpr hsz)) ?_
    wp_walk
    exact ⟨_, rfl, z⟩
end LM
theorem ix_list_K (K : PySem.W.Frag) (hK : X.K = K) : IxR X (rIxL K) := by
  subst hK
  exact ix_list
theorem op_repI : OpR X (binaryOp .Mult) (fun x y H Q => ∃ (l : Addr) (k : Int) (xs : List V), x = .ref l ∧ y = .int k ∧ SqL X.K H l xs ∧ (-(2 ^ 63) ≤ k ∧ k < 2 ^ 63 ∧ xs.length * k.toNat ≤ sizeLine) ∧ ∀ p, H p = none → Q (.ref p) (upd H p (.lst (List.replicate k.toNat xs).flatten))) := by
  intro pins s σ H x y v u Q I rx ry h
  obtain ⟨l, k, xs, rfl, rfl, hH, ⟨h1, h2, hz⟩, q⟩ := h
  cases rx
  obtain ⟨t, rfl⟩ := ry
  obtain ⟨its, r, ⟨⟨cls, dd, data, sl⟩, n, e, hc, hdd, hd⟩, z⟩ := I.list hH
  simp only at hc hd
  subst hc hd
  have hl := r.length
  have hlen : its.toArray.size * k.toNat ≤ sizeLine := by rw [List.size_toArray, ← hl]; exact hz
  have hcap : ¬ its.toArray.size * k.toNat > (2 ^ 63 - 1) / 8 := by
    have : (sizeLine : Nat) ≤ (2 ^ 63 - 1) / 8 := by decide
    omega
  have hfit : ¬ (!Builtin.List.listFitsIndex k) = true := by
    rw [fitsIndex_both h1 h2]
    exact Bool.false_ne_true
  have hlong : ¬ Builtin.List.listTooLong (its.toArray.size * k.toNat) = true := by
    rw [notLongL hlen]
    exact Bool.false_ne_true
  have hnew : List.foldl (fun x1 x2 => x1 ++ x2) #[] (List.replicate (if its.toArray.isEmpty = true then 0 else k.toNat) its.toArray) = (List.replicate k.toNat its).flatten.toArray := by
    have f0 : ∀ m : Nat, List.foldl (fun x1 x2 => x1 ++ x2) #[] (List.replicate m its.toArray) = (List.replicate m its).flatten.toArray := fun m => by
      have := foldl_rep its m []
      rw [List.nil_append] at this
      exact this
    rw [f0]
    cases its with
    | nil => simp
    | cons a r' => rw [if_neg (by simp)]
  refine wpAny_binaryOp_repeat_ref (T := "list") (U := "int") (by decide) ⟨_, e, rfl⟩ (fun s' => typeIs_int s' k t) noFill_list_mul F.fills_int_mul F.slot_int_rmul repeat_list F.slot_int_index.lookup
    (call_meets F.slot_int_rmul (typeIs_int s k t) F.entry_int_rmul (F.args_int_rmul_2 _ _) (LM.rmul k t l its.toArray n dd sl)
      ⟨e, rfl, ⟨_, e, rfl⟩, call_meets F.slot_list_mul ⟨_, e, rfl⟩ F.entry_list_mul (F.args_list_mul_2 _ _) (LM.mul l its.toArray n dd sl k t hfit hcap hlong) ⟨e, ?_⟩⟩)
  rw [hnew]
  exact ⟨.ref _, _, I.lnew (t' := s.toks) (r.rep k.toNat) (by rw [len_rep, Nat.mul_comm]; exact hz), rfl, q _ I.fresh⟩
theorem op_repL : OpR X (binaryOp .Mult) (fun x y H Q => ∃ (l : Addr) (k : Nat) (xs : List V), x = .ref l ∧ y = .int k ∧ SqL X.K H l xs ∧ (k ≤ sizeLine ∧ xs.length * k ≤ sizeLine) ∧ ∀ p, H p = none → Q (.ref p) (upd H p (.lst (List.replicate k xs).flatten))) := by
  intro pins s σ H x y v u Q I rx ry h
  obtain ⟨l, k, xs, e1, e2, hH, ⟨hk, hz⟩, q⟩ := h
  have hs : sizeLine = 16777216 := sizeLine_eq
  refine op_repI pins s σ H x y v u Q I rx ry ⟨l, (k : Int), xs, e1, e2, hH, ⟨by omega, by omega, ?_⟩, ?_⟩
  · rw [Int.toNat_natCast]
    exact hz
  · rw [Int.toNat_natCast]
    exact q
end
end L2

set_option Elab.async false
set_option linter.all false
set_option maxRecDepth 100000
set_option maxHeartbeats 4000000

namespace L2
open PySem PySem.Spec PyProof.Rows

noncomputable def Itx (l : List Nat) : It := ⟨fun i _ => i < l.length, fun i H x H' => H' = H ∧ ∃ c, l[i]? = some c ∧ x = T [c], fun i _ => l.length ≤ i⟩
theorem turn_text {P : Program} {w : World} {K : PySem.W.Frag} {tg : Expr} {it : Addr} {ty : String} {l : List Nat} {t : Tok} (hty : ty = "str_ascii_iterator" ∨ ty = "str_iterator")
    (W : ∀ A : Around, A.handled = none → Walks P w A it [it] [it] (tx l).cps.size (SignAt (tx l)) (fun i h => h.IsStrIter it ty (tx l) t i)) : Turn P w K tg (Itx l) [it] it (fun i h => h.IsStrIter it ty (tx l) t i) where
  mem := by simp
  obj := fun i h st b hb => by
    have e : b = it := by simpa using hb
    subst e
    obtain ⟨o, e, c, d⟩ := st
    exact ⟨o, e, fun v z => by rw [d] at z; cases z⟩
  keep := fun i h h' st k => by
    obtain ⟨o, e, r⟩ := st
    exact ⟨o, k it (by simp) o e, r⟩
  item := by
    intro X hP hw hK hc i pins s σ H E I hf st hg
    subst hP hw hK
    obtain ⟨f0, f1, f2, f3, f4, f5⟩ := hf it (by simp)
    refine (W X.A (I.ok.hd hc)).item i s _ _ (by have : i < l.length := hg; simpa [tx] using this) st fun v h' tk hv st' kk => ?_
    obtain ⟨c, u, hcu, rfl⟩ := hv
    have I1 : Inv X pins σ H { s with heap := h', toks := tk } := I.turned (fun b o hb e => kk b o (by simpa using hb) e) f0 f1 f3 f4 f5
    obtain ⟨o, e, cl, d⟩ := id st'
    refine ⟨_, rfl, go_of (s := { s with heap := h', toks := tk }) (n := ty) e cl d (by rcases hty with rfl | rfl <;> decide) ⟨T [c], H, I1, ⟨u, rfl⟩, ⟨rfl, c, ?_, rfl⟩, st', fun b hb => (hf b hb).1⟩⟩
    simpa [tx] using hcu
  done := by
    intro X hP hw hK hc i pins s σ H E I hf st hg
    subst hP hw hK
    obtain ⟨f0, f1, f2, f3, f4, f5⟩ := hf it (by simp)
    have hn : l.length ≤ i := hg
    obtain ⟨o, e, cl, d⟩ := id st
    rcases hty with rfl | rfl
    · exact wpAny_pyNext_ascii_end (I.ok.hd hc) st (by simpa [tx] using hn) fun h' eb => ⟨rfl, I.turned (t' := s.toks) (fun b o hb e => eb b o hb e) f0 f1 f3 f4 f5⟩
    · exact wpAny_pyNext_wide_end (I.ok.hd hc) st (by simpa [tx] using hn) fun h' eb => ⟨rfl, I.turned (t' := s.toks) (fun b o hb e => eb b o hb e) f0 f1 f3 f4 f5⟩
  self := fun A i s Q E st h => by
    rcases hty with rfl | rfl
    · exact wpAny_pyIter_striter_ascii st h
    · exact wpAny_pyIter_striter_wide st h
noncomputable def iStr (tl : TE) : TI := fun σ H R => tl σ H fun x H1 => ∃ l, x = T l ∧ R (Itx l) H1
section
variable {X : Cx} {tg : Expr}
theorem pi_str {e : Expr} {tl : TE} (hl : PE X e tl) : PI X tg e (iStr tl) := by
  intro pins s σ H R I h
  refine thn (hl pins s σ H _ I h) fun v s1 ⟨x, H1, I1, r1, q1⟩ => ?_
  obtain ⟨l, rfl, q⟩ := q1
  obtain ⟨t, rfl⟩ := r1
  have fin : ∀ (ty : String) (o : Obj), (ty = "str_ascii_iterator" ∨ ty = "str_iterator") → (∀ A : Around, A.handled = none → Walks X.prog X.w A s1.heap.objs.size [s1.heap.objs.size] [s1.heap.objs.size] (tx l).cps.size (SignAt (tx l)) (fun i h => h.IsStrIter s1.heap.objs.size ty (tx l) t i)) →
      (s1.heap.push o).IsStrIter s1.heap.objs.size ty (tx l) t 0 → PIE X pins σ tg R (.ref s1.heap.objs.size) { s1 with heap := s1.heap.push o } := fun ty o hty W st => by
    refine ⟨s1.heap.objs.size, [s1.heap.objs.size], _, _, H1, rfl, I1.kept (t' := s1.toks) fun b o e => Heap.get?_push_of_some _ e, turn_text hty W, st, fun b hb => ?_, q⟩
    have e : b = s1.heap.objs.size := by simpa using hb
    subst e
    exact I1.fpOk (Nat.le_refl _) (I1.hok.fresh (Nat.le_refl _))
  cases ha : (tx l).cps.all (· < 128)
  · exact wpAny_pyIter_wide ha (fin "str_iterator" _ (.inr rfl) (fun A hA => Walks.strWide hA _ (tx l) t) ⟨_, Heap.get?_push_size _ rfl, rfl, rfl⟩)
  · exact wpAny_pyIter_ascii ha (fin "str_ascii_iterator" _ (.inl rfl) (fun A hA => Walks.strAscii hA _ (tx l) t) ⟨_, Heap.get?_push_size _ rfl, rfl, rfl⟩)
end
theorem for_text {l : List Nat} {g : TG} {tb : TS} {D : Ends} {σ : St} {H : Hp} (Pv : Nat → St → Hp → Prop) (h0 : Pv 0 σ H)
    (hs : ∀ i c σ H, l[i]? = some c → Pv i σ H → g (T [c]) σ H fun σ2 H2 => tb { D with nx := Pv (i + 1), ct := Pv (i + 1), bk := D.nx } σ2 H2) (hd : ∀ σ H, Pv l.length σ H → D.nx σ H) :
    ∃ W : Nat → Nat → St → Hp → Prop, (∃ m, W 0 m σ H) ∧ ∀ i m σ H, W i m σ H →
      ((Itx l).stop i H ∧ D.nx σ H) ∨ ((Itx l).go i H ∧ ∃ N : St → Hp → Prop, (∀ σ' H', N σ' H' → ∃ m', m' < m ∧ W (i + 1) m' σ' H') ∧ ∀ x H', (Itx l).yld i H x H' → g x σ H' fun σ2 H2 => tb { D with nx := N, ct := N, bk := D.nx } σ2 H2) := by
  refine ⟨fun i m σ H => m = l.length - i ∧ i ≤ l.length ∧ Pv i σ H, ⟨l.length, by simp, Nat.zero_le _, h0⟩, ?_⟩
  rintro i m σ H ⟨rfl, hi, p⟩
  by_cases hlt : i < l.length
  · refine .inr ⟨hlt, Pv (i + 1), fun σ' H' p' => ⟨l.length - (i + 1), by omega, rfl, hlt, p'⟩, fun x H' y => ?_⟩
    obtain ⟨rfl, c, hc, rfl⟩ := y
    exact hs i c σ _ hc p
  · obtain rfl : i = l.length := by omega
    exact .inl ⟨Nat.le_refl _, hd σ H p⟩

section
variable {X : Cx}
theorem op_in_sT : OpR X (compareOp .In) (fun x y H Q => ∃ c, x = T [c] ∧ ∃ l, y = T l ∧ Q (.bl (decide (c ∈ l))) H) := by
  intro pins s σ H x y v u Q I rx ry h
  obtain ⟨c, e1, l, e2, q⟩ := h
  exact op_in_str pins s σ H x y v u Q I rx ry ⟨tx [c], tx l, e1, e2, by rw [show tx [c] = ⟨#[c]⟩ from rfl, StrLaws.found_one, tx_cps]; exact q⟩
theorem op_notin_sT : OpR X (compareOp .NotIn) (fun x y H Q => ∃ c, x = T [c] ∧ ∃ l, y = T l ∧ Q (.bl (!decide (c ∈ l))) H) := by
  intro pins s σ H x y v u Q I rx ry h
  obtain ⟨c, e1, l, e2, q⟩ := h
  exact op_notin_str pins s σ H x y v u Q I rx ry ⟨tx [c], tx l, e1, e2, by rw [show tx [c] = ⟨#[c]⟩ from rfl, StrLaws.found_one, tx_cps]; exact q⟩
namespace RV
variable {prog : Program} {w : World} {A : Around} {E : Value → Shared → Prop} {s : Shared}
theorem collect_rev {Q : List Value → Shared → Prop} (hh : A.handled = none) {it l : Addr} {items : Array Value} (hit : s.heap.IsRevIter it l ((items.size : Int) - 1)) (hl : s.heap.IsList l items) (hne : l ≠ it)
    (hQ : ∀ h' tk, (∀ b o, b ≠ it → s.heap.get? b = some o → h'.get? b = some o) → Q items.toList.reverse { s with heap := h', toks := tk }) (hn : items.size ≤ sizeLine) :
    wpAny (model prog w) A (collect (.ref it)) Q E s := by
  obtain ⟨oi, hoi, ri⟩ := id hit
  obtain ⟨ol, hol, rl⟩ := id hl
  unfold collect
  refine wpAny_bind (wpAny_runValue (codeAny_builtin F.entry_proto_collect ?_))
  rw [Around.under_plainId F.plain_proto_collect]
  refine wpAny_bind (m := newList []) (wpAny_newObj_type (wpAny_pure ⟨plainId_quiet F.plain_list_iadd _, codeAny_builtin F.entry_list_iadd ?_⟩))
  rw [Around.under_plainId F.plain_list_iadd]
  have hS : (s.heap.push { cls := .type "list", data := .seq #[] }).get? s.heap.objs.size = some { cls := .type "list", data := .seq #[] } := Heap.get?_push_size _ rfl
  have go : ∀ R : Result → Shared → Prop, (∀ h' tk acc c, (∀ b o, b ≠ it → s.heap.get? b = some o → h'.get? b = some o) → h'.get? s.heap.objs.size = some { cls := .type "list", dict := none, data := .seq acc c, slots := #[] } → acc.toList = items.toList.reverse →
      R (.ok (.ret (.ref s.heap.objs.size))) { s with heap := h', toks := tk }) → wpAny (model prog w) A.in1 (Builtin.List.listExtendWith (.ref s.heap.objs.size) (.ref it) (.ref s.heap.objs.size))
        (fun fin s' => match fin with | .done f => R (.ok f) s' | .again c' => c'.quiet = true ∧ codeAny (model prog w) A c' R s') (fun e s' => R (.error e) s') { s with heap := s.heap.push { cls := .type "list", data := .seq #[] } } := fun R hR =>
    extend_rev (A := A) (s := { s with heap := s.heap.push { cls := .type "list", data := .seq #[] } }) hh ⟨oi, Heap.get?_push_of_some _ hoi, ri⟩ ⟨ol, Heap.get?_push_of_some _ hol, rl⟩ hne s.heap.objs.size (.ref s.heap.objs.size) 0
      (Ne.symm (Nat.ne_of_lt (Heap.lt_size hoi))) (Ne.symm (Nat.ne_of_lt (Heap.lt_size hol))) hS (fun h' tk acc' c' hk hS' hacc => hR h' tk acc' c' (fun b o hb e => hk b o (Nat.ne_of_lt (Heap.lt_size e)) hb (Heap.get?_push_of_some _ e)) hS' hacc) hn
  refine go (fun r s' => match r with
    | .ok (.ret v) => wpAny (model prog w) A (match v with
      | .ref a => do
        match (← load a).data with
        | .seq xs _ => pure xs.toList
        | _ => unsupported "internal:collect"
      | _ => unsupported "internal:collect") Q E s'
    | .ok _ => False
    | .error e => E e s') fun h' tk acc c hk hS' hacc => ?_
  refine wpAny_bind (m := load s.heap.objs.size) (wpAny_load hS' (wpAny_pure ?_))
  rw [hacc]
  exact hQ h' tk hk
theorem join_rev {Q : Value → Shared → Prop} (hh : A.handled = none) {it l : Addr} {items : Array Value} {x : Str} {t : Tok} {ys : List Str} (hit : s.heap.IsRevIter it l ((items.size : Int) - 1)) (hl : s.heap.IsList l items) (hne : l ≠ it) (hy : StrsAre items.toList.reverse ys)
    (hok : (ys.map (·.length)).sum + ys.length * x.length ≤ 16777216)
    (hQ : ∀ h' tk t', (∀ b o, b ≠ it → s.heap.get? b = some o → h'.get? b = some o) → Q (.str (Txt.join x ys) t') { s with heap := h', toks := tk }) (hn : items.size ≤ sizeLine) :
    wpAny (model prog w) A (call (.builtin "str.join") [.str x t, .ref it]) Q E s := by
  refine wpAny_call (codeAny_call_builtin F.slot_str_join.plain F.entry_str_join (F.slot_str_join.check _ _ _ _ _ _ _ _ (typeIs_str _ _ _) (F.args_str_join_2 _ _) ?_))
  rw [join_tree_other]
  refine wpAny_bind (wpAny_typeOf hit.typeIs ?_)
  rw [if_neg (by decide)]
  refine wpAny_bind (wpAny_tryCatch (wpAny_pyIter_revIter hit (wpAny_bind (collect_rev (A := A.in1) hh hit hl hne (fun h' tk hk => ?_) hn))))
  obtain ⟨lt, hv, ht⟩ := strsAre_values hy
  rw [hv]
  have hok' := joinOk_of hok
  unfold JoinOk at hok'
  rw [Bool.not_eq_true', ← ht] at hok'
  have g : Gives (joinTail x (strValues lt)) (joinMade x lt) := by
    have g0 := gives_joinTail x lt hok'
    cases lt with
    | nil => exact g0
    | cons p r => cases r with
      | nil => exact g0
      | cons q r' => exact g0
  refine g prog w A (wants Q E) { s with heap := h', toks := tk } (post_join lt ⟨joinFit_length hok', fun t' k => ?_⟩)
  rw [ht]
  exact hQ h' k t' hk
end RV
noncomputable def tJR (K : PySem.W.Frag) (t : TE) : TE := fun σ H Q => t σ H fun x H1 => ∃ (p : Addr) (ls : List (List Nat)), x = .ref p ∧ SqL K H1 p (ls.map T) ∧ ls.flatten.length ≤ sizeLine ∧ Q (T ls.reverse.flatten) H1
theorem pe_joinrev {e : Expr} {t : TE} {j} {cp apos cpos p2 pos2 : Pos} (hc : X.calm = true) (g2 : Gl X "reversed") (m2 : X.mg "reversed" = none) (he : PE X e t) {x0 : Str} (hx : x0 = tx [])
    (hbase : attributeBase (.Constant (.str x0) j cp) "join" X.env (eval (.Constant (.str x0) j cp) X.env) = eval (.Constant (.str x0) j cp) X.env := by rfl)
    (hline : (apos.endLine == cpos.line) = true := by rfl) (s1 : starEach [e] X.env = (false, eval e X.env) :: starEach [] X.env := by rfl)
    (hb2 : bootBuiltins "reversed" = some (.type "reversed") := by decide +kernel) :
    PE X (.Call (.Attribute (.Constant (.str x0) j cp) "join" apos) [.Call (.Name "reversed" p2) [e] [] pos2] [] cpos) (tJR X.K t) := by
  intro pins s σ H Q I h
  subst hx
  refine wpAny_Call_method_late hbase rfl hline rfl (Calls.Constant_str ?_)
  refine ⟨"str", "str.join", PySem.F.plainAttrs_str, PySem.F.slot_str_join, PySem.F.type_str_join, typeIs_str _ _ _, fun a z => (by cases z), ?_⟩
  refine Calls.callWith_builtin rfl (Calls.evalArgs_plain ?_)
  show wpAny _ _ (spliced ((false, eval (.Call (.Name "reversed" p2) [e] [] pos2) X.env) :: backTo cpos (starEach [] X.env))) _ _ _
  refine Calls.spliced_cons (thn (Q := fun u s1 => wpAny (model X.prog X.w) X.A (call (.builtin "str.join") [.str (tx []) s.toks, u]) (EP X pins σ Q) X.xe s1) ?_ fun u s1 z => Calls.spliced_nil z)
  have I0 : Inv X pins σ H { s with toks := s.toks + 1 } := I.tok _
  refine wpAny_Call_Name_kw (ld_blt I0 g2 m2 hb2 ?_ (by decide) (by decide))
  refine PyProof.Rows.callWith_type1 (arg1 (thn (he pins _ σ H _ I0 h) fun u s' ⟨v, H1, I1, r1, q1⟩ => ?_) s1) s1 rfl
  obtain ⟨p, ls, rfl, hq, hz2, q⟩ := q1
  cases r1
  obtain ⟨its, r, pl, hz⟩ := I1.list hq
  have hl := pl.isList
  refine call_reversed_list hl ?_
  have hlt : p < s'.heap.objs.size := by obtain ⟨o, ho, _⟩ := hl; exact Heap.lt_size ho
  have hl2 : (s'.heap.push (revObj p ((its.toArray.size : Int) - 1))).IsList p its.toArray := by
    obtain ⟨o, ho, rr⟩ := hl
    exact ⟨o, Heap.get?_push_of_some _ ho, rr⟩
  have hrv : Vals (ls.reverse.map T) its.toArray.toList.reverse := by
    rw [List.map_reverse]
    simpa using r.reverse
  have hs : sizeLine = 16777216 := sizeLine_eq
  have hfl : (ls.reverse.flatten).length = ls.flatten.length := ((List.reverse_perm ls).flatten).length_eq
  refine RV.join_rev (I1.ok.hd hc) (it := s'.heap.objs.size) (l := p) (items := its.toArray) (ys := ls.reverse.map tx) ⟨_, Heap.get?_push_size _ rfl, rfl, rfl⟩ hl2 (Nat.ne_of_lt hlt) (strsAre_T hrv) (by rw [sum_len_tx, tx_len, List.length_nil, Nat.mul_zero]; omega) (fun h' tk t' hk => ?_) (by rw [List.size_toArray, ← r.length]; exact hz)
  refine ⟨T ls.reverse.flatten, H1, I1.kept (t' := tk) fun b u eb => hk b u (Nat.ne_of_lt (Heap.lt_size eb)) (Heap.get?_push_of_some _ eb), ⟨t', by rw [join_tx]⟩, q⟩
end
end L2

set_option Elab.async false
set_option linter.all false
set_option maxRecDepth 100000
set_option maxHeartbeats 4000000

namespace L2
open PySem PySem.Spec PyProof.Rows

section
variable {P : Program} {w : World} {K : PySem.W.Frag} {mg : Str → Option Value} {base : Heap}
theorem Fun.okN {x qual : Str} {st : Stmt} {f : Addr} {fd : FuncData} {N ps : List Str} {k : Nat} {sp : Sp} (F : Fun K x qual st f fd) (S : FnScope N ps (defScope st)) (len : ∀ vs H Q E, sp vs H Q E → vs.length = ps.length)
    (hbody : ∀ (cdv : Value) (A : Around) (outer : List Env) (s : Shared) (H : Hp) (vs : List V) (Q : VK) (E : XK), Room k (A.deeper (envOfC qual (defScope st) s.heap.objs.size f cdv)) → sp vs H Q E →
      ∃ t, PSs (cxOf (CX1 P w) P w K mg base N qual (defScope st) f cdv A outer s H E).nox (defBody st) t ∧ t { nx := fun _ H' => Q .non H', rt := Q } (start N vs) H) : FnOk P w K mg base (CX1 P w) (k + 1) f fd ps sp := by
  obtain ⟨oc, od, kV, doc, pm, an, cdv, ct, osl, rfl, lk, hcd⟩ := F.ex
  refine fn_of lk hcd S len fun A outer s H vs Q E hr hsp => ?_
  obtain ⟨t, h, q⟩ := hbody cdv A outer s H vs Q E hr hsp
  exact ⟨t, h.nox, q⟩
end

namespace EX
open PySem.W PySem.Calls PySem.Builtin PySem.Builtin.ObjectAttr PySem.Builtin.Getset_descriptor
variable {prog : Program} {w : World} {A : Around} {E : Value → Shared → Prop} {s : Shared} {K : PySem.W.Frag} {a C : Addr}
end EX
section
variable {X : Cx}
theorem vals_refs : ∀ {cs : List Addr} {us : List Value}, Vals (cs.map V.ref) us → us = cs.map Value.ref
  | [], _, r => by cases r; rfl
  | c :: cs, us, r => by
    rw [List.map_cons] at r
    cases r with
    | cons r1 r2 =>
      cases r1
      rw [vals_refs r2]
      rfl
end
end L2

set_option Elab.async false
set_option linter.all false
set_option maxRecDepth 100000
set_option maxHeartbeats 4000000

namespace L2
open PySem PySem.Spec PyProof.Rows
section
variable {X : Cx} {es : List Expr} {te : TE} {t : TA}
theorem pa_cC {c : Const} {j : Nat} {p : Pos} (ha : PE X (.Constant c j p) te) (hr : PA X es t) : PA X (.Constant c j p :: es) (tCons te t) := pa_cons ha hr rfl
theorem pa_cN {x : Str} {p : Pos} (ha : PE X (.Name x p) te) (hr : PA X es t) : PA X (.Name x p :: es) (tCons te t) := pa_cons ha hr rfl
theorem pa_cT {as : List Expr} {k} {p : Pos} (ha : PE X (.Tuple as k p) te) (hr : PA X es t) : PA X (.Tuple as k p :: es) (tCons te t) := pa_cons ha hr rfl
noncomputable def cPairs : List ((Int × Nat × Pos) × (Int × Nat × Pos) × Nat × Pos) → List Expr
  | [] => []
  | ((i, j, p), (i', j', p'), k, q) :: r => .Tuple [.Constant (.int i) j p, .Constant (.int i') j' p'] k q :: cPairs r
noncomputable def tPairs : List (Int × Int) → TA
  | [] => fun _ H Q => Q [] H
  | (a, b) :: r => fun σ H Q => ∀ t, H t = none → tPairs r σ (upd H t (.tup [.int a, .int b])) fun vs H1 => Q (.ref t :: vs) H1
theorem pa_pairs : ∀ l : List ((Int × Nat × Pos) × (Int × Nat × Pos) × Nat × Pos), PA X (cPairs l) (tPairs (l.map fun x => (x.1.1, x.2.1.1)))
  | [] => pa_nil
  | ((i, j, p), (i', j', p'), k, q) :: r => fun pos pins s σ H Q I h => by
    have h0 : PE X (.Tuple [.Constant (.int i) j p, .Constant (.int i') j' p'] k q) (tTup (tCons (tC (.int i)) (tCons (tC (.int i')) tNil))) := pe_tup (pa_cC pe_int (pa_cC pe_int pa_nil))
    refine pa_cT (X := X) h0 (pa_pairs r) pos pins s σ H Q I ⟨?_, fun t ht => h t ht⟩
    have hs : sizeLine = 16777216 := sizeLine_eq
    show 2 ≤ sizeLine
    omega
theorem pairs_use : ∀ (l : List (Int × Int)) {σ : St} {H : Hp} {Q : List V → Hp → Prop},
    (∀ vs H1, vs.length = l.length → Same H H1 → (∀ (j : Nat) (p : Int × Int), l[j]? = some p → ∃ t, vs[j]? = some (.ref t) ∧ H1 t = some (.tup [.int p.1, .int p.2])) → Q vs H1) → tPairs l σ H Q
  | [], _, H, _, h => h [] H rfl (Same.refl _) fun j p e => by cases e
  | (a, b) :: r, σ, H, Q, h => fun t ht => by
    refine pairs_use r fun vs H1 hl hs hv => h (.ref t :: vs) H1 (by rw [List.length_cons, hl, List.length_cons]) (fun c o e => hs c o (by rw [upd_ne (ne_of_none e ht)]; exact e)) fun j p e => ?_
    cases j with
    | zero =>
      have e' : (a, b) = p := by simpa using e
      subst e'
      exact ⟨t, rfl, hs t _ upd_same⟩
    | succ j =>
      obtain ⟨t', h1, h2⟩ := hv j p (by simpa using e)
      exact ⟨t', by simpa using h1, h2⟩
end
end L2

set_option Elab.async false
set_option linter.all false
set_option maxRecDepth 100000
set_option maxHeartbeats 4000000

namespace L2
open PySem PySem.Spec PyProof.Rows
section
variable {X : Cx} {tg : Expr}
end
end L2

set_option Elab.async false
set_option linter.all false
set_option maxRecDepth 100000
namespace L2
open PySem
section
variable {X : Cx} {N' : List Str} {scope : Scope} {x : Str} {px : Pos} {elt iter cd : Expr} {pos : Pos} {te : TE} {tc : TT} {wi : TI}

theorem pe_compf (S : CompSc X.N N' X.env.scope scope x) (hc : X.calm = true) (hi : PI X (.Name x px) iter wi) (ht : ∀ cl C s H fp, PT (cxComp X N' scope cl C s H fp) cd tc) (he : ∀ cl C s H fp, PE (cxComp X N' scope cl C s H fp) elt te)
    (hs : ∀ x, foldedSetIterable iter X.env x = pure x := by intro _; rfl) : PE X (.ListComp elt [⟨.Name x px, iter, [cd], 0⟩] scope pos) (tCompF wi tc te) :=
  pe_compx (at' := fun σ Q => compAtF tc te σ Q) S hc hi (fun cl C s H fp => ptl_one (ht cl C s H fp)) he (fun _ _ _ _ h => h) hs
theorem ps_setCompf {i : Nat} {y : Str} {py spos : Pos} (S : CompSc X.N N' X.env.scope scope x) (hc : X.calm = true) (hi : PI X (.Name x px) iter wi) (ht : ∀ cl C s H fp, PT (cxComp X N' scope cl C s H fp) cd tc) (he : ∀ cl C s H fp, PE (cxComp X N' scope cl C s H fp) elt te)
    (hN : X.N.Nodup) (hy : X.N[i]? = some y) (hyl : X.env.scope.names.lookup y = some .local)
    (hsw : swapsWith (.ListComp elt [⟨.Name x px, iter, [cd], 0⟩] scope pos) (some (.Name y py)) spos.line X.env = pure true := by rfl)
    (hs : ∀ x, foldedSetIterable iter X.env x = pure x := by intro _; rfl) : PS X (.Assign [.Name y py] (.ListComp elt [⟨.Name x px, iter, [cd], 0⟩] scope pos) spos) (tAsg (tCompF wi tc te) (gName i)) :=
  ps_setCompx (at' := fun σ Q => compAtF tc te σ Q) S hc hi (fun cl C s H fp => ptl_one (ht cl C s H fp)) he (fun _ _ _ _ h => h) hN hy hyl hsw hs
end

section
variable {X : Cx}
end
theorem take_filter {α : Type} (p : α → Bool) (l : List α) (i : Nat) (v : α) (h : l[i]? = some v) : (l.take (i + 1)).filter p = (l.take i).filter p ++ (if p v then [v] else []) := by
  rw [List.take_add_one, h, List.filter_append]
  cases hp : p v <;> simp [hp]
theorem filter_take_len {α : Type} (p : α → Bool) (l : List α) (i : Nat) : ((l.take i).filter p).length ≤ i := by
  have h1 := List.length_filter_le p (l.take i)
  rw [List.length_take] at h1
  omega
theorem compf_texts {K : PySem.W.Frag} {a : Addr} {ls : List (List Nat)} {tc : TT} {te : TE} {σ : St} {H : Hp} {Q : VK} (p : List Nat → Bool) (hl : SqL K H a (ls.map T)) (hn : ls.length ≤ sizeLine)
    (he : ∀ (i : Nat) l H', ls[i]? = some l → Same H H' → ∀ N : Bool → Hp → Prop, (∀ H'', Same H' H'' → N (p l) H'') → tc (some (T l) :: σ) H' N)
    (hv : ∀ x H' (N : V → Hp → Prop), N x H' → te (some x :: σ) H' N)
    (hq : ∀ D H', H D = none → Same H H' → H' D = some (.lst ((ls.filter p).map T)) → Q (.ref D) H') :
    compAtF tc te σ Q (Itl K a) H := by
  intro D hD
  refine ⟨fun i m ys H2 => m = ls.length - i ∧ i ≤ ls.length ∧ ys = ((ls.take i).filter p).map T ∧ Same H H2 ∧ H2 D = some (.lst ys), ⟨ls.length, rfl, Nat.zero_le _, rfl, fun b o e => ?_, upd_same⟩, ?_⟩
  · rw [upd_ne (ne_of_none e hD)]
    exact e
  · rintro i m ys H2 ⟨rfl, hi, rfl, hs, hd⟩
    by_cases hlt : i < ls.length
    · have hx : ls[i]? = some ls[i] := List.getElem?_eq_getElem hlt
      have hx2 : (ls.map T)[i]? = some (T ls[i]) := by rw [List.getElem?_map, hx]; rfl
      refine .inr ⟨⟨ls.map T, T ls[i], hs.seq hl, hx2⟩, by have := filter_take_len p ls i; rw [List.length_map]; omega, fun v H' => v = T ls[i] ∧ p ls[i] = true ∧ Same H2 H', fun v H' ⟨ev, hp, hs'⟩ => ⟨hs' D _ hd, ls.length - (i + 1), by omega, rfl, hlt, ?app, fun b o e => ?kp, upd_same⟩,
        fun H' => p ls[i] = false ∧ Same H2 H', fun H' ⟨hp, hs'⟩ => ⟨ls.length - (i + 1), by omega, rfl, hlt, ?skp, fun b o e => hs' b o (hs b o e), hs' D _ hd⟩, fun y H' hy => ?stp⟩
      case app =>
        rw [ev, take_filter p ls i _ hx, hp, List.map_append]
        rfl
      case kp =>
        rw [upd_ne (ne_of_none e hD)]
        exact hs' b o (hs b o e)
      case skp =>
        rw [take_filter p ls i _ hx, hp]
        simp
      case stp =>
        obtain ⟨e1, e2⟩ := hy
        subst e1
        have e3 := e2 _ (hs.seq hl)
        have e4 : y = T ls[i] := by rw [hx2] at e3; exact (Option.some.inj e3).symm
        subst e4
        refine he i ls[i] _ hx hs _ fun H'' h'' => ?_
        by_cases hp : p ls[i] = true
        · rw [if_pos hp]
          exact hv _ H'' _ ⟨rfl, hp, h''⟩
        · rw [if_neg hp]
          exact ⟨by simpa using hp, h''⟩
    · have e : i = ls.length := by omega
      subst e
      rw [List.take_length] at hd
      exact .inl ⟨⟨ls.map T, hs.seq hl, by rw [List.length_map]; exact Nat.le_refl _⟩, hq D H2 hD hs hd⟩
theorem cutL_take (w : List Nat) (k : Nat) : cutL w none (some (k : Int)) = w.take k := by
  unfold cutL
  rw [HT.sIx_nat, HT.sIx_none, List.drop_zero, Nat.sub_zero]
  by_cases h : k ≤ w.length
  · rw [Nat.min_eq_left h]
  · rw [Nat.min_eq_right (by omega), List.take_length, List.take_of_length_le (by omega)]
end L2

set_option autoImplicit false
set_option linter.all false
set_option maxRecDepth 100000
namespace SR
open PySem PyProof.Rows
set_option genInjectivity false in
structure SB (kd : SortKind) (z : Array Keyed) (st : SortSt) : Prop where
  prm : (arrOf st).Perm z
  knd : kindOf st = kd
  ffl : failedOf st = none
section
variable {prog : Program} {w : World} {A : Around} {E : Value → Shared → Prop} {s : Shared} {z : Array Keyed} {κ : KeyKind} {kd : SortKind}
end
end SR

set_option autoImplicit false
set_option linter.all false
set_option maxRecDepth 100000
namespace SR
open PySem PyProof.Rows
section
variable {prog : Program} {w : World} {A : Around} {E : Value → Shared → Prop} {s : Shared} {z : Array Keyed} {κ : KeyKind} {kd : SortKind}
end
end SR

set_option autoImplicit false
set_option linter.all false
set_option maxRecDepth 100000
namespace SR
open PySem PyProof.Rows
section
variable {prog : Program} {w : World} {A : Around} {E : Value → Shared → Prop} {s : Shared} {z : Array Keyed} {κ : KeyKind} {kd : SortKind}
end
end SR

set_option autoImplicit false
set_option linter.all false
set_option maxRecDepth 100000
namespace SR
open PySem PyProof.Rows
section
variable {prog : Program} {w : World} {A : Around} {E : Value → Shared → Prop} {s : Shared} {κ : KeyKind} {kd : SortKind}
end
end SR

set_option autoImplicit false
set_option linter.all false
set_option maxRecDepth 100000
namespace SR
open PySem PyProof.Rows
noncomputable def rt (a : Array Keyed) (n : Nat) : List Keyed := (a.toList.take n).reverse
section
variable {prog : Program} {w : World} {A : Around} {E : Value → Shared → Prop} {s : Shared} {κ : KeyKind} {kd : SortKind}
end
end SR

set_option autoImplicit false
set_option linter.all false
set_option maxRecDepth 100000
namespace SR
open PySem PyProof.Rows
section
variable {κ : KeyKind} {kd : SortKind}
end
end SR

set_option autoImplicit false
set_option linter.all false
set_option maxRecDepth 100000
namespace SR
open PySem PyProof.Rows
section
variable {prog : Program} {w : World} {A : Around} {E : Value → Shared → Prop} {s : Shared} {z : Array Keyed} {κ : KeyKind} {kd : SortKind}
end
end SR

set_option autoImplicit false
set_option linter.all false
set_option maxRecDepth 100000
namespace SR
open PySem PyProof.Rows
section
variable {κ : KeyKind} {kd : SortKind}
end
section
variable {prog : Program} {w : World} {A : Around} {E : Value → Shared → Prop} {s : Shared} {z : Array Keyed} {κ : KeyKind} {kd : SortKind}
end
end SR

set_option autoImplicit false
set_option linter.all false
set_option maxRecDepth 100000
set_option maxHeartbeats 200000
namespace SR
open PySem PyProof.Rows PySem.Spec
section
variable {prog : Program} {w : World} {A : Around} {E : Value → Shared → Prop} {s : Shared}
end
end SR

set_option Elab.async false
set_option linter.all false
set_option maxRecDepth 100000
namespace L2
open PySem PyProof.Rows PySem.Spec
section
variable {X : Cx}
end
end L2

set_option Elab.async false
set_option linter.all false
set_option maxRecDepth 100000
namespace L2
open PySem PyProof.Rows PySem.Spec
section
variable {X : Cx}
theorem call_sumX (hc : X.calm = true) : CallR X (.builtin "sum") (fun xs H Q => ∃ (p : Addr) (ns : List Int), xs = [.ref p] ∧ SqL X.K H p (ns.map V.int) ∧ Q (.int ns.sum) H) := by
  intro pins s σ H xs us Q I r h
  obtain ⟨p, ns, rfl, hq, q⟩ := h
  obtain ⟨u, rfl, ru⟩ := vals1 r
  cases ru
  obtain ⟨its, rv, pl, _⟩ := I.list hq
  have hia := intsAre_of rv
  have hnum := hia.numsOf
  obtain ⟨ys, hx⟩ := hia.allInts.items
  have hl := pl.isList
  rw [hx] at hl
  have e : preSum (numAt ys) ys.size = ns.sum := by
    rw [preSum_eq, List.take_of_length_le (by simp)]
    rw [← hnum, show its = its.toArray.toList from by simp, hx, nums_intItems]
  exact sum_intListG (I.ok.hd hc) hl fun h' tk t' hk => ⟨.int ns.sum, H, I.kept hk, ⟨t', by rw [e]⟩, q⟩
end
end L2

namespace L2
open PySem PyProof.Rows PySem.Spec
section
variable {X : Cx}
theorem pe_bmK (K : PySem.W.Frag) (hK : X.K = K) {o e : Expr} {es : List Expr} {to : TE} {t : TA} {name : Str} {apos cpos : Pos} {T id : String} {r : V → List V → Hp → VK → Prop}
    (pa : PlainAttrs T) (slot : Slot T name id) (hty : typeOf (.builtin id) = pure (.type "method_descriptor")) (hm : MtR X id r) (ho : PE X o to) (ha : PA X (e :: es) t)
    (b1 : attributeBase o name X.env (eval o X.env) = eval o X.env := by rfl)
    (b2 : ((backTo cpos (starEach (e :: es) X.env)).all (fun x => !x.1) && (backToKw cpos (keywordEach [] X.env)).all (fun x => x.1.isSome) && decide ((e :: es).length + ([] : List Keyword).length + (if ([] : List Keyword).isEmpty then 0 else 1) < 30)) = true := by rfl)
    (b3 : (apos.endLine == cpos.line) = true := by rfl) (b4 : starEach (e :: es) X.env = (false, eval e X.env) :: starEach es X.env := by rfl) (b5 : (backTo cpos (starEach es X.env)).any (·.1) = false := by rfl) :
    PE X (.Call (.Attribute o name apos) (e :: es) [] cpos) (tBM K T r to t) := by
  subst hK
  exact pe_bm pa slot hty hm ho ha b1 b2 b3 b4 b5
end
end L2

set_option Elab.async false
set_option linter.all false
set_option maxRecDepth 100000
set_option Elab.async false
set_option linter.all false
set_option maxRecDepth 100000
namespace L2
open PySem PySem.Spec PyProof.Rows

end L2

namespace L2
open PySem PySem.Spec PyProof.Rows

section
variable (P : Program) (w : World)
end

section
variable {P : Program} {w : World} {H H' : Hp} {h h' : Heap} {a : Addr} {o : HO}
end

section
variable {P : Program} {w : World} {H : Hp} {h h' : Heap} {x e : Addr} {o' : HO}
end

section
variable {fs fs' ex ex' : List Addr} {H H1 H2 : Hp} {h h1 h2 h' : Heap} {a x e : Addr} {o : HO}
end

end L2

namespace L2
open PySem PySem.Spec PyProof.Rows

section
variable {X : Cx} {pins : List (Addr × Obj)} {σ : List (Option V)} {H H' : Hp} {s : Shared} {h' : Heap}

end

end L2

namespace L2
open PySem PySem.Spec PyProof.Rows
section
variable {X : Cx}

variable {a b : Expr} {ta tb : TE} {pos : Pos}
variable {tA tB' : TT} {rest : List Expr}
end
end L2

namespace L2
open PySem PySem.Spec PyProof.Rows

section
variable {X : Cx} {pins : List (Addr × Obj)} {σ : St} {H : Hp} {s : Shared} {a : Addr} {xs ys : List V}
end

section
variable {X : Cx} {pins : List (Addr × Obj)} {σ : St} {H : Hp} {s : Shared} {E : Value → Shared → Prop}
end

section
variable {X : Cx} {st : Stmt} {rest : List Stmt} {t u : TS} {e : Expr} {te : TE} {pos : Pos}
end

section
variable {X : Cx} {pos : Pos}
end

section
variable {X : Cx} {pos : Pos}
end

end L2

namespace L2
open PySem PySem.Spec PyProof.Rows
section
variable {X : Cx} {tg : Expr}
end

end L2

namespace L2
open PySem PySem.Spec PyProof.Rows

section
variable {X : Cx} {a b c : Expr} {ta tb tc : TE} {pos : Pos}

end

section
variable {X : Cx} {a b c : Expr} {ta tb tc : TE} {pos : Pos}
end
end L2

namespace L2
open PySem PySem.Spec PyProof.Rows

section
variable {prog : Program} {w : World} {A : Around} {E : Value → Shared → Prop} {s : Shared} {K : PySem.W.Frag} {x dx C f : Addr} {mA : Str → Option Value} {name : Str} {v : Value}

end

section
variable {P : Program} {w : World} {H H' : Hp} {h h' : Heap} {a C dx : Addr} {fs fs' : List (Str × V)}
end

section
variable {X : Cx} {pins : List (Addr × Obj)} {σ : St} {H : Hp} {s : Shared} {a C dx : Addr} {fs : List (Str × V)} {f : Str} {v : V} {A : Around} {E : Value → Shared → Prop}

end

section
variable {X : Cx} {o e value : Expr} {f : Str} {pos pos' tpos : Pos} {ta tv : TE}
end

section
variable {X : Cx} {pins : List (Addr × Obj)} {σ : St} {H : Hp} {s : Shared} {A : Around} {E : Value → Shared → Prop} {Q : Value → Shared → Prop} {c : Value} {b : Bool}
end
end L2

namespace L2
open PySem PySem.Spec PyProof.Rows

section
variable {X : Cx} {e : Expr} {es : List Expr} {te : TE} {t : TA} {pos : Pos}
end

section
variable {X : Cx} {pins : List (Addr × Obj)} {σ : St} {H : Hp} {s s' : Shared}
end

section
variable {X : Cx} {CX : CXT} {k : Nat} {f C : Addr} {fd : FuncData} {ps : List Str} {sp : Sp} {dvs : List V} {ds : List Value} {E : XK} {x m : Str} {p pos apos : Pos} {e o : Expr} {es : List Expr} {ta : TE} {t : TA}

end

section
variable {X : Cx} {CX : CXT} {k : Nat} {f C : Addr} {fd : FuncData} {ps ks : List Str} {sp : Sp} {E : XK} {x m : Str} {p pos apos kpos : Pos} {e o : Expr} {es : List Expr} {kws : List Keyword} {te ta : TE} {t tk : TA} {nm : Option Str}
variable {g : List Value → List Value → List Value} {gV : List V → List V → List V}
end

end L2

namespace L2
open PySem PySem.Spec PyProof.Rows
section
variable {X : Cx} {x : Str} {p pos : Pos} {e : Expr} {es : List Expr} {t : TA} {id T : String} {r : List V → Hp → VK → Prop}

end
end L2

namespace L2
open PySem PySem.Spec PyProof.Rows

section
variable {κ : Type} [DecidableEq κ]
end


noncomputable abbrev KT (H : Hp) : List (List Key × V) → List (List Key × Addr × Value) → Prop := Paired fun p q => p.1 = q.1 ∧ H q.2.1 = some (.tup (p.1.map kV)) ∧ RelV p.2 q.2.2
section
variable {P : Program} {w : World} {H : Hp} {h : Heap} {a : Addr}
end

section
variable {X : Cx} {pins : List (Addr × Obj)} {σ : St} {H : Hp} {s : Shared} {a : Addr} {y v : V} {u r : Value} {o : Option V} {A : Around} {E : Value → Shared → Prop}

end

section
variable {X : Cx} {pins : List (Addr × Obj)} {σ : St} {H : Hp} {s : Shared} {a : Addr} {kvs : List (Key × V)} {k : Key} {u : Value} {A : Around} {E : Value → Shared → Prop}
end


section
variable {X : Cx} {o i e value : Expr} {pos pos' tpos : Pos} {td ty tv : TE}
end


section
variable {X : Cx} {pos : Pos}
end

set_option genInjectivity false in
structure M2 (X : Cx) (o : Expr) (m : Str) (apos : Pos) (e f : Expr) (cpos : Pos) : Prop where
  base : attributeBase o m X.env (eval o X.env) = eval o X.env
  few : ((backTo cpos (starEach [e, f] X.env)).all (fun x => !x.1) && (backToKw cpos (keywordEach [] X.env)).all (fun x => x.1.isSome)
    && decide (([e, f] : List Expr).length + ([] : List Keyword).length + (if ([] : List Keyword).isEmpty then 0 else 1) < 30)) = true
  line : (apos.endLine == cpos.line) = true
  trees : backTo cpos (starEach [e, f] X.env) = [(false, eval e X.env), (false, eval f X.env)]

section
variable {X : Cx} {pins : List (Addr × Obj)} {σ : St} {H : Hp} {s : Shared} {a : Addr} {y d : V} {u r : Value} {o : Option V} {A : Around} {E : Value → Shared → Prop}
end

section
variable {X : Cx} {o e f : Expr} {apos cpos : Pos} {td ty tx : TE}
end

section
variable {X : Cx} {pins : List (Addr × Obj)} {σ : St} {H : Hp} {s : Shared} {a : Addr} {kvs : List (Key × V)} {A : Around} {E : Value → Shared → Prop}
end


section
variable {X : Cx} {pins : List (Addr × Obj)} {σ : St} {H : Hp} {s : Shared} {a : Addr} {y : V} {u : Value} {A : Around} {E : Value → Shared → Prop}
end
end L2

namespace Att
open PySem PySem.W PySem.Calls PyProof.Rows

section
variable {prog : Program} {w : World} {A : Around} {E : Value → Shared → Prop} {s : Shared} {K : Frag}

end
end Att

namespace L2
open PySem PySem.Spec PyProof.Rows

end L2

namespace L2
open PySem PySem.Spec PyProof.Rows

end L2

namespace L2
open PySem PySem.Spec PyProof.Rows

section
variable {P : Program} {w : World} {K : PySem.W.Frag} {mg : Str → Option Value} {base : Heap}
end
section
variable {X : Cx}
end

section
variable {κ : Type} [DecidableEq κ]
end
end L2


set_option Elab.async false
set_option linter.all false
set_option maxRecDepth 100000
set_option maxHeartbeats 400000
namespace L2
open PySem PySem.Spec PyProof.Rows
namespace RT
noncomputable def obj (x : Str) (t : Tok) (i : Int) : Obj := { cls := .type "reversed", data := .fields #[.str x t, rawInt i] }
section
variable {prog : Program} {w : World} {A : Around} {E : Value → Shared → Prop} {s : Shared}
end
section
variable {prog : Program} {w : World} {A : Around} {E : Value → Shared → Prop} {s : Shared}
end
end RT
section
variable {X : Cx}
end
end L2

set_option Elab.async false
set_option linter.all false
set_option maxRecDepth 100000
namespace L2
open PySem PySem.Spec PyProof.Rows
section
variable {X : Cx}
end
end L2
namespace L2
open PySem PySem.Spec PyProof.Rows
set_option genInjectivity false in
structure Cam (P : Program) (w : World) (K : PySem.W.Frag) (mg : Str → Option Value) (base : Heap) (CX : CXT) (x : Str) (C : Addr) (k : Nat) (ps : List Str) (sp : Sp) : Prop where
  ex : ∃ (f : Addr) (fd : FuncData), FnOk P w K mg base CX k f fd ps sp ∧ Mk K C f ∧ mg x = some (.ref C) ∧ Binds K fd ps []
section
variable {X : Cx}
theorem pe_mak {CX : CXT} {x : Str} {C : Addr} {j k : Nat} {ps : List Str} {sp : Sp} {E : XK} {e : Expr} {es : List Expr} {t : TA} {p pos : Pos} (c : Cam X.prog X.w X.K X.mg X.base CX x C j ps sp) (hr : Room k X.A) (hx : Passes CX X E) (ha : PA X (e :: es) t)
    (hjk : j + 1 ≤ k := by decide) (hg : Gl X x := by rfl) (b1 : (x == ("__debug__" : Str)) = false := by decide) (b2 : starEach (e :: es) X.env = (false, eval e X.env) :: starEach es X.env := by rfl) (b3 : (backTo pos (starEach es X.env)).any (·.1) = false := by rfl) :
    PE X (.Call (.Name x p) (e :: es) [] pos) (tMake C sp [] E t) := by
  obtain ⟨f, fd, F, M, hm, hb⟩ := c.ex
  exact pe_make M F (hr.mono hjk) hg hm hb .nil hx ha b1 b2 b3
end
end L2

set_option Elab.async false
set_option linter.all false
set_option maxRecDepth 100000
set_option maxHeartbeats 4000000
namespace L2
open PySem PySem.Spec PyProof.Rows
section
variable {X : Cx}
end
namespace SE
section
variable {prog : Program} {w : World} {A : Around} {E : Value → Shared → Prop} {s : Shared}
theorem call_ofTu {l : Addr} {its : Array Value} {ls : List (List Nat)} {Q : Value → Shared → Prop} (hh : A.handled = none) (hl : s.heap.IsTuple l its) (hv : ∀ i v, its[i]? = some v → ∃ t, v = Value.str (tx (ls.getD i [])) t) (hn : its.size + 1 < scanBound)
    (h : ∀ (h' : Heap) (tk : Nat), Has prog w h' s.heap.objs.size (nubTo ls its.size) → (∀ b o, s.heap.get? b = some o → h'.get? b = some o) → Q (.ref s.heap.objs.size) { s with heap := h', toks := tk }) :
    wpAny (model prog w) A (call (.type "set") [.ref l]) Q E s := by
  obtain ⟨mc, mt, f0⟩ := F.called_set.mro
  have f1 := F.called_set.made; have f2 := F.called_set.sub; have f3 := F.called_set.notType; have f4 := F.called_set.canCreate; have f5 := F.typeCall_set_1 (.ref l)
  refine wpAny_call (codeAny_of_tree (show wpAny _ _ (callAny (.type "set") _) _ _ _ from wpAny_pure ⟨Code.quiet_builtin _ (by decide +kernel), codeAny_builtin F.entry_type_call ?_⟩))
  rw [Around.under_plain (weight_type_call_type "set" [.ref l] []) rfl]
  repeat (any_goals (first | wp_step | assumption))
  refine codeAny_mono (code_set_new_1 (.ref l) (E := E) (Q₁ := fun ob s1 => ∃ b : Bool, ob = .ref s.heap.objs.size ∧ s1 = { s with heap := s.heap.push { cls := .type "set", dict := none, data := .set #[] 0 (.fresh 0 0 b) } }) fun b => ⟨b, rfl, rfl⟩) fun r s1 hr => ?_
  cases r with
  | error e => exact hr
  | ok fl =>
    cases fl with
    | ret ob =>
      obtain ⟨b, rfl, rfl⟩ := hr
      generalize hob : ({ cls := .type "set", dict := none, data := .set #[] 0 (.fresh 0 0 b) } : Obj) = ob
      have hD : (s.heap.push ob).get? s.heap.objs.size = some ob := Heap.get?_push_size _ (by rw [← hob]; rfl)
      have hT : Shared.TypeIs { s with heap := s.heap.push ob } (.ref s.heap.objs.size) "set" := ⟨_, hD, by rw [← hob]⟩
      have f6 := F.called_set.init.lookup; have f7 := F.called_set.init.bind (.ref s.heap.objs.size)
      repeat (any_goals (first | wp_step | assumption))
      refine codeAny_mono (codeAny_call_builtin (R := wants (fun r s2 => r = .none ∧ ∃ h' tk, s2 = { s with heap := h', toks := tk } ∧ Has prog w h' s.heap.objs.size (nubTo ls its.size) ∧ ∀ b o, s.heap.get? b = some o → h'.get? b = some o) E)
        F.called_set.init.plain F.entry_set_init (check_set_init_1 hT ?_)) fun r2 s2 hr2 => ?_
      · obtain ⟨⟨oc, od, odt, osl⟩, hol, hcl, nl, hdl⟩ := id hl
        simp only at hcl hdl
        subst hcl hdl
        have hol' : (s.heap.push ob).get? l = some { cls := .type "tuple", dict := od, data := .seq its nl, slots := osl } := Heap.get?_push_of_some _ hol
        have f8 := F.sub_tuple_set; have f9 := F.sub_tuple_frozenset
        have f10 : (Value.type "tuple" == Value.type "dict") = false := by decide
        have hl1 : (s.heap.push ob).IsTuple l its := ⟨_, hol', rfl, nl, rfl⟩
        subst hob
        unfold Builtin.«set.__init__» noKeywords Builtin.Frozenset.updateFrom
        generalize hPI : pyIter = PI
        wp_walk
        subst hPI
        refine wpAny_pyIter_tuple hl1 ?_
        refine wpAny_bind (wpAny_runValue ?_)
        have hlt : l < s.heap.objs.size := Heap.lt_size hol
        have hh3 : A.in1.in1.in1.handled = none := by simp [hh]
        have hsz : (s.heap.push { cls := .type "set", dict := none, data := .set #[] 0 (.fresh 0 0 b) }).objs.size = s.heap.objs.size + 1 := Heap.size_push _ _
        have hne : l ≠ (s.heap.push { cls := .type "set", dict := none, data := .set #[] 0 (.fresh 0 0 b) }).objs.size := by rw [hsz]; exact Nat.ne_of_lt (Nat.lt_succ_of_lt hlt)
        have hfp : s.heap.objs.size ∉ [(s.heap.push { cls := .type "set", dict := none, data := .set #[] 0 (.fresh 0 0 b) }).objs.size, l] := by
          rw [hsz]
          intro z
          rcases List.mem_cons.mp z with e | e
          · exact Nat.ne_of_lt (Nat.lt_succ_self _) e
          · exact Nat.ne_of_gt hlt (List.mem_singleton.mp e)
        refine loop ((Walks.tuple hh3 _ l hne its).toS) (D := s.heap.objs.size) hfp ls hv hn (its.size - 0) 0 _ (by omega) (Nat.zero_le _) ⟨⟨_, Heap.get?_push_size _ rfl, rfl, rfl⟩, hl1.push _⟩ ?_ fun s3 mv x3 => ?_
        · have hg : ((s.heap.push { cls := .type "set", dict := none, data := .set #[] 0 (.fresh 0 0 b) }).push { cls := .type "tuple_iterator", data := .fields #[.ref l, .int 0 0] }).get? s.heap.objs.size = some { cls := .type "set", dict := none, data := .set #[] 0 (.fresh 0 0 b) } := Heap.get?_push_of_some _ hD
          exact PyProof.Rows.SetOf_congr ((PyProof.Rows.setObjOf_fresh (knd := PySem.strKind prog w) b).setOf hg (by unfold scanBound; omega)) (fun _ => rfl) rfl
        · obtain ⟨h3, g3, d3, tk3, os3⟩ := s3
          obtain rfl : g3 = s.gens := mv.gens
          obtain rfl : d3 = s.drawn := mv.drawn
          obtain rfl : os3 = s.os := mv.os
          refine wpAny_pure (show wpAny _ _ (ret Value.none) _ _ _ from wpAny_pure ⟨rfl, h3, tk3, rfl, x3, fun c o e => ?_⟩)
          have hc := Heap.lt_size e
          exact mv.heap c o (show c ∉ [s.heap.objs.size, (s.heap.push { cls := .type "set", dict := none, data := .set #[] 0 (.fresh 0 0 b) }).objs.size] by
            rw [hsz]
            intro z
            rcases List.mem_cons.mp z with e | e
            · exact Nat.ne_of_lt hc e
            · exact Nat.ne_of_lt (Nat.lt_succ_of_lt hc) (List.mem_singleton.mp e)) (Heap.get?_push_of_some _ (Heap.get?_push_of_some _ e))
      · cases r2 with
        | error e => exact hr2
        | ok fl2 =>
          cases fl2 with
          | ret r =>
            obtain ⟨rfl, h3, tk, rfl, x3, k3⟩ := hr2
            repeat (any_goals (first | wp_step | assumption))
            exact h _ _ x3 k3
          | _ => exact hr2.elim
    | _ => exact hr.elim
end
end SE
section
variable {X : Cx}
theorem call_setTu (hc : X.calm = true) : CallR X (.type "set") (fun xs H Q => ∃ (p : Addr) (ls : List (List Nat)), xs = [.ref p] ∧ SqT X.K H p (ls.map T) ∧ ls.length + 1 < 4096 ∧ ∀ D, H D = none → Q (.ref D) (upd H D (SetT X.prog X.w D (uniq ls)))) := by
  intro pins s σ H xs us Q I r h
  obtain ⟨p, ls, rfl, hq, hz, q⟩ := h
  obtain ⟨u, rfl, ru⟩ := vals1 r
  cases ru
  obtain ⟨its, rv, pl, _⟩ := I.tuple hq
  have hlen := rv.length
  rw [List.length_map] at hlen
  refine SE.call_ofTu (I.ok.hd hc) pl (ls := ls) (fun i v e => str_at rv (by simpa using e)) (by rw [List.size_toArray]; unfold scanBound; omega) fun h' tk x k => ?_
  have e : nubTo ls its.toArray.size = uniq ls := by rw [List.size_toArray, ← hlen]; rfl
  rw [e] at x
  have hf : H s.heap.objs.size = none := I.hok.fresh (Nat.le_refl _)
  refine ⟨.ref s.heap.objs.size, _, I.laid (t' := tk) k (Nat.le_refl _) (o := SetT X.prog X.w s.heap.objs.size (uniq ls)) ?_, rfl, q _ hf⟩
  refine ⟨x, ?_, fun h1 h2 x1 kk => x1.at kk⟩
  obtain ⟨o, _, _, _, ho, _⟩ := x
  exact ⟨o, ho⟩

end
end L2

set_option Elab.async false
set_option linter.all false
set_option maxRecDepth 100000
namespace ST
open PySem PySem.SetTable

noncomputable def it (M : Nat) : Nat → Nat → Nat
  | 0, i => i
  | s + 1, i => it M s ((i * 5 + 1) % M)
noncomputable def vals (N : Nat) (f : Nat → Option Nat) : List Nat := (List.range N).filterMap f
noncomputable def Good (mask : Nat) (owner : Array (Option Nat)) (k : Nat) : Prop := owner.size = mask + 1 ∧ (vals (mask + 1) fun j => owner.getD j none).Perm (List.range k)
end ST

set_option Elab.async false
set_option linter.all false
set_option maxRecDepth 100000
set_option maxHeartbeats 4000000
namespace SS
open PySem PyProof.Rows
section
variable {prog : Program} {w : World} {A : Around} {E : Value → Shared → Prop} {s : Shared}
end
end SS

set_option Elab.async false
set_option linter.all false
set_option maxRecDepth 100000
set_option maxHeartbeats 4000000
namespace SS
open PySem PyProof.Rows

section
variable {prog : Program} {w : World} {A : Around} {E : Value → Shared → Prop} {s : Shared}
end
end SS

set_option Elab.async false
set_option linter.all false
set_option maxRecDepth 100000
set_option maxHeartbeats 4000000
namespace SS
open PySem PyProof.Rows
section
variable {prog : Program} {w : World} {A : Around} {E : Value → Shared → Prop} {s : Shared}
end
end SS

set_option Elab.async false
set_option linter.all false
set_option maxRecDepth 100000
set_option maxHeartbeats 4000000
namespace SS
open PySem PyProof.Rows
noncomputable def It (h : Heap) (I a : Addr) (first : Value) (i n ep : Nat) : Prop := ∃ o, h.get? I = some o ∧ o.cls = .type "set_iterator" ∧ o.data = .fields #[first, rawInt (i : Int), .ref a, rawInt (n : Int), rawInt (ep : Int)]
section
variable {prog : Program} {w : World} {A : Around} {E : Value → Shared → Prop} {s : Shared}
end
end SS

set_option Elab.async false
set_option linter.all false
set_option maxRecDepth 100000
set_option maxHeartbeats 4000000
namespace SS
open PySem PyProof.Rows
section
variable {prog : Program} {w : World} {A : Around} {E : Value → Shared → Prop} {s : Shared}
end
end SS

set_option Elab.async false
set_option linter.all false
set_option maxRecDepth 100000
set_option maxHeartbeats 4000000
namespace SS
open PySem PyProof.Rows
section
variable {prog : Program} {w : World} {A : Around} {E : Value → Shared → Prop} {s : Shared}
end
end SS

set_option Elab.async false
set_option linter.all false
set_option maxRecDepth 100000
set_option maxHeartbeats 4000000
namespace SS
open PySem PyProof.Rows
section
variable {prog : Program} {w : World} {A : Around} {E : Value → Shared → Prop} {s : Shared}
end
end SS

set_option Elab.async false
set_option linter.all false
set_option maxRecDepth 100000
set_option maxHeartbeats 4000000
namespace L2
open PySem PySem.Spec PyProof.Rows
namespace SE
section
variable {prog : Program} {w : World} {A : Around} {R : Result → Shared → Prop} {J : Addr} {fp wr : List Addr} {G : Array GenState → Array GenState → Prop} {n : Nat} {P : Nat → Value → Prop} {St : Nat → Shared → Prop}
variable {E : Value → Shared → Prop} {s : Shared}
end
end SE
section
variable {X : Cx}
end
end L2

set_option Elab.async false
set_option linter.all false
set_option maxRecDepth 100000
namespace L2
open PySem PySem.Spec PyProof.Rows
set_option genInjectivity false in
structure Reads (J : It) (H : Hp) (vs : List V) : Prop where
  go : ∀ i H', Same H H' → i < vs.length → J.go i H'
  yl : ∀ i H' y H2, Same H H' → J.yld i H' y H2 → H2 = H' ∧ vs[i]? = some y
  st : ∀ H', Same H H' → J.stop vs.length H'
theorem reads_list {K : PySem.W.Frag} {a : Addr} {H : Hp} {vs : List V} (h : SqL K H a vs) : Reads (Itl K a) H vs :=
  ⟨fun i H' s hi => ⟨vs, vs[i], s.seq h, List.getElem?_eq_getElem hi⟩, fun i H' y H2 s ⟨e1, e2⟩ => ⟨e1, e2 vs (s.seq h)⟩, fun H' s => ⟨vs, s.seq h, Nat.le_refl _⟩⟩
theorem tupOn {K : PySem.W.Frag} {H H' : Hp} {p : Addr} {xs : List V} (s : Same H H') (h : SqT K H p xs) : SqT K H' p xs := by
  rcases h with (h | ⟨q, h⟩) | h
  · exact .inl (.inl (s _ _ h))
  · exact .inl (.inr ⟨q, s _ _ h⟩)
  · exact .inr h
theorem reads_tup {K : PySem.W.Frag} {a : Addr} {H : Hp} {vs : List V} (h : SqT K H a vs) : Reads (Itt K a) H vs :=
  ⟨fun i H' s hi => ⟨vs, vs[i], tupOn s h, List.getElem?_eq_getElem hi⟩, fun i H' y H2 s ⟨e1, e2⟩ => ⟨e1, e2 vs (tupOn s h)⟩, fun H' s => ⟨vs, tupOn s h, Nat.le_refl _⟩⟩
theorem reads_text {l : List Nat} {H : Hp} : Reads (Itx l) H ((l.map fun c => [c]).map T) :=
  ⟨fun i H' _ hi => by (show i < l.length; simpa using hi), fun i H' y H2 _ ⟨e1, c, hc, e2⟩ => ⟨e1, by rw [List.getElem?_map, List.getElem?_map, hc, e2]; rfl⟩, fun H' _ => by show l.length ≤ _; simp⟩
theorem compG {J : It} {vs : List V} {te : TE} {σ : St} {H : Hp} {Q : VK} (f : V → V) (rd : Reads J H vs) (hn : vs.length ≤ sizeLine)
    (he : ∀ x H', x ∈ vs → Same H H' → ∀ N : V → Hp → Prop, (∀ H'', Same H' H'' → N (f x) H'') → te (some x :: σ) H' N)
    (hq : ∀ D H', H D = none → Same H H' → H' D = some (.lst (vs.map f)) → Q (.ref D) H') : compAt te σ Q J H := by
  intro D hD
  refine ⟨fun i m ys H2 => m = vs.length - i ∧ i ≤ vs.length ∧ ys = (vs.take i).map f ∧ Same H H2 ∧ H2 D = some (.lst ys), ⟨vs.length, rfl, Nat.zero_le _, rfl, fun b o e => ?_, upd_same⟩, ?_⟩
  · rw [upd_ne (ne_of_none e hD)]
    exact e
  · rintro i m ys H2 ⟨rfl, hi, rfl, hs, hd⟩
    by_cases hlt : i < vs.length
    · have hx : vs[i]? = some vs[i] := List.getElem?_eq_getElem hlt
      refine .inr ⟨rd.go i H2 hs hlt, by rw [List.length_map, List.length_take]; omega, fun v H' => v = f vs[i] ∧ Same H2 H', fun v H' ⟨ev, hs'⟩ => ⟨hs' D _ hd, vs.length - (i + 1), by omega, rfl, hlt, ?app, fun b o e => ?kp, upd_same⟩, fun y H' hy => ?stp⟩
      case app =>
        rw [ev, List.take_add_one, hx, List.map_append]
        rfl
      case kp =>
        rw [upd_ne (ne_of_none e hD)]
        exact hs' b o (hs b o e)
      case stp =>
        obtain ⟨rfl, e2⟩ := rd.yl i H2 y H' hs hy
        have e4 : y = vs[i] := by rw [hx] at e2; exact (Option.some.inj e2).symm
        subst e4
        exact he _ _ (List.getElem_mem hlt) hs _ fun H'' h'' => ⟨rfl, h''⟩
    · have e : i = vs.length := by omega
      subst e
      rw [List.take_length] at hd
      exact .inl ⟨rd.st H2 hs, hq D H2 hD hs hd⟩
theorem compFG {J : It} {vs : List V} {tc : TT} {te : TE} {σ : St} {H : Hp} {Q : VK} (p : V → Bool) (f : V → V) (rd : Reads J H vs) (hn : vs.length ≤ sizeLine)
    (ht : ∀ x H', x ∈ vs → Same H H' → ∀ N : Bool → Hp → Prop, (∀ H'', Same H' H'' → N (p x) H'') → tc (some x :: σ) H' N)
    (he : ∀ x H', x ∈ vs → p x = true → Same H H' → ∀ N : V → Hp → Prop, (∀ H'', Same H' H'' → N (f x) H'') → te (some x :: σ) H' N)
    (hq : ∀ D H', H D = none → Same H H' → H' D = some (.lst ((vs.filter p).map f)) → Q (.ref D) H') : compAtF tc te σ Q J H := by
  intro D hD
  refine ⟨fun i m ys H2 => m = vs.length - i ∧ i ≤ vs.length ∧ ys = ((vs.take i).filter p).map f ∧ Same H H2 ∧ H2 D = some (.lst ys), ⟨vs.length, rfl, Nat.zero_le _, rfl, fun b o e => ?_, upd_same⟩, ?_⟩
  · rw [upd_ne (ne_of_none e hD)]
    exact e
  · rintro i m ys H2 ⟨rfl, hi, rfl, hs, hd⟩
    by_cases hlt : i < vs.length
    · have hx : vs[i]? = some vs[i] := List.getElem?_eq_getElem hlt
      refine .inr ⟨rd.go i H2 hs hlt, by have := filter_take_len p vs i; rw [List.length_map]; omega, fun v H' => v = f vs[i] ∧ p vs[i] = true ∧ Same H2 H', fun v H' ⟨ev, hp, hs'⟩ => ⟨hs' D _ hd, vs.length - (i + 1), by omega, rfl, hlt, ?app, fun b o e => ?kp, upd_same⟩,
        fun H' => p vs[i] = false ∧ Same H2 H', fun H' ⟨hp, hs'⟩ => ⟨vs.length - (i + 1), by omega, rfl, hlt, ?skp, fun b o e => hs' b o (hs b o e), hs' D _ hd⟩, fun y H' hy => ?stp⟩
      case app =>
        rw [ev, take_filter p vs i _ hx, hp, List.map_append]
        rfl
      case kp =>
        rw [upd_ne (ne_of_none e hD)]
        exact hs' b o (hs b o e)
      case skp =>
        rw [take_filter p vs i _ hx, hp]
        simp
      case stp =>
        obtain ⟨rfl, e2⟩ := rd.yl i H2 y H' hs hy
        have e4 : y = vs[i] := by rw [hx] at e2; exact (Option.some.inj e2).symm
        subst e4
        refine ht _ _ (List.getElem_mem hlt) hs _ fun H'' h'' => ?_
        by_cases hp : p vs[i] = true
        · rw [if_pos hp]
          exact he _ _ (List.getElem_mem hlt) hp (hs.trans h'') _ fun H3 h3 => ⟨rfl, hp, h''.trans h3⟩
        · rw [if_neg hp]
          exact ⟨by simpa using hp, h''⟩
    · have e : i = vs.length := by omega
      subst e
      rw [List.take_length] at hd
      exact .inl ⟨rd.st H2 hs, hq D H2 hD hs hd⟩
noncomputable def unT : V → List Nat
  | .str x => x.cps.toList
  | _ => []
theorem unT_T (l : List Nat) : unT (T l) = l := tx_cps l
section
variable {X : Cx}
end
theorem map_unT {f : List Nat → V} (ls : List (List Nat)) : (ls.map T).map (fun x => f (unT x)) = ls.map f := by
  rw [List.map_map]
  exact List.map_congr_left fun l _ => by show f (unT (T l)) = f l; rw [unT_T]
end L2

set_option Elab.async false
set_option linter.all false
set_option maxRecDepth 100000
set_option maxHeartbeats 4000000
namespace SS
open PySem PyProof.Rows L2
section
variable {prog : Program} {w : World} {A : Around} {E : Value → Shared → Prop} {s : Shared}
end
end SS
namespace L2
open PySem PyProof.Rows
section
variable {X : Cx}
end
end L2

set_option Elab.async false
set_option linter.all false
set_option maxRecDepth 100000
set_option maxHeartbeats 4000000
namespace L2
open PySem PyProof.Rows PySem.Spec
namespace SE
section
variable {prog : Program} {w : World} {A : Around} {E : Value → Shared → Prop} {s : Shared}
end
end SE
section
variable {X : Cx}
end
end L2

set_option Elab.async false
set_option linter.all false
set_option maxRecDepth 100000
set_option maxHeartbeats 4000000
namespace L2
open PySem PyProof.Rows PySem.Spec
section
variable {X : Cx}
end
end L2

set_option Elab.async false
set_option linter.all false
set_option maxRecDepth 100000
set_option maxHeartbeats 4000000
namespace L2
open PySem PyProof.Rows PySem.Spec
section
variable {X : Cx}
end
end L2

set_option Elab.async false
set_option linter.all false
set_option maxRecDepth 100000
set_option maxHeartbeats 4000000
namespace L2
open PySem PyProof.Rows PySem.Spec
section
variable {X : Cx} {pins : List (Addr × Obj)} {σ : List (Option V)} {H H' : Hp} {s : Shared} {h' : Heap}
theorem Inv.turnedL {t' : Nat} {ch : List Addr} (I : Inv X pins σ H s) (k : ∀ b o, b ∉ ch → s.heap.get? b = some o → h'.get? b = some o) (hf : ∀ b ∈ ch, FpOk X pins H b) : Inv X pins σ H { s with heap := h', toks := t' } := by
  have nit : ∀ b u, H b = some u → b ∉ ch := fun b u e z => by rw [(hf b z).1] at e; cases e
  refine I.step (g' := s.gens) (d' := s.drawn) (ch := ch) (fun b hb => ?_) (fun b o _ _ hc e _ => k b o hc e) (fun b o _ _ hc e _ => ⟨o.slots, k b o hc e⟩) (fun _ _ _ _ n => n)
    (fun b o hc e => ⟨o, k b o hc e⟩) (fun _ _ e => e) (fun _ _ _ e => e) (fun b ps e => ⟨#[], by rw [e]; simp⟩) (fun m hm => ?_) (fun b u e => ?_) I.bare
  · obtain ⟨f0, f1, f2, f3, f4, f5⟩ := hf b hb
    exact ⟨f3, f1, f4, f5⟩
  · obtain ⟨o, es, ep, ho, r⟩ := hm
    exact ⟨o, es, ep, k _ o (fun z => (hf _ z).2.1 rfl) ho, r⟩
  · refine (I.hok b u e).stay (fun c v hc q => k c v ?_ q) (fun _ q => q) fun _ _ q => q
    rcases hc with z | z
    · rw [z]; exact nit b u e
    · exact nit c _ z
end
section
variable {X : Cx}
end
end L2
namespace L2
open PySem PyProof.Rows PySem.Spec
end L2

set_option Elab.async false
set_option linter.all false
set_option maxRecDepth 100000
set_option maxHeartbeats 4000000
namespace L2
open PySem PyProof.Rows PySem.Spec
namespace ZS
section
variable {prog : Program} {w : World} {A : Around} {E : Value → Shared → Prop} {s : Shared}
end
end ZS
section
variable {X : Cx}
end
end L2

set_option Elab.async false
set_option linter.all false
set_option maxRecDepth 100000
set_option maxHeartbeats 4000000
namespace L2
open PySem PyProof.Rows PySem.Spec
section
variable {X : Cx}
theorem mt_insert : MtM X "list.insert" (fun x vs H Q => ∃ (l : Addr) (xs : List V) (i : Nat) (y : V), x = .ref l ∧ vs = [.int (i : Nat), y] ∧ H l = some (.lst xs) ∧ i ≤ xs.length ∧ xs.length ≤ 1000 ∧ Q .non (upd H l (.lst (xs.take i ++ y :: xs.drop i)))) := by
  intro pins s σ H x vs v us Q I rx rv h
  obtain ⟨l, xs, i, y, rfl, rfl, hH, hi, hn, q⟩ := h
  cases rx
  obtain ⟨u, w', rfl, ⟨t, rfl⟩, rw'⟩ := vals2 rv
  obtain ⟨z, its, n, r, hl, e⟩ := I.lstM hH
  have hs : sizeLine = 16777216 := sizeLine_eq
  have hln := r.length
  have hfit : ¬ (!Builtin.List.listFitsIndex ((i : Nat) : Int)) = true := by
    have h1 : (-(2 ^ 63 : Int) ≤ ((i : Nat) : Int)) := Int.le_trans (by decide) (Int.natCast_nonneg i)
    have h2 : ((i : Nat) : Int) < 2 ^ 63 := Int.lt_of_le_of_lt (show ((i : Nat) : Int) ≤ 1000 by omega) (by decide)
    unfold Builtin.List.listFitsIndex
    rw [decide_eq_true h1, decide_eq_true h2]
    decide
  have hsz : its.toArray.size ≤ sizeLine := by rw [List.size_toArray]; omega
  have hk : (if ((i : Nat) : Int) < 0 then (((i : Nat) : Int) + (its.toArray.size : Int)).toNat else min ((i : Nat) : Int).toNat its.toArray.size) = i := by
    rw [if_neg (by omega), Int.toNat_natCast, List.size_toArray]
    exact Nat.min_eq_left (by omega)
  generalize hx : ((i : Nat) : Int) = x at hfit hk ⊢
  have M := PySem.AutoSeq1.list_insert_list_int_val_1 l its.toArray n x t w' hfit hsz
  refine call_meets F.slot_list_insert ⟨_, e, rfl⟩ F.entry_list_insert (F.args_list_insert_3 _ _ _) M ⟨e, ?_⟩
  have hf : (fun xs : Array Value => have k := if x < 0 then (x + (xs.size : Int)).toNat else min x.toNat xs.size; (xs.extract 0 k).push w' ++ xs.extract k) its.toArray = (its.take i ++ w' :: its.drop i).toArray := by
    show (its.toArray.extract 0 (if x < 0 then (x + (its.toArray.size : Int)).toNat else min x.toNat its.toArray.size)).push w' ++ its.toArray.extract (if x < 0 then (x + (its.toArray.size : Int)).toNat else min x.toNat its.toArray.size) = _
    rw [hk]
    apply Array.toList_inj.mp
    rw [Array.toList_append, Array.toList_push, Array.toList_extract, Array.toList_extract]
    simp
    exact List.take_of_length_le (by rw [List.length_drop]; omega)
  have hv : Vals (xs.take i ++ y :: xs.drop i) (its.take i ++ w' :: its.drop i) := ?hv
  refine ⟨.non, _, I.lset (its' := its.take i ++ w' :: its.drop i) hH e hf hv ?_, rfl, q⟩
  · rw [List.length_append, List.length_take, List.length_cons, List.length_drop]
    omega
  case hv => exact (r.take i).append (.cons rw' (r.drop i))
end
end L2

set_option Elab.async false
set_option linter.all false
set_option maxRecDepth 100000
set_option maxHeartbeats 4000000
namespace L2
open PySem PyProof.Rows PySem.Spec
theorem on1 {α : Type} {C : List α → Prop} {us : List α} (h : us.length = 1) (k : ∀ a, C [a]) : C us := match us, h with | [a], _ => k a
theorem on2 {α : Type} {C : List α → Prop} {us : List α} (h : us.length = 2) (k : ∀ a b, C [a, b]) : C us := match us, h with | [a, b], _ => k a b
theorem on3 {α : Type} {C : List α → Prop} {us : List α} (h : us.length = 3) (k : ∀ a b c, C [a, b, c]) : C us := match us, h with | [a, b, c], _ => k a b c
section
variable {X : Cx}
end
end L2

set_option Elab.async false
set_option linter.all false
set_option maxRecDepth 100000
set_option maxHeartbeats 4000000
namespace L2
open PySem PySem.Spec PyProof.Rows
section
variable {X : Cx} {N' : List Str} {scope : Scope} {x y2 : Str} {px py py2 pt : Pos} {elt iter : Expr} {pos : Pos} {te : TE} {wi : TI}
end
end L2
namespace L2
open PySem PySem.Spec PyProof.Rows
end L2

set_option Elab.async false
set_option linter.all false
set_option maxRecDepth 100000
set_option maxHeartbeats 4000000

namespace L2
open PySem PySem.Spec PyProof.Rows

end L2

set_option Elab.async false
set_option linter.all false
set_option maxRecDepth 100000
set_option maxHeartbeats 4000000

namespace L2
open PySem PySem.Spec PyProof.Rows

section
variable {X : Cx} {pins : List (Addr × Obj)} {σ : St} {H H' : Hp} {s s' : Shared} {a : Addr} {cls : Value} {E : Value → Shared → Prop}
end
section
variable {X : Cx} {pins : List (Addr × Obj)} {σ : St} {H H' : Hp} {s s' : Shared} {a : Addr} {cls : Value}
end
section
variable {P : Program} {w : World} {K : PySem.W.Frag} {mg : Str → Option Value} {base : Heap} {N : List Str} {qual : Str} {scope : Scope} {f : Addr} {cdv : Value} {A : Around} {outer : List Env} {s : Shared} {H : Hp} {E : XK}
end
section
variable {X : Cx}
end
end L2

set_option Elab.async false
set_option linter.all false
set_option maxRecDepth 100000
set_option maxHeartbeats 4000000

namespace L2
open PySem PySem.Spec PyProof.Rows

section
variable {prog : Program} {w : World} {A : Around} {E : Value → Shared → Prop} {h : Heap} {g : Array GenState} {d : Drawn} {t : Nat} {os : OsState}
variable {nm q : Str} {Cl Ns : Addr} {bs tl : List Value} {hdct : Bool} {sn : List Str} {sub : List Value} {ab : Bool} {col : Option Bool} {dd : Option Addr} {k0 k1 k2 k3 k5 : Option Value}
end
section
variable {M : Model} {A : Around} {E : Value → Shared → Prop} {s : Shared} {env : Env}
variable {nm q : Str} {Cl Ns : Addr} {bs tl : List Value} {hdct : Bool} {sn : List Str} {sub : List Value} {ab : Bool} {col : Option Bool} {dd : Option Addr} {k0 k1 k2 k3 k5 : Option Value} {ni : String}
end
end L2

set_option Elab.async false
set_option linter.all false
set_option maxRecDepth 100000
set_option maxHeartbeats 4000000

namespace L2
open PySem PySem.Spec PyProof.Rows

end L2

set_option Elab.async false
set_option linter.all false
set_option maxRecDepth 100000
set_option maxHeartbeats 4000000

namespace L2
open PySem PySem.Spec PyProof.Rows

section
variable {X : Cx}
end
end L2

set_option Elab.async false
set_option linter.all false
set_option maxRecDepth 100000
set_option maxHeartbeats 4000000

namespace L2
open PySem PySem.Spec PyProof.Rows PySem.Builtin PySem.Builtin.ObjectAttr
section
variable {prog : Program} {w : World} {A : Around} {E : Value → Shared → Prop} {K : PySem.W.Frag} {C f a x0 : Addr} {F : Str} {v : Value} {s : Shared}
end
section
variable {X : Cx}
end
end L2

set_option Elab.async false
set_option linter.all false
set_option maxRecDepth 100000
set_option maxHeartbeats 4000000

namespace L2
open PySem PySem.Spec PyProof.Rows
section
variable {X : Cx} {pins : List (Addr × Obj)} {σ : St} {H : Hp} {s : Shared} {a C x0 : Addr} {E : Value → Shared → Prop} {od : Option Addr}
end
section
variable {X : Cx}
end
end L2

set_option Elab.async false
set_option linter.all false
set_option maxRecDepth 100000
set_option maxHeartbeats 4000000

namespace L2
open PySem PyProof.Rows PySem.Spec
section
variable {X : Cx}
end
namespace EX
open PySem.W PySem.Calls PySem.Builtin PySem.Builtin.ObjectAttr PySem.Builtin.Getset_descriptor
variable {prog : Program} {w : World} {A : Around} {E : Value → Shared → Prop} {s : Shared} {K : PySem.W.Frag} {a C : Addr}
end EX
section
variable {X : Cx}
end
end L2

set_option linter.all false
namespace L2
open PySem PySem.Spec PyProof.Rows
section
variable {X : Cx}
theorem op_eq_TU (hu : X.A.units + 1 < cLine) : OpR X (compareOp .Eq) (fun x y H Q => ∃ (p b : Addr) (ls : List (List Nat)), x = .ref p ∧ y = .ref b ∧ SqT X.K H p (ls.map T) ∧ SqT X.K H b (ls.map T) ∧ Q (.bl true) H) := by
  intro pins s σ H x y v u Q I rx ry h
  obtain ⟨p, b, ls, rfl, rfl, h1, h2, q⟩ := h
  cases rx
  cases ry
  obtain ⟨its, r, pl, _⟩ := I.tuple h1
  obtain ⟨its2, r2, pl2, _⟩ := I.tuple h2
  have l1 := r.length
  have l2 := r2.length
  refine SeqAt.RcAt.tuples (e := fun _ => true) pl pl2 (Nat.lt_of_succ_lt hu) (fun j g1 g2 => ?_) _ _ _ _ ?_
  · have hj : j < ls.length := by
      rw [List.length_map] at l1
      rw [List.size_toArray] at g1
      omega
    obtain ⟨u', e1, q1⟩ := r.get (i := j) (x := T ls[j]) (by rw [List.getElem?_map, List.getElem?_eq_getElem hj]; rfl)
    obtain ⟨w', e2, q2⟩ := r2.get (i := j) (x := T ls[j]) (by rw [List.getElem?_map, List.getElem?_eq_getElem hj]; rfl)
    have e := eqAt_V (A := X.A.in1) (s := s) q1 q2 rfl rfl
    rw [show eqV (T ls[j]) (T ls[j]) = true from by show (tx ls[j] == tx ls[j]) = true; rw [beq_iff_eq]] at e
    have a1 : its.toArray[j] = u' := by
      rw [List.getElem_toArray]
      exact (List.getElem?_eq_some_iff.mp e1).2
    have a2 : its2.toArray[j] = w' := by
      rw [List.getElem_toArray]
      exact (List.getElem?_eq_some_iff.mp e2).2
    rw [a1, a2]
    exact e
  · rw [show ((List.range (min its.toArray.size its2.toArray.size)).all (fun _ => true) && its.toArray.size == its2.toArray.size) = true by rw [show its.toArray.size = its2.toArray.size by rw [List.size_toArray, List.size_toArray]; omega]; simp]
    exact ⟨.bl true, H, I, rfl, q⟩
theorem pi_listK (K : PySem.W.Frag) (hK : X.K = K) {tg l : Expr} {tl : TE} (hl : PE X l tl) : PI X tg l (iList K tl) := by
  subst hK
  exact pi_list hl
end
end L2

set_option Elab.async false
set_option linter.all false
set_option maxRecDepth 100000
set_option maxHeartbeats 4000000
namespace L2
open PySem PyProof.Rows PySem.Spec
section
variable {X : Cx}
end
end L2

set_option Elab.async false
set_option linter.all false
set_option maxRecDepth 100000
set_option maxHeartbeats 4000000
namespace L2
open PySem PyProof.Rows PySem.Spec
section
variable {X : Cx}
end
section
variable {X : Cx} {N' : List Str} {scope : Scope} {x y2 : Str} {px py py2 pt : Pos} {elt iter : Expr} {pos : Pos} {te : TE} {wi : TI}
end
end L2
namespace L2
open PySem PyProof.Rows PySem.Spec
section
variable {X : Cx}
end
end L2

set_option Elab.async false
set_option linter.all false
set_option maxRecDepth 100000
namespace SR
open PySem PyProof.Rows PySem.Spec
section
variable {prog : Program} {w : World} {A : Around} {E : Value → Shared → Prop} {s : Shared}
end
end SR
namespace L2
open PySem PyProof.Rows PySem.Spec
section
variable {X : Cx}
end
end L2

set_option Elab.async false
set_option linter.all false
set_option maxRecDepth 100000
namespace L2
open PySem PyProof.Rows PySem.Spec
section
variable {X : Cx}
theorem sz_all {its its2 : List Value} (h : its.length = its2.length) : ((List.range (min its.toArray.size its2.toArray.size)).all (fun _ => true) && its.toArray.size == its2.toArray.size) = true := by
  rw [show its.toArray.size = its2.toArray.size by rw [List.size_toArray, List.size_toArray]; omega]; simp
end
end L2
namespace L2
open PySem PyProof.Rows PySem.Spec
section
variable {X : Cx}
end
end L2

set_option Elab.async false
set_option linter.all false
set_option maxRecDepth 100000
namespace L2
open PySem PyProof.Rows PySem.Spec
section
variable {X : Cx}
end
end L2

set_option Elab.async false
set_option linter.all false
set_option maxRecDepth 100000
set_option maxHeartbeats 4000000
namespace L2
open PySem PyProof.Rows PySem.Spec
section
variable {X : Cx}
end
end L2

set_option Elab.async false
set_option linter.all false
set_option maxRecDepth 100000
set_option maxHeartbeats 4000000
namespace L2
open PySem PyProof.Rows PySem.Spec
section
variable {X : Cx}
end
section
variable {K : PySem.W.Frag} {H G : Hp} {as : List Addr} {M : List (List Int)}
end
end L2

set_option Elab.async false
set_option linter.all false
set_option maxRecDepth 100000
set_option maxHeartbeats 4000000
namespace L2
open PySem PySem.Spec PyProof.Rows
section
variable {X : Cx} {pins : List (Addr × Obj)} {σ : St} {H : Hp} {s : Shared} {a : Addr} {kvs : List (Key × V)} {k : Key} {A : Around} {E : Value → Shared → Prop}
end
section
variable {X : Cx} {o e f : Expr} {apos cpos : Pos} {td ty tx : TE}
end
end L2

set_option Elab.async false
set_option linter.all false
set_option maxRecDepth 100000
set_option maxHeartbeats 4000000
namespace SS
open PySem PyProof.Rows L2
section
variable {prog : Program} {w : World} {A : Around} {E : Value → Shared → Prop} {s : Shared}
end
end SS
namespace L2
open PySem PyProof.Rows
section
variable {X : Cx}
end
end L2

set_option Elab.async false
set_option linter.all false
set_option maxRecDepth 100000
set_option maxHeartbeats 4000000
namespace L2
open PySem PyProof.Rows
end L2

set_option Elab.async false
set_option linter.all false
set_option maxRecDepth 100000
namespace L2
open PySem PyProof.Rows
section
variable {X : Cx} {pins : List (Addr × Obj)} {σ : List (Option V)} {H H' : Hp} {s : Shared}
end
section
variable {X : Cx} {tg : Expr}
end
end L2
namespace L2
open PySem PyProof.Rows
section
variable {X : Cx} {o : Expr} {td : TE} {apos cpos : Pos}
end
end L2
namespace L2
open PySem PyProof.Rows PySem.Spec
section
variable {X : Cx}
end
end L2

set_option Elab.async false
set_option linter.all false
set_option maxRecDepth 100000
set_option maxHeartbeats 4000000
namespace L2
open PySem PyProof.Rows
section
variable {X : Cx} {pins : List (Addr × Obj)} {σ : St} {H : Hp} {s : Shared}
end
section
variable {X : Cx}
end
end L2

set_option Elab.async false
set_option linter.all false
set_option maxRecDepth 100000
set_option maxHeartbeats 4000000
namespace L2
open PySem PySem.Spec PyProof.Rows
set_option genInjectivity false in
structure CompScC (N N' : List Str) (sc scope : Scope) (x : Str) : Prop where
  kind : scope.kind = .function
  cell : scope.names.filter (fun y => y.2 == .cell) = [(x, .cell)]
  names : ∀ y ∈ scope.names, y.2 = .local → scope.names.lookup y.1 = some .local
  var : scope.names.lookup x = some .cell
  ok : ∀ y ∈ scope.names, y.2 = .free → (y.1 ≠ x ∧ (sc.names.lookup y.1 = some .cell ∨ sc.names.lookup y.1 = some .free))
  hd : N'[0]? = some x
  len : N'.length = N.length + 1
  sub : ∀ i, i < N.length → N'[i + 1]? = N[i]? ∨ (N'[i + 1]?.map fun y => scope.names.lookup y) = some none
  noe : scope.names.lookup ("" : Str) = none
  nol : ∀ y ∈ N'.tail, scope.names.lookup y ≠ some .local ∧ scope.names.lookup y ≠ some .cell
  nd : N'.Nodup
theorem cellsFrom_no : ∀ (names : List (Str × NameKind)) (n : Nat) (acc : List (Str × Addr)), names.filter (fun y => y.2 == .cell) = [] → cellsFrom n names acc = acc
  | [], _, _, _ => rfl
  | (y, k) :: r, n, acc, h => by
    rw [List.filter_cons] at h
    unfold cellsFrom
    by_cases hk : (k == NameKind.cell) = true
    · rw [if_pos hk] at h
      cases h
    · rw [if_neg hk] at h
      rw [if_neg hk]
      exact cellsFrom_no r n acc h
theorem cellsFrom_one {x : Str} : ∀ (names : List (Str × NameKind)) (n : Nat) (acc : List (Str × Addr)), names.filter (fun y => y.2 == .cell) = [(x, .cell)] → cellsFrom n names acc = (x, n) :: acc
  | [], _, _, h => by cases h
  | (y, k) :: r, n, acc, h => by
    rw [List.filter_cons] at h
    unfold cellsFrom
    by_cases hk : (k == NameKind.cell) = true
    · rw [if_pos hk] at h
      obtain ⟨h1, h2⟩ := List.cons.inj h
      rw [if_pos hk, cellsFrom_no r _ _ h2]
      cases h1
      rfl
    · rw [if_neg hk] at h
      rw [if_neg hk]
      exact cellsFrom_one r n acc h
theorem pushCells_no : ∀ (names : List (Str × NameKind)) (h : Heap), names.filter (fun y => y.2 == .cell) = [] → pushCells h names = h
  | [], _, _ => rfl
  | (y, k) :: r, h0, h => by
    rw [List.filter_cons] at h
    unfold pushCells
    by_cases hk : (k == NameKind.cell) = true
    · rw [if_pos hk] at h
      cases h
    · rw [if_neg hk] at h
      rw [if_neg hk]
      exact pushCells_no r h0 h
theorem pushCells_one {x : Str} : ∀ (names : List (Str × NameKind)) (h : Heap), names.filter (fun y => y.2 == .cell) = [(x, .cell)] → pushCells h names = h.push { cls := .type "cell", data := .cell none }
  | [], _, h => by cases h
  | (y, k) :: r, h0, h => by
    rw [List.filter_cons] at h
    unfold pushCells
    by_cases hk : (k == NameKind.cell) = true
    · rw [if_pos hk] at h
      obtain ⟨h1, h2⟩ := List.cons.inj h
      rw [if_pos hk, pushCells_no r _ h2]
    · rw [if_neg hk] at h
      rw [if_neg hk]
      exact pushCells_one r h0 h
section
variable {M : Model} {A : Around} {E : Value → Shared → Prop} {s : Shared}
theorem newFunctionEnv_one {scope : Scope} {x : Str} {globals : Addr} {closure : List (Str × Addr)} {qual : Str} {func : Option Addr} {code : Value} {outer : Env} {builtins : Addr} {Q : Env → Shared → Prop} (hc : scope.names.filter (fun y => y.2 == .cell) = [(x, .cell)])
    (hQ : Q (newEnv scope s.heap.objs.size globals ((x, s.heap.objs.size + 1) :: closure) qual func code (some outer) builtins) { s with heap := (s.heap.push { cls := .type "dict", data := .dict #[] }).push { cls := .type "cell", data := .cell none } }) :
    wpAny M A (newFunctionEnv scope globals closure [] qual func code (some outer) builtins) Q E s := by
  simp only [newFunctionEnv, Option.isSome_some, if_true]
  refine wpAny_bind (wpAny_alloc ?_)
  refine wpAny_bind (wpAny_layCells _ (fun name kind cells => by cases hkc : kind == NameKind.cell <;> simp [hkc]) _ _ _ _ ?_)
  rw [show ({ s with heap := s.heap.push { cls := .type "dict", data := .dict #[] } } : Shared).heap.objs.size = s.heap.objs.size + 1 from Heap.size_push ..]
  rw [cellsFrom_one _ _ _ hc, pushCells_one _ _ hc]
  refine wpAny_bind (wpAny_pure ?_)
  exact wpAny_pure hQ
end
noncomputable abbrev cxCompC (X : Cx) (x : Str) (N' : List Str) (scope : Scope) (cl : List (Str × Addr)) (C : Addr) (s : Shared) (H : Hp) (fp : List Addr) : Cx :=
  { X with env := compEnvC scope cl C X.env, N := N', s₀ := s, H₀ := H, outer := X.stack, stack := X.stack, ex := fp, fn := fun y => y == x, xe := fun _ _ => False }
theorem look_x {x : Str} {c : Addr} {cl : List (Str × Addr)} : List.lookup x ((x, c) :: cl) = some c := by
  rw [List.lookup_cons, beq_self_eq_true]
theorem look_ne {x y : Str} {c : Addr} {cl : List (Str × Addr)} (h : y ≠ x) : List.lookup y ((x, c) :: cl) = List.lookup y cl := by
  rw [List.lookup_cons, beq_false_of_ne h]
section
variable {X : Cx} {N' : List Str} {scope : Scope} {x : Str} {px : Pos} {elt iter : Expr} {cds : List Expr} {pos : Pos} {te : TE} {tc : TT} {wi : TI}
theorem compc_core (S : CompScC X.N N' X.env.scope scope x) (hc : X.calm = true) (ht : ∀ cl C s H fp, PTL (cxCompC X x N' scope cl C s H fp) cds tc) (he : ∀ cl C s H fp, PE (cxCompC X x N' scope cl C s H fp) elt te)
    {pins : List (Addr × Obj)} {σ : St} {H : Hp} {s : Shared} {Q : VK} {E : Value → Shared → Prop} {RR : Value → Addr → Result → Shared → Prop} {it : Addr} {fp : List Addr} {tn : Nat → Heap → Prop} {J : It}
    (I : Inv X pins σ H s) (T : Turn X.prog X.w X.K (.Name x px) J fp it tn) (st : tn 0 s.heap) (f2 : ∀ b ∈ fp, FpOk X pins H b)
    (hw : compAtF tc te σ Q J H)
    (hRR : ∀ D C s' H', Inv X pins σ H' s' → (∃ m, s'.heap.Ns C m) → C ≠ X.env.locals → (∀ y c, X.env.cells.lookup y = some c → c ≠ C) → H' C = none → X.s₀.heap.objs.size ≤ C → (∀ p ∈ X.pn ++ pins, p.1 ≠ C) → Q (.ref D) H' → RR (.ref D) C (.ok .next) s') :
    ∃ cl, closureFor scope X.env = pure cl ∧ wpAny (model X.prog X.w) X.A (newList []) (fun acc s₃ => wpAny (model X.prog X.w) X.A (newFunctionEnv scope X.env.globals cl [] X.env.qual none .none (some X.env)) (fun cenv s₄ =>
      codeAny (model X.prog X.w) X.A (.compStart (.ListComp elt [⟨.Name x px, iter, cds, 0⟩] scope pos) 0 (.ref it) acc { cenv with scope := relabel scope X.env }) (RR acc cenv.locals) s₄) E s₃) E s := by
  have hfree : ∀ z ∈ scope.names, z.2 = .free → ∃ c, X.env.cells.lookup z.1 = some c := fun z hz hk => by
    rcases (S.ok z hz hk).2 with q | q
    · exact I.ok.has z.1 (.inl q)
    · exact I.ok.has z.1 (.inr q)
  refine ⟨_, clos_eq hfree, ?_⟩
  have clS : ∀ y c, (closOf X.env.cells scope.names []).lookup y = some c → X.env.cells.lookup y = some c := fun y c => clos_sound scope.names [] hfree fun q => by cases q
  generalize hcl : closOf X.env.cells scope.names [] = cl at clS
  have clH : ∀ y, scope.names.lookup y = some .free → ∃ c, cl.lookup y = some c := fun y hy => by
    rw [← hcl]
    exact clos_has scope.names [] (lookup_mem hy)
  refine wpAny_newObj_type (newFunctionEnv_one S.cell ?_)
  have I3 : Inv X pins σ (upd H s.heap.objs.size (.lst [])) { s with heap := s.heap.push { cls := .type "list", data := .seq ([] : List Value).toArray } } := I.lnew (t' := s.toks) .nil (Nat.zero_le _)
  obtain ⟨W, ⟨m0, w0⟩, turn⟩ := hw s.heap.objs.size I.fresh
  dsimp only
  generalize hs3 : ({ s with heap := s.heap.push { cls := .type "list", data := .seq ([] : List Value).toArray } } : Shared) = s3 at I3
  have hh3 : s3.heap = s.heap.push { cls := .type "list", data := .seq ([] : List Value).toArray } := by rw [← hs3]
  have hsz3 : s3.heap.objs.size = s.heap.objs.size + 1 := by rw [hh3, Heap.size_push]
  rw [← hh3]
  generalize hh₁ : (s3.heap.push { cls := .type "dict", data := .dict #[] }).push { cls := .type "cell", data := .cell none } = h₁
  have old : ∀ b o, s3.heap.get? b = some o → h₁.get? b = some o := fun b o e => by rw [← hh₁]; exact Heap.get?_push_of_some _ (Heap.get?_push_of_some _ e)
  have old0 : ∀ b o, s.heap.get? b = some o → h₁.get? b = some o := fun b o e => old b o (by rw [hh3]; exact Heap.get?_push_of_some _ e)
  have hns₁ : h₁.Ns s3.heap.objs.size fun _ => none := by rw [← hh₁]; exact (Heap.Ns.new s3.heap (.type "dict")).keeps fun b o e => Heap.get?_push_of_some _ e
  have hzp : (s3.heap.push { cls := .type "dict", data := .dict #[] }).objs.size = s3.heap.objs.size + 1 := Heap.size_push ..
  have hce : h₁.IsCell (s3.heap.objs.size + 1) none := ⟨_, by rw [← hh₁, ← hzp]; exact Heap.get?_push_size _ rfl, rfl⟩
  have CneL : s3.heap.objs.size ≠ X.env.locals := Nat.ne_of_gt I3.lt
  have CneC : ∀ y c, X.env.cells.lookup y = some c → c < s3.heap.objs.size := fun y c e => by
    obtain ⟨v, q⟩ := I3.cell y c e
    exact q.lt
  have CneP : ∀ p ∈ X.pn ++ pins, p.1 < s3.heap.objs.size := fun p hp => Heap.lt_size (I3.pin p hp).1
  have fpLt : ∀ b ∈ fp, b < s3.heap.objs.size := fun b hb => by
    obtain ⟨o, e, _⟩ := T.obj 0 s.heap st b hb
    rw [hsz3]
    exact Nat.lt_succ_of_lt (Heap.lt_size e)
  have fpD : ∀ b ∈ fp, b ≠ s.heap.objs.size := fun b hb => by
    obtain ⟨o, e, _⟩ := T.obj 0 s.heap st b hb
    exact Nat.ne_of_lt (Heap.lt_size e)
  generalize hC1 : s3.heap.objs.size + 1 = C1 at hce hzp
  have C1gt : s3.heap.objs.size < C1 := by rw [← hC1]; exact Nat.lt_succ_self _
  have cases' : ∀ y c, List.lookup y ((x, C1) :: cl) = some c → (y = x ∧ c = C1) ∨ (y ≠ x ∧ cl.lookup y = some c) := fun y c e => by
    by_cases hy : y = x
    · subst hy
      rw [look_x] at e
      exact .inl ⟨rfl, (Option.some.inj e).symm⟩
    · rw [look_ne hy] at e
      exact .inr ⟨hy, e⟩
  have ltC1 : ∀ y c, cl.lookup y = some c → c < s3.heap.objs.size := fun y c e => CneC y c (clS y c e)

  have ok' : (cxCompC X x N' scope ((x, C1) :: cl) s3.heap.objs.size s3 (upd H s.heap.objs.size (.lst [])) fp).Ok := by
    refine ⟨I3.ok.mod, ?_, I3.ok.glob, I3.ok.blt, Nat.le_refl _, fun y z c h1 h2 => ?_, fun y hy => ?_, fun y c hf e => ?_, I3.ok.hd, I3.ok.frames, .inl rfl, fun b hb => ⟨Nat.ne_of_lt (fpLt b hb), fun y c e => ?_⟩,
      fun b o e => I3.bs b o e, Nat.le_trans I3.ok.bsz I3.sz, fun b o e hb => ?_, fun b hb z => ?_, I3.stack, I3.stkFree⟩
    · show (relabel scope X.env).kind = .function
      exact S.kind
    · rcases cases' y c h1 with ⟨e1, e2⟩ | ⟨n1, e1⟩
      · rcases cases' z c h2 with ⟨e3, e4⟩ | ⟨n3, e3⟩
        · rw [e1, e3]
        · exact absurd (ltC1 z c e3) (by rw [e2]; exact Nat.not_lt.mpr (Nat.le_of_lt C1gt))
      · rcases cases' z c h2 with ⟨e3, e4⟩ | ⟨n3, e3⟩
        · exact absurd (ltC1 y c e1) (by rw [e4]; exact Nat.not_lt.mpr (Nat.le_of_lt C1gt))
        · exact I3.ok.inj y z c (clS y c e1) (clS z c e3)
    · by_cases hyx : y = x
      · subst hyx
        exact ⟨C1, look_x⟩
      have hy' : (relabel scope X.env).names.lookup y = some .cell ∨ (relabel scope X.env).names.lookup y = some .free := hy
      rw [relabel_lookup] at hy'
      cases q : scope.names.lookup y with
      | none => rw [q] at hy'; rcases hy' with z | z <;> cases z
      | some k =>
        have hm := lookup_mem q
        cases k with
        | free =>
          obtain ⟨c, hc'⟩ := clH y q
          exact ⟨c, (look_ne hyx).trans hc'⟩
        | cell =>
          have : (y, NameKind.cell) ∈ scope.names.filter (fun y => y.2 == .cell) := List.mem_filter.mpr ⟨hm, rfl⟩
          rw [S.cell] at this
          exact absurd (congrArg Prod.fst (List.mem_singleton.mp this)) hyx
        | «local» => rw [q] at hy'; rcases hy' with z | z <;> simp at z
        | globalExplicit => rw [q] at hy'; rcases hy' with z | z <;> simp at z
        | globalImplicit => rw [q] at hy'; rcases hy' with z | z <;> simp at z
    · have hyx : y = x := by simpa using hf
      rcases cases' y c e with ⟨_, e2⟩ | ⟨n1, _⟩
      · rw [e2]; exact Nat.le_of_lt C1gt
      · exact absurd hyx n1
    · rcases cases' y c e with ⟨_, e2⟩ | ⟨n1, e1⟩
      · rw [e2]; exact fun z => absurd (fpLt b hb) (by rw [← z]; exact Nat.not_lt.mpr (Nat.le_of_lt C1gt))
      · exact (f2 b hb).2.2.2.2.1 y c (clS y c e1)
    · rcases (f2 b hb).2.2.2.1 with z | z
      · exact I.ok.noex b o e z
      · exact absurd (Nat.lt_of_lt_of_le (Heap.lt_size e) (Nat.le_trans I.ok.bsz z)) (Nat.lt_irrefl _)
    · rcases List.mem_cons.mp (I3.stkSub b z) with q | q
      · exact (f2 b hb).2.1 q
      · exact (f2 b hb).2.2.1 q
  have fpOk' : ∀ {H' : Hp}, (∀ b ∈ fp, H' b = none) → ∀ b ∈ fp, FpOk (cxCompC X x N' scope ((x, C1) :: cl) s3.heap.objs.size s3 (upd H s.heap.objs.size (.lst [])) fp) pins H' b := fun hn b hb =>
    ⟨hn b hb, Nat.ne_of_lt (fpLt b hb), fun z => by
      rcases List.mem_cons.mp (I3.stkSub b z) with q | q
      · exact (f2 b hb).2.1 q
      · exact (f2 b hb).2.2.1 q, .inl hb, fun y c e => by
      rcases cases' y c e with ⟨_, e2⟩ | ⟨n1, e1⟩
      · rw [e2]; exact fun z => absurd (fpLt b hb) (by rw [← z]; exact Nat.not_lt.mpr (Nat.le_of_lt C1gt))
      · exact (f2 b hb).2.2.2.2.1 y c (clS y c e1), (f2 b hb).2.2.2.2.2⟩
  have I4 : Inv (cxCompC X x N' scope ((x, C1) :: cl) s3.heap.objs.size s3 (upd H s.heap.objs.size (.lst [])) fp) pins (none :: σ) (upd H s.heap.objs.size (.lst [])) { s3 with heap := h₁ } := by
    refine ⟨ok', rfl, I3.bare, Un.kept old, ⟨_, hns₁, fun i y v e1 e2 vis => ?_⟩, fun y c e => ?_, ?_, fun y c e => ?_, fun p hp => ?_, I3.hok.kept old, ?_⟩
    · cases i with
      | zero => cases e2
      | succ i =>
        have e2' : σ[i]? = some (some v) := by simpa using e2
        have hi : i < X.N.length := by rw [← I3.len]; exact (List.getElem?_eq_some_iff.mp e2').1
        have vis' : (relabel scope X.env).names.lookup y = some .local ∨ (relabel scope X.env).names.lookup y = some .cell ∨ (relabel scope X.env).names.lookup y = some .free := vis
        have e1' : N'[i + 1]? = some y := e1
        rcases S.sub i hi with q | q
        · rw [e1'] at q
          have hy : X.N[i]? = some y := q.symm
          have hmem : y ∈ N'.tail := by
            rw [List.mem_iff_getElem?]
            exact ⟨i, by rw [List.getElem?_tail]; exact e1'⟩
          have hfr : scope.names.lookup y = some .free := by
            rw [relabel_lookup] at vis'
            cases q2 : scope.names.lookup y with
            | none => rw [q2] at vis'; rcases vis' with z | z | z <;> cases z
            | some k =>
              cases k with
              | free => rfl
              | cell => exact absurd q2 (S.nol y hmem).2
              | «local» => exact absurd q2 (S.nol y hmem).1
              | globalExplicit => rw [q2] at vis'; rcases vis' with z | z | z <;> simp at z
              | globalImplicit => rw [q2] at vis'; rcases vis' with z | z | z <;> simp at z
          have hyx : y ≠ x := fun z => by rw [z, S.var] at hfr; cases hfr
          have hok := (S.ok (y, .free) (lookup_mem hfr) rfl).2
          obtain ⟨m, hn, hl⟩ := I3.loc
          have visX : Vis X.env.scope y := by
            rcases hok with z | z
            · exact .inr (.inl z)
            · exact .inr (.inr z)
          obtain ⟨u, r, l⟩ := hl i y v hy e2' visX
          refine ⟨u, r, .inr ⟨?_, ?_⟩⟩
          · show (relabel scope X.env).names.lookup y = some .cell ∨ (relabel scope X.env).names.lookup y = some .free
            rw [relabel_lookup, hfr, Option.map_some]
            by_cases hcnd : (NameKind.free == NameKind.free && X.env.scope.kind == .function && X.env.kindOf y == some .cell) = true
            · left
              rw [if_pos hcnd]
            · right
              rw [if_neg hcnd]
          · rcases l with ⟨k, _⟩ | ⟨k, c, e, z⟩
            · have k' : X.env.scope.names.lookup y = some .local := k
              have hok' : X.env.scope.names.lookup y = some .cell ∨ X.env.scope.names.lookup y = some .free := hok
              rw [k'] at hok'
              rcases hok' with z | z <;> cases z
            · obtain ⟨c', e'⟩ := clH y hfr
              have e3 := clS y c' e'
              rw [e] at e3
              cases e3
              obtain ⟨o, ho, hd⟩ := z
              exact ⟨c, (look_ne hyx).trans e', o, old c o ho, hd⟩
        · rw [e1'] at q
          have q : scope.names.lookup y = none := Option.some.inj q
          rw [relabel_lookup, q] at vis'
          rcases vis' with z | z | z <;> cases z
    · rcases cases' y c e with ⟨_, e2⟩ | ⟨n1, e1⟩
      · exact ⟨none, by rw [e2]; exact hce⟩
      · obtain ⟨v, o, ho, hd⟩ := I3.cell y c (clS y c e1)
        exact ⟨v, o, old c o ho, hd⟩
    · show upd H s.heap.objs.size (.lst []) s3.heap.objs.size = none
      exact I3.hok.fresh (Nat.le_refl _)
    · rcases cases' y c e with ⟨_, e2⟩ | ⟨n1, e1⟩
      · rw [e2]; exact I3.hok.fresh (Nat.le_of_lt C1gt)
      · exact I3.freeC y c (clS y c e1)
    · obtain ⟨e, n, ne, nf, d⟩ := I3.pin p hp
      refine ⟨old _ _ e, n, Nat.ne_of_lt (CneP p hp), fun z => ?_, d⟩
      rcases List.mem_cons.mp (I3.stkSub p.1 z) with q | q
      · exact ne q
      · exact nf q
    · show (none :: σ).length = N'.length
      rw [S.len, List.length_cons, I3.len]
  have st4 : tn 0 h₁ := T.keep 0 s.heap h₁ st fun b _ o e => old0 b o e
  have hvar : Loc (relabel scope X.env) x := by
    right
    show (relabel scope X.env).names.lookup x = some .cell
    rw [relabel_lookup, S.var, Option.map_some]
    rfl

  have loop : ∀ s₄ : Shared, s₄ = { s3 with heap := h₁ } →
      codeAny (model X.prog X.w) X.A (.compLoop (.ListComp elt [⟨.Name x px, iter, cds, 0⟩] scope pos) 0 (.ref it) (.ref s.heap.objs.size) (compEnvC scope ((x, C1) :: cl) s3.heap.objs.size X.env)) (RR (.ref s.heap.objs.size) s3.heap.objs.size) s₄ := by
    rintro s₄ rfl
    refine codeAny_compLoop_ts (fun n s' => ∃ i v0 ys H', Inv (cxCompC X x N' scope ((x, C1) :: cl) s3.heap.objs.size s3 (upd H s.heap.objs.size (.lst [])) fp) pins (v0 :: σ) H' s' ∧ tn i s'.heap ∧ (∀ b ∈ fp, H' b = none) ∧ W i n ys H') ?_ m0
      ⟨0, none, [], _, I4, st4, fun b hb => by rw [upd_ne (fpD b hb)]; exact (f2 b hb).1, w0⟩
    rintro n s5 ⟨i, v0, ys, H5, I5, st5, fr5, w5⟩
    rcases turn i n ys H5 w5 with ⟨stop, qn⟩ | ⟨go, hz, N, hN, Nn, hNn, step⟩
    · refine thn (T.done (cxCompC X x N' scope ((x, C1) :: cl) s3.heap.objs.size s3 (upd H s.heap.objs.size (.lst [])) fp) rfl rfl rfl hc i pins s5 (v0 :: σ) H5 (fun _ _ => False) I5 (fpOk' fr5) st5 stop) fun r s6 ⟨hr, I6⟩ => ?_
      subst hr
      have hch : ∀ b ∈ fp, (b ∈ X.ex ∨ X.s₀.heap.objs.size ≤ b) ∧ b ≠ X.env.locals ∧ (∀ x c, X.env.cells.lookup x = some c → c ≠ b) ∧ ∀ p ∈ X.pn ++ pins, p.1 ≠ b := fun b hb =>
        ⟨(f2 b hb).2.2.2.1, (f2 b hb).2.1, (f2 b hb).2.2.2.2.1, (f2 b hb).2.2.2.2.2⟩
      have I7 : Inv X pins σ H5 s6 := I3.call' (ch := fp) I6.os I6.base I6.hok I6.bare hch
      obtain ⟨m, hm, _⟩ := I6.loc
      exact hRR s.heap.objs.size s3.heap.objs.size s6 H5 I7 ⟨m, hm⟩ CneL (fun y c e => Nat.ne_of_lt (CneC y c e)) I6.free (Nat.le_trans I3.sz (Nat.le_refl _)) (fun p hp => Nat.ne_of_lt (CneP p hp)) qn
    · refine thn (T.item (cxCompC X x N' scope ((x, C1) :: cl) s3.heap.objs.size s3 (upd H s.heap.objs.size (.lst [])) fp) rfl rfl rfl hc i pins s5 (v0 :: σ) H5 (fun _ _ => False) I5 (fpOk' fr5) st5 go) fun r s6 ⟨u, hr, h6⟩ => ?_
      subst hr
      refine thn h6 fun _ s7 ⟨y, H7, I7, r7, y7, st7, fr7⟩ => ?_
      have I7' := I7.pinned (fpOk' fr7) (T.obj _ _ st7)
      refine wpAny_assign_Name (store_ok (i := 0) (v := y) I7' S.nd S.hd hvar r7 (fun s8 I8 => ?_) (.inl (beq_self_eq_true x)))
      have I8' : Inv (cxCompC X x N' scope ((x, C1) :: cl) s3.heap.objs.size s3 (upd H s.heap.objs.size (.lst [])) fp) (pins ++ pinsAt fp s7.heap) (some y :: σ) H7 s8 := I8
      refine thn (ht _ s3.heap.objs.size s3 (upd H s.heap.objs.size (.lst [])) fp _ s8 (some y :: σ) H7 (fun b H'' => if b = true then te (some y :: σ) H'' N else Nn H'') I8' (step y H7 y7)) fun okb s8 ⟨H8, I8, q8⟩ => ?_
      cases okb with
      | false =>
        have q8' : Nn H8 := by simpa using q8
        obtain ⟨m', hm, w9⟩ := hNn H8 q8'
        refine ⟨m', hm, i + 1, some y, ys, _, I8.unpinned, T.keep _ _ _ st7 fun b hb o e => (I8.pin (b, o) (List.mem_append_right _ (List.mem_append_right _ (mem_pinsAt hb e)))).1, fun b hb => ?_, w9⟩
        obtain ⟨o, e, d⟩ := T.obj _ _ st7 b hb
        exact (I8.pin (b, o) (List.mem_append_right _ (List.mem_append_right _ (mem_pinsAt hb e)))).2.1
      | true =>
        refine thn (he _ s3.heap.objs.size s3 (upd H s.heap.objs.size (.lst [])) fp _ s8 (some y :: σ) H8 N I8 (by simpa using q8)) fun w s9 ⟨v, H9, I9, r9, q9⟩ => ?_
        obtain ⟨hD9, m', hm, w9⟩ := hN v H9 q9
        refine thn (mt_append _ s9 (some y :: σ) H9 (.ref s.heap.objs.size) [v] (.ref s.heap.objs.size) [w] (fun z H10 => z = .non ∧ H10 = upd H9 s.heap.objs.size (.lst (ys ++ [v]))) I9 rfl (.cons r9 .nil) ⟨s.heap.objs.size, ys, v, rfl, rfl, hD9, hz, rfl, rfl⟩) fun _ s10 ⟨z, H10, I10, _, ez, e10⟩ => ?_
        subst e10
        refine ⟨m', hm, i + 1, some y, ys ++ [v], _, I10.unpinned, T.keep _ _ _ st7 fun b hb o e => (I10.pin (b, o) (List.mem_append_right _ (List.mem_append_right _ (mem_pinsAt hb e)))).1, fun b hb => ?_, w9⟩
        obtain ⟨o, e, d⟩ := T.obj _ _ st7 b hb
        exact (I10.pin (b, o) (List.mem_append_right _ (List.mem_append_right _ (mem_pinsAt hb e)))).2.1
  exact codeAny_compStart_list (loop _ (by rw [← hs3])) (T.self X.A 0 _ _ _ st4 (loop _ (by rw [← hs3])))
end
end L2

set_option Elab.async false
set_option linter.all false
set_option maxRecDepth 100000
set_option maxHeartbeats 4000000
namespace L2
open PySem PySem.Spec PyProof.Rows
section
variable {X : Cx} {N' : List Str} {scope : Scope} {x : Str} {px : Pos} {elt iter : Expr} {cds : List Expr} {pos : Pos} {te : TE} {tc : TT} {wi : TI}
theorem ps_setCompCx {at' : St → VK → It → Hp → Prop} {i : Nat} {y : Str} {py spos : Pos} (S : CompScC X.N N' X.env.scope scope x) (hc : X.calm = true) (hi : PI X (.Name x px) iter wi) (ht : ∀ cl C s H fp, PTL (cxCompC X x N' scope cl C s H fp) cds tc) (he : ∀ cl C s H fp, PE (cxCompC X x N' scope cl C s H fp) elt te) (cv : ∀ σ Q J H, at' σ Q J H → compAtF tc te σ Q J H)
    (hN : X.N.Nodup) (hy : X.N[i]? = some y) (hyl : X.env.scope.names.lookup y = some .local)
    (hsw : swapsWith (.ListComp elt [⟨.Name x px, iter, cds, 0⟩] scope pos) (some (.Name y py)) spos.line X.env = pure true := by rfl)
    (hs : ∀ x, foldedSetIterable iter X.env x = pure x := by intro _; rfl) : PS X (.Assign [.Name y py] (.ListComp elt [⟨.Name x px, iter, cds, 0⟩] scope pos) spos) (tAsg (fun σ H Q => wi σ H (at' σ Q)) (gName i)) := by
  intro pins s σ H D0 I h
  have hfree : ∀ z ∈ scope.names, z.2 = .free → ∃ c, X.env.cells.lookup z.1 = some c := fun z hz hk => by
    rcases (S.ok z hz hk).2 with q | q
    · exact I.ok.has z.1 (.inl q)
    · exact I.ok.has z.1 (.inr q)
  rw [exec_Assign_Name_used _ _ _ _ hsw]
  refine wpAny_bind (wpAny_standAt (wpAny_bind ?_))
  show wpAny _ X.A (do let _ ← comprehension (.ListComp elt [⟨.Name x px, iter, cds, 0⟩] scope pos) scope X.env _ (newList []) false (eval iter X.env) (some (assign (.Name y py) X.env))) _ _ s
  refine wpAny_bind (wpAny_mono (wpAny_comprehension_free (use := some (assign (.Name y py) X.env)) (Q := fun _ s' => SP X pins D0 .next s') rfl hs (clos_eq hfree) S.kind S.names
    (thn (hi pins s σ H _ I h) fun xv s1 h1 => thn h1 fun itv s2 h2 => ?_)) (fun _ s' hq => wpAny_pure (wpAny_pure hq)) fun _ _ e => e)
  obtain ⟨it, fp, tn, J, H2, e, I2, T, st2, f2, hw⟩ := h2
  subst e
  obtain ⟨cl, hcl, hrun⟩ := compc_core (tc := tc) (cds := cds) (elt := elt) (iter := iter) (pos := pos) (px := px) (E := X.xe) (Q := fun x H1 => gName i x σ H1 D0.nx) (RR := fun acc C => compPost (model X.prog X.w) X.A X.xe (some (assign (.Name y py) X.env)) (fun _ s' => SP X pins D0 .next s') acc C) S hc ht he I2 T st2 f2 (cv _ _ _ _ hw) (fun D C s' H' I' ⟨m, hm⟩ n1 n2 n3 n4 n5 q => by
    show wpAny _ X.A (assign (.Name y py) X.env (.ref D)) _ _ _
    refine wpAny_assign_Name (store_ok2 (i := i) (v := .ref D) I' hN hy (.inl hyl) rfl (fun s'' I'' ⟨a, hsa, hwa⟩ => ?_) (.inr hyl))
    have haC : C ≠ a := by
      rcases hwa with z | z
      · rw [z]; exact n1
      · intro z2
        exact n2 y a z z2.symm
    refine ⟨m, hm.sameBut hsa haC, fun h' hsb => ?_⟩
    exact ⟨_, H', I''.turned (it := C) (t' := s''.toks) (fun b o hb e => (hsb.2 b hb).trans e) n3 n1 (.inr n4) n2 n5, q⟩)
  have ecl : (pure (closOf X.env.cells scope.names []) : Sem (List (Str × Addr))) = pure cl := (clos_eq hfree).symm.trans hcl
  have ecl' : closOf X.env.cells scope.names [] = cl := by
    injection ecl
  rw [ecl']
  exact hrun
end
theorem relabel_ok {outer inner : Scope} (h : ∀ y ∈ inner.names, y.2 = .free → outer.names.lookup y.1 = some .cell ∨ outer.names.lookup y.1 = some .free) (env : Env) : ∀ y ∈ inner.names, y.2 = .free → (relabel outer env).names.lookup y.1 = some .cell ∨ (relabel outer env).names.lookup y.1 = some .free := fun y hy hk => by
  rw [relabel_lookup]
  rcases h y hy hk with z | z
  · left
    rw [z, Option.map_some]
    rfl
  · rw [z, Option.map_some]
    by_cases hcnd : (NameKind.free == NameKind.free && env.scope.kind == .function && env.kindOf y.1 == some .cell) = true
    · left
      rw [if_pos hcnd]
    · right
      rw [if_neg hcnd]
end L2

set_option Elab.async false
set_option linter.all false
set_option maxRecDepth 100000
set_option maxHeartbeats 4000000
namespace L2
open PySem PyProof.Rows PySem.Spec
section
variable {X : Cx}
end
section
variable {X : Cx} {N' : List Str} {scope : Scope} {x : Str} {px : Pos} {elt iter cd : Expr} {pos : Pos} {te : TE} {tc : TT} {wi : TI}
theorem ps_setCompfC {i : Nat} {y : Str} {py spos : Pos} (S : CompScC X.N N' X.env.scope scope x) (hc : X.calm = true) (hi : PI X (.Name x px) iter wi) (ht : ∀ cl C s H fp, PT (cxCompC X x N' scope cl C s H fp) cd tc) (he : ∀ cl C s H fp, PE (cxCompC X x N' scope cl C s H fp) elt te)
    (hN : X.N.Nodup) (hy : X.N[i]? = some y) (hyl : X.env.scope.names.lookup y = some .local)
    (hsw : swapsWith (.ListComp elt [⟨.Name x px, iter, [cd], 0⟩] scope pos) (some (.Name y py)) spos.line X.env = pure true := by rfl)
    (hs : ∀ x, foldedSetIterable iter X.env x = pure x := by intro _; rfl) : PS X (.Assign [.Name y py] (.ListComp elt [⟨.Name x px, iter, [cd], 0⟩] scope pos) spos) (tAsg (tCompF wi tc te) (gName i)) :=
  ps_setCompCx (at' := fun σ Q => compAtF tc te σ Q) S hc hi (fun _ _ _ _ _ => ptl_one (ht _ _ _ _ _)) he (fun _ _ _ _ h => h) hN hy hyl hsw hs
end
theorem compFL {J : It} {vs : List V} {tc : TT} {te : TE} {σ : St} {H : Hp} {Q : VK} (p : V → Bool) (g : V → List V) (rd : Reads J H vs) (hn : vs.length ≤ sizeLine)
    (ht : ∀ x H', x ∈ vs → Same H H' → ∀ N : Bool → Hp → Prop, (∀ H'', Same H' H'' → N (p x) H'') → tc (some x :: σ) H' N)
    (he : ∀ x H', x ∈ vs → p x = true → Same H H' → ∀ N : V → Hp → Prop, (∀ c H'', Same H' H'' → H' c = none → H'' c = some (.lst (g x)) → N (.ref c) H'') → te (some x :: σ) H' N)
    (hq : ∀ D bs H', H D = none → Same H H' → H' D = some (.lst (bs.map V.ref)) → Dt.R2 (fun v b => b ≠ D ∧ H b = none ∧ H' b = some (.lst (g v))) (vs.filter p) bs → Q (.ref D) H') : compAtF tc te σ Q J H := by
  intro D hD
  refine ⟨fun i m ys H2 => m = vs.length - i ∧ i ≤ vs.length ∧ Same H H2 ∧ H2 D = some (.lst ys) ∧ ∃ bs : List Addr, ys = bs.map V.ref ∧ Dt.R2 (fun v b => b ≠ D ∧ H b = none ∧ H2 b = some (.lst (g v))) ((vs.take i).filter p) bs, ⟨vs.length, rfl, Nat.zero_le _, fun b o e => ?_, upd_same, [], rfl, .nil⟩, ?_⟩
  · rw [upd_ne (ne_of_none e hD)]
    exact e
  · rintro i m ys H2 ⟨rfl, hi, hs, hd, bs, rfl, hb⟩
    by_cases hlt : i < vs.length
    · have hx : vs[i]? = some vs[i] := List.getElem?_eq_getElem hlt
      have hbl : bs.length ≤ i := by have := hb.len; have := filter_take_len p vs i; omega
      refine .inr ⟨rd.go i H2 hs hlt, by rw [List.length_map]; omega, fun v H' => p vs[i] = true ∧ Same H2 H' ∧ ∃ c, v = .ref c ∧ c ≠ D ∧ H c = none ∧ H' c = some (.lst (g vs[i])), fun v H' ⟨hp, hs', c, ev, hcD, hcn, hc⟩ => ⟨hs' D _ hd, vs.length - (i + 1), by omega, rfl, hlt, fun b o e => ?kp, upd_same, bs ++ [c], ?app, ?la⟩,
        fun H' => p vs[i] = false ∧ Same H2 H', fun H' ⟨hp, hs'⟩ => ⟨vs.length - (i + 1), by omega, rfl, hlt, fun b o e => hs' b o (hs b o e), hs' D _ hd, bs, rfl, ?skp⟩, fun y H' hy => ?stp⟩
      case app =>
        rw [ev, List.map_append]
        rfl
      case kp =>
        rw [upd_ne (ne_of_none e hD)]
        exact hs' b o (hs b o e)
      case la =>
        rw [take_filter p vs i _ hx, hp]
        refine Dt.R2.snoc (hb.mono fun v b _ ⟨h1, h0, h2⟩ => ⟨h1, h0, by rw [upd_ne h1]; exact hs' b _ h2⟩) ⟨hcD, hcn, by rw [upd_ne hcD]; exact hc⟩
      case skp =>
        rw [take_filter p vs i _ hx, hp]
        rw [show (if false = true then [vs[i]] else []) = [] from rfl, List.append_nil]
        exact hb.mono fun v b _ ⟨h1, h0, h2⟩ => ⟨h1, h0, hs' b _ h2⟩
      case stp =>
        obtain ⟨rfl, e2⟩ := rd.yl i H2 y H' hs hy
        have e4 : y = vs[i] := by rw [hx] at e2; exact (Option.some.inj e2).symm
        subst e4
        refine ht _ _ (List.getElem_mem hlt) hs _ fun H'' h'' => ?_
        by_cases hp : p vs[i] = true
        · rw [if_pos hp]
          refine he _ _ (List.getElem_mem hlt) hp (hs.trans h'') _ fun c H3 h3 hc1 hc2 => ⟨hp, h''.trans h3, c, rfl, fun z => ?_, ?_, hc2⟩
          · rw [z, h'' D _ hd] at hc1; cases hc1
          · cases e : H c with
            | none => rfl
            | some o => rw [h'' c o (hs c o e)] at hc1; cases hc1
        · rw [if_neg hp]
          exact ⟨by simpa using hp, h''⟩
    · have e : i = vs.length := by omega
      subst e
      rw [List.take_length] at hb
      exact .inl ⟨rd.st H2 hs, hq D bs H2 hD hs hd hb⟩
end L2

set_option Elab.async false
set_option linter.all false
set_option maxRecDepth 100000
set_option maxHeartbeats 4000000
namespace L2
open PySem PyProof.Rows
noncomputable def SqA (K : PySem.W.Frag) (H : Hp) (a : Addr) (xs : List V) : Prop := SqL K H a xs ∨ SqT K H a xs
theorem SqA.on {K : PySem.W.Frag} {H H' : Hp} {a : Addr} {xs : List V} (h : SqA K H a xs) (s : Same H H') : SqA K H' a xs := h.elim (fun h => .inl (s.seq h)) fun h => .inr (tupOn s h)
noncomputable def iSq (K : PySem.W.Frag) (tl : TE) : TI := fun σ H R => tl σ H fun x H1 => ∃ a xs H0, x = .ref a ∧ SqA K H0 a xs ∧ Same H0 H1 ∧ ∀ J, Reads J H0 xs → R J H1
section
variable {X : Cx} {tg : Expr}
theorem pi_seq {l : Expr} {tl : TE} (hl : PE X l tl) : PI X tg l (iSq X.K tl) := by
  intro pins s σ H R I h
  refine thn (hl pins s σ H _ I h) fun v s1 ⟨x, H1, I1, r1, q1⟩ => ?_
  obtain ⟨a, xs, H0, e, hq0 | hq0, s0, q0⟩ := q1
  · have hq := s0.seq hq0
    have q := q0 _ (reads_list hq0)
    subst e
    cases r1
    obtain ⟨its, rv, p, hz⟩ := I1.list hq
    refine wpAny_pyIter_list p.isList ?_
    refine ⟨s1.heap.objs.size, [s1.heap.objs.size], _, _, H1, rfl, I1.kept (t' := s1.toks) fun b o e => Heap.get?_push_of_some _ e, turn_list a _, ⟨_, Heap.get?_push_size _ rfl, rfl, rfl⟩, fun b hb => ?_, q⟩
    have e : b = s1.heap.objs.size := by simpa using hb
    subst e
    exact I1.fpOk (Nat.le_refl _) (I1.hok.fresh (Nat.le_refl _))
  · have hq := tupOn s0 hq0
    have q := q0 _ (reads_tup hq0)
    subst e
    cases r1
    obtain ⟨its, rv, p, hz⟩ := I1.tuple hq
    refine wpAny_pyIter_tuple (show s1.heap.IsTuple a its.toArray from p) ?_
    refine ⟨s1.heap.objs.size, [s1.heap.objs.size], _, _, H1, rfl, I1.kept (t' := s1.toks) fun b o e => Heap.get?_push_of_some _ e, turn_tuple a _, ⟨_, Heap.get?_push_size _ rfl, rfl, rfl⟩, fun b hb => ?_, q⟩
    have e : b = s1.heap.objs.size := by simpa using hb
    subst e
    exact I1.fpOk (Nat.le_refl _) (I1.hok.fresh (Nat.le_refl _))
theorem pi_seqK (K : PySem.W.Frag) (hK : X.K = K) {l : Expr} {tl : TE} (hl : PE X l tl) : PI X tg l (iSq K tl) := by
  subst hK
  exact pi_seq hl
end
theorem for_reads {J : It} {H0 : Hp} {vs : List V} {g : TG} {tb : TS} {D : Ends} {σ : St} {H : Hp} (rd : Reads J H0 vs) (Pv : Nat → St → Hp → Prop) (h0 : Pv 0 σ H) (hl : ∀ i σ H, i ≤ vs.length → Pv i σ H → Same H0 H)
    (hs : ∀ i x σ H, vs[i]? = some x → Pv i σ H → g x σ H fun σ2 H2 => tb { D with nx := Pv (i + 1), ct := Pv (i + 1), bk := D.nx } σ2 H2) (hd : ∀ σ H, Pv vs.length σ H → D.nx σ H) :
    ∃ W : Nat → Nat → St → Hp → Prop, (∃ m, W 0 m σ H) ∧ ∀ i m σ H, W i m σ H →
      (J.stop i H ∧ D.nx σ H) ∨ (J.go i H ∧ ∃ N : St → Hp → Prop, (∀ σ' H', N σ' H' → ∃ m', m' < m ∧ W (i + 1) m' σ' H') ∧ ∀ x H', J.yld i H x H' → g x σ H' fun σ2 H2 => tb { D with nx := N, ct := N, bk := D.nx } σ2 H2) := by
  refine ⟨fun i m σ H => m = vs.length - i ∧ i ≤ vs.length ∧ Pv i σ H, ⟨vs.length, by simp, Nat.zero_le _, h0⟩, ?_⟩
  rintro i m σ H ⟨rfl, hi, p⟩
  have hA := hl i σ H hi p
  by_cases hlt : i < vs.length
  · refine .inr ⟨rd.go i H hA hlt, Pv (i + 1), fun σ' H' p' => ⟨vs.length - (i + 1), by omega, rfl, hlt, p'⟩, fun x H' hy => ?_⟩
    obtain ⟨rfl, e⟩ := rd.yl i H x H' hA hy
    exact hs i x σ _ e p
  · have e : i = vs.length := by omega
    subst e
    exact .inl ⟨rd.st H hA, hd σ H p⟩
end L2

set_option Elab.async false
set_option linter.all false
set_option maxRecDepth 100000
set_option maxHeartbeats 4000000
namespace L2
open PySem PyProof.Rows
theorem compAtF.un {te : TE} {σ : St} {Q : VK} {J : It} {H : Hp} (hw : compAtF (fun _ H k => k true H) te σ Q J H) : compAt te σ Q J H := fun D hD => by
  obtain ⟨W, h0, hW⟩ := hw D hD
  refine ⟨W, h0, fun i m ys H2 hw2 => ?_⟩
  rcases hW i m ys H2 hw2 with g | ⟨g1, g2, N, g3, Nn, g4, g5⟩
  · exact .inl g
  · refine .inr ⟨g1, g2, N, g3, fun y H' hy => ?_⟩
    have := g5 y H' hy
    dsimp only at this
    rw [if_pos rfl] at this
    exact this
theorem compL {J : It} {vs : List V} {te : TE} {σ : St} {H : Hp} {Q : VK} (g : V → List V) (rd : Reads J H vs) (hn : vs.length ≤ sizeLine)
    (he : ∀ x H', x ∈ vs → Same H H' → ∀ N : V → Hp → Prop, (∀ c H'', Same H' H'' → H' c = none → H'' c = some (.lst (g x)) → N (.ref c) H'') → te (some x :: σ) H' N)
    (hq : ∀ D bs H', H D = none → Same H H' → H' D = some (.lst (bs.map V.ref)) → Dt.R2 (fun v b => b ≠ D ∧ H b = none ∧ H' b = some (.lst (g v))) vs bs → Q (.ref D) H') : compAt te σ Q J H := by
  refine compAtF.un (compFL (fun _ => true) g rd hn (fun x H' _ s N hN => hN H' (Same.refl _)) (fun x H' hx _ s N hN => he x H' hx s N hN) fun D bs H' h1 h2 h3 h4 => ?_)
  rw [List.filter_eq_self.mpr fun _ _ => rfl] at h4
  exact hq D bs H' h1 h2 h3 h4
noncomputable def rdL (H : Hp) (v : V) : List V := match v with
  | .ref b => match H b with
    | some (.lst xs) => xs
    | _ => []
  | _ => []
theorem rdL_at {H : Hp} {b : Addr} {xs : List V} (h : H b = some (.lst xs)) : rdL H (.ref b) = xs := by
  unfold rdL
  dsimp only
  rw [h]
end L2

set_option Elab.async false
set_option linter.all false
set_option maxRecDepth 100000
namespace L2
open PySem PyProof.Rows PySem.Spec
section
variable {X : Cx}
end
end L2

set_option Elab.async false
set_option linter.all false
set_option maxRecDepth 100000
namespace L2
open PySem PyProof.Rows PySem.Spec
section
variable {X : Cx}
end
end L2

set_option Elab.async false
set_option linter.all false
namespace L2
open PySem
theorem ps_false {X : Cx} {st : Stmt} : PS X st (fun _ _ _ => False) := fun _ _ _ _ _ _ h => h.elim
end L2

set_option Elab.async false
set_option linter.all false
set_option maxRecDepth 100000
set_option maxHeartbeats 4000000
namespace L2
open PySem PyProof.Rows PySem.Spec
section
variable {X : Cx}
theorem sorted_ofS {pins : List (Addr × Obj)} {σ : St} {H : Hp} {s : Shared} {v : Value} {ls : List (List Nat)} {Q : VK} (h64 : ls.length < 64)
    (hc : ∀ (A' : Around) (Q' : List Value → Shared → Prop), A'.handled = X.A.handled → (∀ (vs : List Value) (ss : List Str) (s1 : Shared), StrsAre vs ss → ss.Perm (ls.map tx) → Inv X pins σ H s1 → Q' vs s1) → wpAny (model X.prog X.w) A' (collect v) Q' X.xe s)
    (q : ∀ (ms : List (List Nat)) (D : Addr), H D = none → ms.Perm ls → ms.Pairwise (fun a b => ¬ b < a) → Q (.ref D) (upd H D (.lst (ms.map T)))) :
    wpAny (model X.prog X.w) X.A (call (.builtin "sorted") [v]) (EP X pins σ Q) X.xe s := by
  have hz : ls.length ≤ sizeLine := by rw [sizeLine_eq]; omega
  refine Calls.call_function_entry kind_sorted plain_sorted entry_sorted (args_sorted1 _) ?_
  unfold Builtin.«sorted»
  refine wpAny_bind (m := checkCount "sorted" 1 1 _) (wpAny_pure (wpAny_bind (hc _ _ (by simp) fun vs ss s1 hS hp I1 => wpAny_bind (wpAny_newList ?_ (by rw [hS.length, hp.length_eq, List.length_map]; exact hz)))))
  have e2 : (s1.heap.push (seqObj "list" vs.toArray 0)).get? s1.heap.objs.size = some (seqObj "list" vs.toArray 0) := Heap.get?_push_size _ rfl
  have hvl : vs.length = ls.length := by rw [hS.length, hp.length_eq, List.length_map]
  show wpAny _ _ _ _ _ { s1 with heap := s1.heap.push (seqObj "list" vs.toArray 0) }
  have key : ∀ (out : Array Value) (ss' : List Str), StrsAre out.toList ss' → ss'.Perm ss → sortedS ss' = true → EP X pins σ Q (.ref s1.heap.objs.size) { s1 with heap := sortedHeap (s1.heap.push (seqObj "list" vs.toArray 0)) s1.heap.objs.size vs out } := fun out ss' b1 b2 b3 => by
    obtain ⟨e, he⟩ := sortedHeap_at (out := out) e2
    have em : (ss'.map fun x => x.cps.toList).map tx = ss' := by
      rw [List.map_map]
      conv => rhs; rw [← List.map_id ss']
      exact List.map_congr_left fun x _ => tx_eta x
    have hp' : (ss'.map fun x => x.cps.toList).Perm ls := by
      have y := (b2.trans hp).map fun x => x.cps.toList
      rw [List.map_map, show (fun x => x.cps.toList) ∘ tx = id from funext tx_cps, List.map_id] at y
      exact y
    refine ⟨.ref _, _, I1.laid (t' := s1.toks) (fun b o eo => ?_) (Nat.le_refl _) (o := .lst ((ss'.map fun x => x.cps.toList).map T)) ⟨?_, out.toList, e, strs_back b1, by simpa using he⟩, rfl, q _ _ (I1.hok.fresh (Nat.le_refl _)) hp' (sorted_pw _ (by rw [em]; exact b3))⟩
    · have hlt := Heap.lt_size eo
      rw [sortedHeap_old (Nat.ne_of_lt hlt) (by rw [size_push']; exact Nat.lt_succ_of_lt hlt)]
      exact Heap.get?_push_of_some _ eo
    · rw [List.length_map, hp'.length_eq]
      exact hz
  refine wpAny_bind (wpAny_holding (wpAny_call_entry slot_list_sort ⟨_, e2, rfl⟩ entry_list_sort (list_sort_treeK strKind_oneLt e2 hS.keysOf (fun v1 v2 r e => ?_) (by omega) fun st' a1 a2 => ⟨_, rfl, wpAny_pure ⟨_, rfl, ?_⟩⟩) (args_list_sort _)))
  · have hS2 := hS
    rw [e] at hS2
    exact keyKind_strs hS2
  · obtain ⟨ss', b1, b2, b3⟩ := sorted_out_str hS a1 a2
    exact key _ ss' b1 b2 b3
end
end L2

set_option Elab.async false
set_option linter.all false
set_option maxRecDepth 100000
namespace L2
open PySem PySem.W PyProof.Rows
section
variable {X : Cx}
theorem call_sortedTuS : CallR X (.builtin "sorted") (fun xs H Q => ∃ (p : Addr) (ls : List (List Nat)), xs = [.ref p] ∧ SqT X.K H p (ls.map T) ∧ ls.length < 64 ∧ ∀ (ms : List (List Nat)) (D : Addr), H D = none → ms.Perm ls → ms.Pairwise (fun a b => ¬ b < a) → Q (.ref D) (upd H D (.lst (ms.map T)))) := by
  intro pins s σ H xs us Q I r h
  obtain ⟨p, ls, rfl, hq, h64, q⟩ := h
  obtain ⟨u, rfl, ru⟩ := vals1 r
  cases ru
  obtain ⟨its, rv, ⟨o, ho, hc, n, hd⟩, hz⟩ := I.tuple hq
  have hlen := rv.length
  rw [List.length_map] at hlen hz
  exact sorted_ofS h64 (fun A' Q' _ hQ => wpAny_collect_seq p (.inr rfl) ho hc hd (fun h' kp => hQ _ _ _ (strsAre_T rv) (List.Perm.refl _) (I.kept (t' := s.toks) kp)) (by rw [List.size_toArray]; omega)) q
theorem call_sortedSA : CallR X (.builtin "sorted") (fun xs H Q => ∃ (p : Addr) (ls : List (List Nat)), xs = [.ref p] ∧ SqA X.K H p (ls.map T) ∧ ls.length < 64 ∧ ∀ (ms : List (List Nat)) (D : Addr), H D = none → ms.Perm ls → ms.Pairwise (fun a b => ¬ b < a) → Q (.ref D) (upd H D (.lst (ms.map T)))) :=
  fun pins s σ H xs us Q I r ⟨p, ls, e, h, k⟩ => h.elim (fun h => call_sortedT pins s σ H xs us Q I r ⟨p, ls, e, h, k⟩) fun h => call_sortedTuS pins s σ H xs us Q I r ⟨p, ls, e, h, k⟩
theorem call_setA (hc : X.calm = true) : CallR X (.type "set") (fun xs H Q => ∃ (p : Addr) (ls : List (List Nat)), xs = [.ref p] ∧ SqA X.K H p (ls.map T) ∧ ls.length + 1 < 4096 ∧ ∀ D, H D = none → Q (.ref D) (upd H D (SetT X.prog X.w D (uniq ls)))) :=
  fun pins s σ H xs us Q I r ⟨p, ls, e, h, k⟩ => h.elim (fun h => call_setT hc pins s σ H xs us Q I r ⟨p, ls, e, h, k⟩) fun h => call_setTu hc pins s σ H xs us Q I r ⟨p, ls, e, h, k⟩
theorem ix_A : IxR X (fun x y H Q => ∃ (p : Addr) (xs : List V) (i : Int) (v : V), x = .ref p ∧ y = .int i ∧ SqA X.K H p xs ∧ atI xs i = some v ∧ Q v H) :=
  fun value slice pins s σ H x y v u Q I rx ry ⟨p, xs, i, z, e1, e2, h, k⟩ hs => h.elim (fun h => ix_list value slice pins s σ H x y v u Q I rx ry ⟨p, xs, i, z, e1, e2, h, k⟩ hs) fun h => ix_tup value slice pins s σ H x y v u Q I rx ry ⟨p, xs, i, z, e1, e2, h, k⟩ hs
end
end L2

set_option Elab.async false
set_option linter.all false
set_option maxRecDepth 100000
namespace L2
open PySem PyProof.Rows
section
variable {X : Cx}
end
end L2
namespace L2
open PySem PyProof.Rows PySem.Spec
section
variable {X : Cx}
end
end L2
namespace L2
open PySem PyProof.Rows PySem.Spec
section
variable {X : Cx}
theorem call_allB (hc : X.calm = true) : CallR X (.builtin "all") (fun xs H Q => ∃ (p : Addr) (bs : List Bool), xs = [.ref p] ∧ SqL X.K H p (bs.map V.bl) ∧ Q (.bl (bs.all id)) H) := by
  intro pins s σ H xs us Q I r h
  obtain ⟨p, bs, rfl, hq, q⟩ := h
  obtain ⟨u, rfl, ru⟩ := vals1 r
  cases ru
  obtain ⟨its, rv, pl, _⟩ := I.list hq
  have hlen := rv.length
  rw [List.length_map] at hlen
  have hat : ∀ (i : Nat) (v : Value), its.toArray[i]? = some v → v = .bool (bs.getD i false) := fun i v e => by
    have hi : i < bs.length := by
      have := (Array.getElem?_eq_some_iff.mp e).1
      rw [List.size_toArray] at this
      omega
    obtain ⟨w', e1, q1⟩ := rv.get (i := i) (x := .bl bs[i]) (by rw [List.getElem?_map, List.getElem?_eq_getElem hi]; rfl)
    rw [List.getElem?_toArray, e1] at e
    obtain rfl := Option.some.inj e
    rw [List.getD_eq_getElem?_getD, List.getElem?_eq_getElem hi]
    exact q1
  have hall : (List.range its.toArray.size).all (fun i => bs.getD i false) = bs.all id := by
    rw [List.size_toArray, ← hlen, Bool.eq_iff_iff, List.all_eq_true, List.all_eq_true]
    constructor
    · intro h b hb
      obtain ⟨i, hi⟩ := List.getElem?_of_mem hb
      have hil := (List.getElem?_eq_some_iff.mp hi).1
      have := h i (List.mem_range.mpr hil)
      rw [List.getD_eq_getElem?_getD, hi] at this
      exact this
    · intro h i hi
      have hil := List.mem_range.mp hi
      rw [List.getD_eq_getElem?_getD, List.getElem?_eq_getElem hil]
      exact h _ (List.getElem_mem hil)
  have hne : p ≠ s.heap.objs.size := by
    obtain ⟨o, ho, _⟩ := id pl.isList
    exact Nat.ne_of_lt (Heap.lt_size ho)
  refine call_all_walk (wpAny_pyIter_list pl.isList ⟨s.heap.objs.size, [s.heap.objs.size, p], [s.heap.objs.size], its.toArray.size, _, _, fun i => bs.getD i false, rfl, Walks.list (A := X.A.in1) (show X.A.in1.handled = none from I.ok.hd hc) s.heap.objs.size p hne its.toArray, ⟨⟨_, Heap.get?_push_size _ rfl, rfl, rfl⟩, pl.isList.at fun o e => Heap.get?_push_of_some _ e⟩, ?_, fun h' tk hk => ?_⟩)
  · intro i v s' Q' E' hP hQ
    rw [hat i v hP]
    exact wpAny_truthy_bool hQ
  · rw [hall]
    exact ⟨.bl _, H, I.kept (fun b o e => hk b o (by simp; exact Nat.ne_of_lt (Heap.lt_size e)) (Heap.get?_push_of_some _ e)), rfl, q⟩
end
end L2

set_option Elab.async false
set_option linter.all false
namespace L2
open PySem
section
variable {X : Cx}
end
end L2

set_option Elab.async false
set_option linter.all false
set_option maxRecDepth 100000
namespace L2
open PySem PyProof.Rows
section
variable {X : Cx}
end
end L2

set_option Elab.async false
set_option linter.all false
set_option maxRecDepth 100000
namespace L2
open PySem PySem.Spec PyProof.Rows
section
variable {X : Cx}
end
end L2

set_option Elab.async false
set_option linter.all false
set_option maxRecDepth 100000
set_option maxHeartbeats 4000000
namespace L2
open PySem PySem.Spec PyProof.Rows
end L2

set_option linter.all false
namespace LT
open PySem PyProof.Rows L2
section
variable {prog : Program} {w : World} {A : Around} {R : Result → Shared → Prop} {s : Shared} {l b : Addr} {its jts : Array Value}
end
section
variable {X : Cx}
end
end LT
namespace L2
open PySem PyProof.Rows PySem.Spec
section
variable {X : Cx} {e : Expr} {ta : TE} {f : Str} {pos : Pos}
end
end L2
namespace L2
open PySem PyProof.Rows PySem.Spec
section
variable {X : Cx}
end
end L2

set_option autoImplicit false
set_option linter.all false
set_option maxRecDepth 100000
set_option maxHeartbeats 200000
namespace SR
open PySem PyProof.Rows PySem.Spec
section
variable {prog : Program} {w : World} {A : Around} {E : Value → Shared → Prop} {s : Shared} {z : Array Keyed} {κ : KeyKind} {kd : SortKind}
end
section
variable {prog : Program} {w : World} {A : Around} {E : Value → Shared → Prop} {s : Shared}
end
end SR

set_option Elab.async false
set_option autoImplicit false
set_option linter.all false
set_option maxRecDepth 100000
namespace LT
open PySem PyProof.Rows L2 SR
section
variable {prog : Program} {w : World} {A : Around} {R : Result → Shared → Prop} {s : Shared} {l b : Addr} {its jts : Array Value}
end
noncomputable def keyL (f : Addr → Option (List (List Nat))) : Value → Option (List (List Nat))
  | .ref a => f a
  | _ => none
@[reducible] noncomputable def kindL (f : Addr → Option (List (List Nat))) : KeyKind where
  α := List (List Nat)
  blt a b := decide (a < b)
  irrefl a := by simpa using List.lt_irrefl a
  trans a b c h1 h2 := by simp only [decide_eq_true_eq] at *; exact List.lt_trans h1 h2
  negTrans a b c h := by
    simp only [decide_eq_true_eq] at *
    by_cases hab : a < b
    · exact .inl hab
    · exact .inr (List.lt_of_le_of_lt (List.not_lt.mp hab) h)
  total a b h1 h2 := by simp only [decide_eq_false_iff_not] at *; exact List.le_antisymm (List.not_lt.mp h2) (List.not_lt.mp h1)
  keyOf := keyL f
  dflt := []
end LT
namespace L2
open PySem PyProof.Rows PySem.Spec SR
section
variable {X : Cx}
noncomputable def LLs (K : PySem.W.Frag) (H : Hp) (us : List (List (List Nat))) (bs : List Addr) : Prop := Dt.R2 (fun u b => SqL K H b (u.map T)) us bs
end
end L2

set_option Elab.async false
set_option linter.all false
set_option maxRecDepth 100000
set_option maxHeartbeats 4000000
namespace L2
open PySem PySem.Spec PyProof.Rows
noncomputable def spl (c : Nat) : List Nat → List (List Nat)
  | [] => [[]]
  | a :: t => if a = c then [] :: spl c t else match spl c t with
    | h :: r => (a :: h) :: r
    | [] => [[a]]
theorem spl_ne (c : Nat) : ∀ t, ∃ h r, spl c t = h :: r
  | [] => ⟨[], [], rfl⟩
  | a :: t => by
    obtain ⟨h, r, e⟩ := spl_ne c t
    by_cases g : a = c
    · exact ⟨[], spl c t, if_pos g⟩
    · refine ⟨a :: h, r, ?_⟩
      show (if a = c then _ else _) = _
      rw [if_neg g, e]
noncomputable def jnS (g : List Nat) : List (List Nat) → List Nat
  | [] => []
  | [l] => l
  | l :: m :: r => l ++ g ++ jnS g (m :: r)
section
open Builtin Builtin.Str StrLaws
theorem occ1_go {t : List Nat} {c : Nat} : ∀ (k a : Nat) (st : Array Nat × Nat), a + k ≤ t.length + 1 → st.snd ≤ a → st.fst.size ≤ a →
    (forIn (List.range' a k) st (occBody (tx t) (tx [c]) (tx t).length ((tx t).length + 1))).run.fst.toList = st.fst.toList ++ (List.range' a k).filter fun i => decide (t[i]? = some c)
  | 0, a, st, _, _, _ => by simp
  | k + 1, a, st, h1, h2, h3 => by
    have hl : (tx t).length = t.length := tx_len t
    rw [List.range'_succ, List.forIn_cons]
    have hs := subAt_one (tx t) c a
    rw [tx_cps] at hs
    have hx : (⟨#[c]⟩ : Str) = tx [c] := rfl
    rw [hx] at hs
    unfold occBody
    by_cases e : t[a]? = some c
    · obtain ⟨g1, g2⟩ := hs.mpr e
      rw [if_pos ⟨⟨⟨by omega, h2⟩, g1⟩, g2⟩]
      rw [List.filter_cons_of_pos (p := fun i => decide (t[i]? = some c)) (decide_eq_true e)]
      have ih := occ1_go (t := t) (c := c) k (a + 1) (st.fst.push a, a + (tx [c]).length) (by omega) (by show a + (tx [c]).length ≤ a + 1; rw [tx_len]; exact Nat.le_refl _) (by show (st.fst.push a).size ≤ a + 1; rw [Array.size_push]; omega)
      refine ih.trans ?_
      rw [Array.toList_push, List.append_assoc]
      rfl
    · rw [if_neg (fun z => e (hs.mp ⟨z.1.2, z.2⟩))]
      rw [List.filter_cons_of_neg (p := fun i => decide (t[i]? = some c)) (fun z => e (of_decide_eq_true z))]
      exact occ1_go (t := t) (c := c) k (a + 1) (st.fst, st.snd) (by omega) (by show st.snd ≤ a + 1; omega) (by show st.fst.size ≤ a + 1; omega)
theorem occ1 (t : List Nat) (c : Nat) : occurrences (tx t) (tx [c]) 0 (tx t).length ((tx t).length + 1) = (List.range' 0 (t.length + 1)).filter fun i => decide (t[i]? = some c) := by
  have hl : (tx t).length = t.length := tx_len t
  rw [occ_eq, show (tx t).length + 1 - 0 = t.length + 1 by omega]
  have := occ1_go (t := t) (c := c) (t.length + 1) 0 (#[], 0) (by omega) (Nat.le_refl _) (Nat.le_refl _)
  simpa using this
theorem sub_tx (t : List Nat) (a b : Nat) : strSub (tx t) a b = tx ((t.drop a).take (b - a)) := by
  apply Str.ext'
  apply Array.toList_inj.mp
  rw [strSub_toList, tx_cps, tx_cps]
theorem parts1 (t : List Nat) (c : Nat) : ∀ (k a : Nat), a + k = t.length → partsFrom (tx t) 1 a ((List.range' a (k + 1)).filter fun i => decide (t[i]? = some c)) = (spl c (t.drop a)).map tx
  | 0, a, h => by
    have hl : (tx t).length = t.length := tx_len t
    have e : t.drop a = [] := List.drop_eq_nil_of_le (by omega)
    rw [e, show List.range' a (0 + 1) = [a] from rfl, List.filter_cons_of_neg (p := fun i => decide (t[i]? = some c)) (fun z => by have := of_decide_eq_true z; rw [List.getElem?_eq_none (by omega)] at this; cases this), List.filter_nil]
    show [strSub (tx t) a (tx t).length] = [tx []]
    rw [sub_tx, e, List.take_nil]
  | k + 1, a, h => by
    have hl : (tx t).length = t.length := tx_len t
    have ih := parts1 t c k (a + 1) (by omega)
    have hd : t.drop a = t[a] :: t.drop (a + 1) := List.drop_eq_getElem_cons (by omega)
    have ha : t[a]? = some t[a] := List.getElem?_eq_getElem (by omega)
    rw [List.range'_succ, hd]
    by_cases e : t[a] = c
    · rw [List.filter_cons_of_pos (p := fun i => decide (t[i]? = some c)) (decide_eq_true (by rw [ha, e]))]
      show strSub (tx t) a a :: partsFrom (tx t) 1 (a + 1) _ = _
      rw [ih, sub_tx, Nat.sub_self, List.take_zero]
      show _ = (if t[a] = c then [] :: spl c (t.drop (a + 1)) else _).map tx
      rw [if_pos e]
      rfl
    · rw [List.filter_cons_of_neg (p := fun i => decide (t[i]? = some c)) (fun z => e (Option.some.inj (ha.symm.trans (of_decide_eq_true z))))]
      have hgt : ∀ i ∈ (List.range' (a + 1) (k + 1)).filter fun i => decide (t[i]? = some c), a + 1 ≤ i := fun i hi => by
        have := (List.mem_range'_1.mp (List.mem_filter.mp hi).1).1
        exact this
      obtain ⟨q, r, e2⟩ := spl_ne c (t.drop (a + 1))
      have e3 : spl c (t[a] :: t.drop (a + 1)) = (t[a] :: q) :: r := by
        show (if t[a] = c then _ else _) = _
        rw [if_neg e, e2]
      rw [e3]
      rw [e2] at ih
      generalize (List.range' (a + 1) (k + 1)).filter (fun i => decide (t[i]? = some c)) = cu at ih hgt
      have hone : ∀ b, a + 1 ≤ b → strSub (tx t) (a + 1) b = tx q → strSub (tx t) a b = tx (t[a] :: q) := fun b hb hq => by
        rw [sub_tx] at hq ⊢
        rw [hd, show b - a = (b - (a + 1)) + 1 by omega, List.take_succ_cons, tx_inj hq]
      cases cu with
      | nil =>
        have g : strSub (tx t) (a + 1) (tx t).length = tx q ∧ ([] : List Str) = r.map tx := List.cons.inj ih
        show [strSub (tx t) a (tx t).length] = _
        rw [hone _ (by omega) g.1, List.map_cons, ← g.2]
      | cons b cu =>
        have g : strSub (tx t) (a + 1) b = tx q ∧ partsFrom (tx t) 1 (b + 1) cu = r.map tx := List.cons.inj ih
        show strSub (tx t) a b :: partsFrom (tx t) 1 (b + 1) cu = _
        rw [hone _ (hgt b (List.mem_cons_self ..)) g.1, g.2, List.map_cons]
theorem split_tx (t : List Nat) (c : Nat) (hc : c < 256) : Txt.split (tx t) (tx [c]) = (spl c t).map tx := by
  have hl : (tx t).length = t.length := tx_len t
  have key := parts1 t c t.length 0 (by omega)
  rw [List.drop_zero] at key
  unfold Txt.split
  by_cases h0 : t.length = 0
  · obtain rfl := List.length_eq_zero_iff.mp h0
    rw [if_pos (by rw [Bool.or_eq_true, decide_eq_true_iff]; exact .inl (by rw [tx_len, tx_len]; exact Nat.lt_succ_self 0))]
    rfl
  · have hk : Builtin.Str.strKind (tx [c]) = 1 := by
      unfold Builtin.Str.strKind
      rw [if_pos (by simp [tx, hc])]
    have hk2 : 1 ≤ Builtin.Str.strKind (tx t) := by
      unfold Builtin.Str.strKind
      split
      · exact Nat.le_refl _
      · split <;> omega
    have hno : ¬ (decide ((tx t).length < (tx [c]).length) || decide (Builtin.Str.strKind (tx t) < Builtin.Str.strKind (tx [c]))) = true := by
      rw [Bool.or_eq_true, decide_eq_true_iff, decide_eq_true_iff, hk, tx_len, tx_len]
      rintro (z | z)
      · have : t.length < 1 := z
        omega
      · omega
    rw [if_neg hno, occ1, partsBetween_eq, show (tx [c]).length = 1 from tx_len [c]]
    by_cases he : ((List.range' 0 (t.length + 1)).filter fun i => decide (t[i]? = some c)).isEmpty = true
    · rw [if_pos he]
      rw [List.isEmpty_iff.mp he] at key
      rw [← key]
      show _ = [strSub (tx t) 0 (tx t).length]
      rw [sub_tx, List.drop_zero, Nat.sub_zero, hl, List.take_length]
    · rw [if_neg he]
      exact key
end
end L2

set_option Elab.async false
set_option linter.all false
set_option maxRecDepth 100000
set_option maxHeartbeats 4000000
namespace L2
open PySem PySem.Spec PyProof.Rows
section
open Builtin Builtin.Str
theorem split_here {prog : Program} {w : World} {A : Around} {E : Value → Shared → Prop} {s : Shared} {x y : Str} {t u : Tok} {Q : Value → Shared → Prop} (hy : (y.length == 0) = false)
    (hq : ∀ (l : List (Str × Tok)) (k : Nat), l.map (·.1) = Txt.split x y → Q (.ref s.heap.objs.size) { s with toks := k, heap := s.heap.push { cls := .type "list", data := .seq (strValues l).toArray } })
    (hsz : x.length ≤ sizeLine) (hs2 : (partsBetween x (occurrences x y 0 x.length (x.length + 1)) y.length).length ≤ sizeLine) :
    wpAny (model prog w) A (call (.builtin "str.split") [.str x t, .str y u]) Q E s := by
  have hd : ∀ b : Bool, b = true ∨ b = false := fun b => by cases b <;> simp
  rcases hd (decide (x.length < y.length) || decide (Builtin.Str.strKind x < Builtin.Str.strKind y)) with h1 | h1
  · refine call_meets F.slot_str_split (typeIs_str _ _ _) F.entry_str_split (F.args_str_split_2 _ _)
      (meets_str_split_cannot_occur x y t u h1) ?_
    exact hq [(x, t)] s.toks (if_pos h1).symm
  rcases hd (occurrences x y 0 x.length (x.length + 1)).isEmpty with hf | hf
  · refine call_meets F.slot_str_split (typeIs_str _ _ _) F.entry_str_split (F.args_str_split_2 _ _)
      (meets_str_split_not_found x y t u h1 hy hf) ?_
    exact hq [(x, t)] s.toks ((if_neg (ne_true_of_eq_false h1)).trans (if_pos hf)).symm
  · refine call_meets F.slot_str_split (typeIs_str _ _ _) F.entry_str_split (F.args_str_split_2 _ _)
      (meets_str_split_sep x y t u h1 hy hf hsz hs2) ?_
    have e := strsFrom_eq s.toks (partsBetween x (occurrences x y 0 x.length (x.length + 1)) y.length)
    have z := fun k => hq (numbered s.toks (partsBetween x (occurrences x y 0 x.length (x.length + 1)) y.length)) k ((numbered_texts _ _).trans ((if_neg (ne_true_of_eq_false h1)).trans (if_neg (ne_true_of_eq_false hf))).symm)
    simp only [← e] at z
    exact z _
end
theorem jnS_app {g : List Nat} (a b : List Nat) : ∀ r : List (List Nat), jnS g ((a ++ b) :: r) = a ++ jnS g (b :: r)
  | [] => rfl
  | m :: r => by
    show a ++ b ++ g ++ jnS g (m :: r) = a ++ (b ++ g ++ jnS g (m :: r))
    simp
theorem joinS_tx (g : List Nat) (ls : List (List Nat)) : Txt.join (tx g) (ls.map tx) = tx (jnS g ls) := by
  unfold Txt.join Builtin.Str.glued
  have key : ∀ (r : List (List Nat)) (a : List Nat), (r.map tx).foldl (fun acc (p : Str) => acc ++ (tx g).cps ++ p.cps) (tx a).cps = (tx (jnS g (a :: r))).cps := by
    intro r
    induction r with
    | nil => intro a; rfl
    | cons m r ih =>
      intro a
      rw [List.map_cons, List.foldl_cons, show (tx a).cps ++ (tx g).cps ++ (tx m).cps = (tx (a ++ g ++ m)).cps by simp [tx], ih, jnS_app]
      show (tx (a ++ g ++ jnS g (m :: r))).cps = _
      rfl
  cases ls with
  | nil => rfl
  | cons l ls =>
    rw [List.map_cons, List.drop_succ_cons, List.drop_zero, List.headD_cons, key]
section
variable {X : Cx}
theorem mt_split : MtR X "str.split" (fun x xs H Q => ∃ (t : List Nat) (c : Nat), x = T t ∧ xs = [T [c]] ∧ c < 256 ∧ t.length + 2 ≤ sizeLine ∧ ∀ D, H D = none → Q (.ref D) (upd H D (.lst ((spl c t).map T)))) := by
  intro pins s σ H x xs v us Q I rx rs h
  obtain ⟨t, c, rfl, rfl, hc, hz, q⟩ := h
  obtain ⟨tk, rfl⟩ := rx
  obtain ⟨u, rfl, ru⟩ := vals1 rs
  obtain ⟨tk2, rfl⟩ := ru
  have hlen : (Builtin.Str.partsBetween (tx t) (Builtin.Str.occurrences (tx t) (tx [c]) 0 (tx t).length ((tx t).length + 1)) (tx [c]).length).length ≤ sizeLine := by
    have h1 := StrLaws.occ_length_le_len (tx t) (tx [c]) 0 (tx t).length ((tx t).length + 1)
    rw [length_partsBetween]
    rw [tx_len] at h1
    rw [tx_len]
    omega
  refine split_here (by rw [tx_len]; rfl) (fun l k hl => ?_) (by rw [tx_len]; omega) hlen
  rw [split_tx t c hc] at hl
  have hv : Vals ((spl c t).map T) (strValues l) := by
    have z := strs_back (strsAre_of_values l)
    rw [hl, List.map_map, List.map_map] at z
    have e : (spl c t).map (T ∘ (fun x : Str => x.cps.toList) ∘ tx) = (spl c t).map T := List.map_congr_left fun y _ => by show T (tx y).cps.toList = T y; rw [tx_cps]
    rw [← e]
    exact z
  have hsz : ((spl c t).map T).length ≤ sizeLine := by
    have h2 := congrArg List.length (split_tx t c hc)
    rw [List.length_map] at h2 ⊢
    have h3 : (Txt.split (tx t) (tx [c])).length ≤ (Builtin.Str.partsBetween (tx t) (Builtin.Str.occurrences (tx t) (tx [c]) 0 (tx t).length ((tx t).length + 1)) (tx [c]).length).length := by
      unfold Txt.split
      have h4 := length_partsBetween (tx t) (Builtin.Str.occurrences (tx t) (tx [c]) 0 (tx t).length ((tx t).length + 1)) (tx [c]).length
      split
      · rw [h4]; exact Nat.succ_le_succ (Nat.zero_le _)
      · split
        · rw [h4]; exact Nat.succ_le_succ (Nat.zero_le _)
        · exact Nat.le_refl _
    omega
  exact ⟨.ref s.heap.objs.size, _, I.lnew (t' := k) hv hsz, rfl, q _ I.fresh⟩
theorem mt_joinS : MtR X "str.join" (fun x xs H Q => ∃ (g : List Nat) (p : Addr) (ls : List (List Nat)), x = T g ∧ xs = [.ref p] ∧ SqL X.K H p (ls.map T) ∧ ls.flatten.length + ls.length * g.length ≤ sizeLine ∧ Q (T (jnS g ls)) H) := by
  intro pins s σ H x xs v us Q I rx rs h
  obtain ⟨g, p, ls, rfl, rfl, hq, hz, q⟩ := h
  obtain ⟨t, rfl⟩ := rx
  obtain ⟨u, rfl, ru⟩ := vals1 rs
  cases ru
  obtain ⟨its, r, pl, _⟩ := I.list hq
  have hs : sizeLine = 16777216 := sizeLine_eq
  refine join_list pl.isList (ys := ls.map tx) (by simpa using strsAre_T r) ?_ fun t' k => ⟨T (jnS g ls), H, I.tok _, ⟨t', by rw [joinS_tx]⟩, q⟩
  rw [sum_len_tx, tx_len, List.length_map]
  omega
noncomputable def dgI (a : Int) : List Nat := (Str.ofString (toString a)).cps.toList
theorem call_strI : CallR X (.type "str") (fun xs H Q => ∃ a : Int, xs = [.int a] ∧ a.natAbs.log2 < 1920 ∧ Q (T (dgI a)) H) := by
  intro pins s σ H xs us Q I r h
  obtain ⟨a, rfl, ha, q⟩ := h
  obtain ⟨u, rfl, ru⟩ := vals1 r
  obtain ⟨t, rfl⟩ := ru
  refine P.str_of_int ha ⟨T (dgI a), H, I.tok _, ⟨s.toks, ?_⟩, q⟩
  show Value.str _ _ = Value.str (tx (dgI a)) _
  rw [dgI, tx_eta]
theorem call_intT : CallR X (.type "int") (fun xs H Q => ∃ (t : List Nat) (n : Int), xs = [T t] ∧ t.length ≤ 640 ∧ PySem.intText? (tx t) = some n ∧ Q (.int n) H) := by
  intro pins s σ H xs us Q I r h
  obtain ⟨t, n, rfl, hl, hn, q⟩ := h
  obtain ⟨u, rfl, ru⟩ := vals1 r
  obtain ⟨tk, rfl⟩ := ru
  exact PySem.W.KIN.call_text hn (by rw [tx_len]; exact hl) ⟨.int n, H, I.tok _, ⟨_, rfl⟩, q⟩
end
end L2

set_option Elab.async false
set_option linter.all false
set_option maxRecDepth 100000
set_option maxHeartbeats 4000000
namespace L2
open PySem PySem.Spec PyProof.Rows
noncomputable def tupLook (K : PySem.W.Frag) (d : List (List Nat)) (v : Value) : Bool := match v with
  | .ref b => match K.lookup b with
    | some o => match o.cls, o.data with
      | .type "tuple", .seq its _ => decide (its.size ≤ 1000) && (its.toList.map fun v => match v with | .str x _ => some x | _ => none) == d.map fun z => some (tx z)
      | _, _ => false
    | none => false
  | _ => false
theorem vals_look : ∀ (ns : List (List Nat)) (us : List Value), (us.map fun v => match v with | .str x _ => some x | _ => none) = ns.map (fun z => some (tx z)) → Vals (ns.map T) us
  | [], [], _ => .nil
  | [], _ :: _, h => by cases h
  | _ :: _, [], h => by cases h
  | n :: ns, u :: us, h => by
    rw [List.map_cons, List.map_cons, List.cons.injEq] at h
    refine .cons ?_ (vals_look ns us h.2)
    have h1 := h.1
    split at h1
    · obtain rfl := Option.some.inj h1
      exact ⟨_, rfl⟩
    · cases h1
theorem tupLook_of {K : PySem.W.Frag} (H : Hp) {d : List (List Nat)} {v : Value} (h : tupLook K d v = true) : ∃ b, v = .ref b ∧ SqT K H b (d.map T) := by
  unfold tupLook at h
  split at h
  · rename_i b
    refine ⟨b, rfl, ?_⟩
    split at h
    · rename_i o hk
      split at h
      · rename_i its n hc hd
        rw [Bool.and_eq_true, decide_eq_true_iff, beq_iff_eq] at h
        exact .inr ⟨o, its, n, hk, hc, hd, Nat.le_trans h.1 (by rw [sizeLine_eq]; decide), vals_look d _ h.2⟩
      · cases h
    · cases h
  · cases h
noncomputable abbrev TabD := List (List Nat × List (List Nat))
noncomputable def tabS (D : TabD) : List (Str × List (List Nat)) := D.map fun p => (tx p.1, p.2)
noncomputable def tabIs (K : PySem.W.Frag) (a : Addr) (D : TabD) : Bool := KTD.tabLook (tupLook K) (fun b => K.lookup b) a (tabS D)
noncomputable def tabAt (t : List Nat) : TabD → Option (List (List Nat))
  | [] => none
  | (x, d) :: D => if t = x then some d else tabAt t D
theorem datum_tab (t : List Nat) : ∀ D : TabD, KTD.datumAt (tx t) (tabS D) = tabAt t D
  | [] => rfl
  | (x, d) :: D => by
    show (if decide (tx t = tx x) = true then some d else KTD.datumAt (tx t) (tabS D)) = if t = x then some d else tabAt t D
    rw [datum_tab t D]
    by_cases h : t = x
    · rw [if_pos h, if_pos (decide_eq_true (by rw [h]))]
    · rw [if_neg h, if_neg fun z => h (tx_inj (of_decide_eq_true z))]
section
variable {X : Cx} {pins : List (Addr × Obj)} {σ : St} {H : Hp} {s : Shared} {a : Addr} {D : TabD}
noncomputable abbrev TabR (K : PySem.W.Frag) (H : Hp) : List (List Nat) → Value → Prop := fun d v => ∃ b, v = .ref b ∧ SqT K H b (d.map T)
theorem tab_inv (I : Inv X pins σ H s) (h : tabIs X.K a D = true) : KTD.TabOf (TabR X.K H) s.heap a (tabS D) :=
  KTD.tab_of_look (fun _ _ z => tupLook_of H z) (fun b o z => I.kIn b o z) h
theorem tab_typeIs (I : Inv X pins σ H s) (h : tabIs X.K a D = true) : s.TypeIs (.ref a) "dict" ∧ ∀ b, Value.ref a = .ref b → ∃ ob, s.heap.get? b = some ob ∧ ob.dict = none := by
  obtain ⟨_, o, _, _, ho, hc, _⟩ := tab_inv I h
  exact ⟨⟨o, ho, hc.1⟩, fun b e => by cases e; exact ⟨o, ho, hc.2.1⟩⟩
noncomputable def TabV (K : PySem.W.Frag) (H : Hp) (o : Option (List (List Nat))) (v : Option Value) : Prop := match o, v with
  | some d, some v => TabR K H d v
  | none, none => True
  | _, _ => False
theorem tab_get (I : Inv X pins σ H s) (h : tabIs X.K a D = true) (t : List Nat) : ∃ v, TabV X.K H (tabAt t D) v ∧ ∀ (A : Around) (tk : Tok) (Q : Option Value → Shared → Prop) (E : Value → Shared → Prop), Q v { s with toks := s.toks + 1 } → wpAny (model X.prog X.w) A (dictGet a (.str (tx t) tk)) Q E s := by
  obtain ⟨_, o, es, ep, ho, _, hd, hr⟩ := tab_inv I h
  have hall : (es.all fun e => isExactStrKey e.key) = true := by
    rw [← Array.all_toList]
    exact hr.exact
  have hf : findBy (fun k v => v.isStr k) es (tx t) = (es.toList.find? fun e => e.key.isStr (tx t)).map (·.val) := by
    cases es
    simp [findBy]
  refine ⟨findBy (fun k v => v.isStr k) es (tx t), ?_, fun A tk Q E q => ?_⟩
  · rw [hf, ← datum_tab]
    cases hat : KTD.datumAt (tx t) (tabS D) with
    | none => rw [hr.find_none hat]; trivial
    | some d =>
      obtain ⟨v, hv, hR⟩ := hr.find_some hat
      rw [hv]
      exact hR
  · unfold dictGet
    try with_reducible refine wpAny_holding ?_
    refine wpAny_bind (wpAny_pyHash_str (wpAny_bind ?_))
    refine KTD.kt_dictFind_strs (o := o) (es := es) (ep := ep) ho hd hall ?_
    rw [findBy_of_findIdx?] at q
    cases hi : es.findIdx? fun e => e.key.isStr (tx t) with
    | none => rw [hi] at q; exact wpAny_pure q
    | some i => rw [hi] at q; exact wpAny_bind (wpAny_dictEntries (s := { s with toks := s.toks + 1 }) ho hd (wpAny_pure q))
theorem tab_contains (I : Inv X pins σ H s) (h : tabIs X.K a D = true) (t : List Nat) (A : Around) (tk : Tok) (Q : Bool → Shared → Prop) (E : Value → Shared → Prop) (q : Q (tabAt t D).isSome { s with toks := s.toks + 1 }) : wpAny (model X.prog X.w) A (contains (.ref a) (.str (tx t) tk)) Q E s := by
  obtain ⟨ti, _⟩ := tab_typeIs I h
  have hm := (tab_inv I h).1
  obtain ⟨v, hv, hg⟩ := tab_get I h t
  unfold contains
  try with_reducible refine wpAny_holding ?_
  refine wpAny_bind (wpAny_specialOf ti slot_dict_contains.lookup ?_)
  show wpAny _ _ (if (some (Value.builtin "dict.__contains__") == some Value.none) = true then _ else _) _ E s
  rw [if_neg (by rw [beq_builtin_none]; exact Bool.false_ne_true)]
  refine wpAny_bind (wpAny_callSpecialUnlessNone?_slot (name := Str.ofString "__contains__") ti slot_dict_contains (wpAny_call_entry slot_dict_contains ti entry_dict_contains ?_ (args_dict_contains _ _)))
  show wpAny _ _ (dictGet a (.str (tx t) tk) >>= _) _ _ s
  refine wpAny_bind (hg _ _ _ _ ?_)
  cases hta : tabAt t D with
  | none =>
    rw [hta] at hv q
    cases v with
    | some v => exact absurd hv id
    | none => exact wpAny_bind (wpAny_pendingKey_other hm (wpAny_pure ⟨_, rfl, wpAny_truthy_bool q⟩))
  | some d =>
    rw [hta] at hv q
    cases v with
    | none => exact absurd hv id
    | some v => exact wpAny_pure ⟨_, rfl, wpAny_truthy_bool q⟩
end
section
variable {X : Cx}
theorem op_in_tab : OpR X (compareOp .In) (fun x y H Q => ∃ (t : List Nat) (a : Addr) (D : TabD), x = T t ∧ y = .ref a ∧ tabIs X.K a D = true ∧ Q (.bl (tabAt t D).isSome) H) := by
  intro pins s σ H x y v u Q I rx ry h
  obtain ⟨t, a, D, rfl, rfl, hD, q⟩ := h
  obtain ⟨tk, rfl⟩ := rx
  cases ry
  show wpAny _ _ (do return Value.bool (← contains (.ref a) (.str (tx t) tk))) _ _ s
  exact wpAny_bind (tab_contains I hD t _ _ _ _ (wpAny_pure ⟨.bl _, H, I.tok _, rfl, q⟩))
theorem ix_tab : IxR X (fun x y H Q => ∃ (t : List Nat) (a : Addr) (D : TabD) (d : List (List Nat)), x = .ref a ∧ y = T t ∧ tabIs X.K a D = true ∧ tabAt t D = some d ∧ ∀ b, SqT X.K H b (d.map T) → Q (.ref b) H) := by
  intro value slice pins s σ H x y v u Q I rx ry h hs
  obtain ⟨t, a, D, d, rfl, rfl, hD, hd, q⟩ := h
  cases rx
  obtain ⟨tk, rfl⟩ := ry
  obtain ⟨ti, _⟩ := tab_typeIs I hD
  obtain ⟨v, hv, hg⟩ := tab_get I hD t
  rw [hd] at hv
  cases v with
  | none => exact absurd hv id
  | some v =>
    obtain ⟨b, rfl, hb⟩ := hv
    refine subscriptTail_builtinR (x := .ref b) ti slot_dict_getitem.lookup ?_ hs
    unfold getItem
    try with_reducible refine wpAny_holding ?_
    refine wpAny_bind (wpAny_sequenceKey ti (by decide) ?_)
    refine wpAny_bind (wpAny_callSpecial?_slot (name := Str.ofString "__getitem__") ti slot_dict_getitem (wpAny_call_entry slot_dict_getitem ti entry_dict_getitem ?_ (args_dict_getitem _ _)))
    show wpAny _ _ (dictGet a (.str (tx t) tk) >>= _) _ _ s
    exact wpAny_bind (hg _ _ _ _ (wpAny_pure ⟨_, rfl, wpAny_pure ⟨rfl, .ref b, H, I.tok _, rfl, q b hb⟩⟩))
noncomputable def tTGet2 (K : PySem.W.Frag) (td ty tz : TE) : TE := fun σ H Q => td σ H fun x H1 => ∃ (a : Addr) (D : TabD), x = .ref a ∧ tabIs K a D = true ∧ ty σ H1 fun y H2 => tz σ H2 fun z H3 => ∃ t, y = T t ∧ match tabAt t D with
  | some d => ∀ b, SqT K H3 b (d.map T) → Q (.ref b) H3
  | none => Q z H3
variable {o e f : Expr} {td ty tz : TE} {apos cpos : Pos}
theorem pe_tget2 (ho : PE X o td) (he : PE X e ty) (hf : PE X f tz) (m : M2 X o "get" apos e f cpos) : PE X (.Call (.Attribute o "get" apos) [e, f] [] cpos) (tTGet2 X.K td ty tz) := by
  intro pins s σ H Q I h
  refine wpAny_Call_method m.base m.few m.line PySem.F.plainAttrs_dict PySem.F.slot_dict_get PySem.F.type_dict_get (thn (ho pins s σ H _ I h) fun u s1 ⟨x, H1, I1, rx, a, D, ex, hD, q1⟩ => ?_)
  subst ex
  obtain rfl : u = Value.ref a := rx
  obtain ⟨t1, t2⟩ := tab_typeIs I1 hD
  refine ⟨t1, t2, ?_⟩
  rw [m.trees]
  refine Calls.callWith_builtin rfl (Calls.evalArgs_plain (Calls.spliced_cons (thn (he pins s1 σ H1 _ I1 q1) fun iv s2 ⟨y, H2, I2, ry, q2⟩ =>
    Calls.spliced_cons (thn (hf pins s2 σ H2 _ I2 q2) fun fv s3 ⟨z, H3, I3, rz, t, ey, q3⟩ => Calls.spliced_nil ?_))))
  subst ey
  obtain ⟨tk, rfl⟩ := ry
  have hm := (tab_inv I3 hD).1
  obtain ⟨t3, _⟩ := tab_typeIs I3 hD
  obtain ⟨v, hv, hg⟩ := tab_get I3 hD t
  refine wpAny_call_entry PySem.F.slot_dict_get t3 PySem.F.entry_dict_get ?_ (PySem.F.args_dict_get_3 _ _ _)
  show wpAny _ _ (dictGet a (.str (tx t) tk) >>= _) _ _ s3
  refine wpAny_bind (hg _ _ _ _ ?_)
  cases hta : tabAt t D with
  | none =>
    rw [hta] at hv q3
    cases v with
    | some v => exact absurd hv id
    | none => exact wpAny_bind (wpAny_missed_other hm (wpAny_pure ⟨_, rfl, z, H3, I3.tok _, rz, q3⟩))
  | some d =>
    rw [hta] at hv q3
    cases v with
    | none => exact absurd hv id
    | some v =>
      obtain ⟨b, rfl, hb⟩ := hv
      exact wpAny_pure ⟨_, rfl, .ref b, H3, I3.tok _, rfl, q3 b hb⟩
end
end L2

set_option Elab.async false
set_option linter.all false
set_option maxRecDepth 100000
set_option maxHeartbeats 4000000
namespace PySem
open Sem (wp)
theorem enum_new1 (l : Addr) (items : Array Value) (n : Nat) (dct : Option Addr) (sl : Array (Option Value)) (t : Tok) :
    Meets (Builtin.«enumerate.__new__» ⟨[.type "enumerate", .ref l], [(Str.ofString "start", .int 1 t)]⟩) (fun _ R s => s.heap.get? l = some { cls := .type "list", dict := dct, data := .seq items n, slots := sl } ∧
      R (.ok (.ret (.ref (s.heap.push { cls := .type "list_iterator", data := .fields #[.ref l, .int 0 0] }).objs.size)))
        { s with heap := (s.heap.push { cls := .type "list_iterator", data := .fields #[.ref l, .int 0 0] }).push { cls := .type "enumerate", data := .fields #[.none, .bool false, .ref s.heap.objs.size, rawInt 1, .none, .none] } }) :=
  .of_wp fun prog w A R s h => by
    obtain ⟨hp, g, d, tk, os⟩ := s
    obtain ⟨hl, h⟩ := h
    have hsub := sub_enumerate
    have hL : Heap.IsList (Shared.heap ⟨hp, g, d, tk, os⟩) l items := ⟨_, hl, rfl, n, rfl⟩
    wp_walk using AutoSeq1.wpAny_loadPart' hl
    refine wpAny_stack_any fun st => wpAny_pure ?_
    split
    · rename_i c _ _ _ _ _
      cases (c == Value.type "enumerate") <;> (wp_walk using AutoSeq1.wpAny_loadPart' hl, wpAny_pyIter_list hL)
      · exact ⟨_, rfl, h⟩
      · exact ⟨_, rfl, h⟩
    · wp_walk using AutoSeq1.wpAny_loadPart' hl, wpAny_pyIter_list hL
      exact ⟨_, rfl, h⟩
theorem ctx_kw {prog : Program} {w : World} {A : Around} {E : Value → Shared → Prop} {s : Shared} {T newId initId : String} {Bn Bi : Builtin} {args : List Value} {kw : List (Str × Value)} {S : Spec} {Q Q₁ : Value → Shared → Prop} (ft : TypeCalled T newId initId)
    (hct : checkTypeCall T ⟨args, kw⟩ = pure ()) (hcn : checkBuiltinCall newId ⟨.type T :: args, kw⟩ = pure ()) (eN : entryFor table newId = some Bn) (eI : entryFor table initId = some Bi) (g : Meets (Bn ⟨.type T :: args, kw⟩) S) (h : S A.in1 (wants Q₁ E) s)
    (hn : ∀ obj s₁, Q₁ obj s₁ → s₁.TypeIs obj T ∧ argsOk initId ⟨obj :: args, kw⟩ ∧ ∃ Si, Meets (Bi ⟨obj :: args, kw⟩) Si ∧ Si A.in1 (wants (fun r s₂ => r = .none ∧ Q obj s₂) E) s₁) : wpAny (model prog w) A (call (.type T) args kw) Q E s := by
  obtain ⟨⟨c, tl, hmro⟩, hmade, hsub⟩ : (∃ c tl, mroOf (.type T) = pure (c :: tl)) ∧ Bind.madeBy (.type T) = pure (some newId) ∧ isSubtype (.type T) (.type T) = pure true := ⟨ft.mro, ft.made, ft.sub⟩
  refine wpAny_call (codeAny_of_tree (show wpAny _ _ (callAny (.type T) _) _ _ _ from wpAny_pure ⟨Code.quiet_builtin _ (by decide +kernel), codeAny_builtin F.entry_type_call ?_⟩))
  rw [Around.under_plain (weight_type_call_type T args kw) (units_type_call_type T args kw)]
  have h1 := ft.notType
  have h2 := ft.canCreate
  repeat any_goals first | assumption | wp_step
  refine codeAny_mono (codeAny_call_builtin ft.plain eN (wpAny_of_eq hcn (g prog w A.in1 _ s h))) fun r s₁ hr => ?_
  match r, hr with
  | .error e, hr => exact hr
  | .ok (.ret obj), hr =>
    obtain ⟨hT, hok, Si, gi, hsi⟩ := hn _ _ hr
    have hli := ft.init.lookup
    have hbi := ft.init.bind obj
    repeat any_goals first | assumption | wp_step
    refine codeAny_mono (codeAny_call_builtin ft.init.plain eI (ft.init.check _ _ _ _ _ _ _ _ hT hok (gi prog w A.in1 _ s₁ hsi))) fun r₂ s₂ hr₂ => ?_
    match r₂, hr₂ with
    | .error e, hr₂ => exact hr₂
    | .ok (.ret r), hr₂ =>
      obtain ⟨rfl, hq⟩ := hr₂
      repeat any_goals first | assumption | wp_step
theorem init_kw {T newId : String} {self : Value} {rest : List Value} {kw : List (Str × Value)} (hl : typeLookup (.type T) "__init__" = pure (some (.builtin "object.__init__"))) (hm : Bind.madeBy (.type T) = pure (some newId)) (hne : (some newId != some "object.__new__") = true) (a : Value) :
    Meets (Builtin.«object.__init__» ⟨self :: a :: rest, kw⟩) (fun _ R s => s.TypeIs self T ∧ R (.ok (.ret .none)) s) := by
  refine Meets.of_wp fun prog w A R s hs => ?_
  obtain ⟨hT, hq⟩ := hs
  repeat any_goals first | assumption | wp_step
  exact ⟨_, rfl, hq⟩
theorem call_enum1 {prog : Program} {w : World} {A : Around} {E : Value → Shared → Prop} {s : Shared} {l : Addr} {items : Array Value} {t : Tok} {Q : Value → Shared → Prop} (hL : s.heap.IsList l items)
    (h : ∀ h', IsEnum h' (s.heap.objs.size + 1) s.heap.objs.size 1 .none → h'.IsListIter s.heap.objs.size l 0 → (∀ b o, s.heap.get? b = some o → h'.get? b = some o) → Q (.ref (s.heap.objs.size + 1)) { s with heap := h' }) :
    wpAny (model prog w) A (call (.type "enumerate") [.ref l] [(Str.ofString "start", .int 1 t)]) Q E s := by
  obtain ⟨⟨c, dct, dt, sl⟩, hl, hc, n, hd⟩ := hL
  obtain rfl : c = .type "list" := hc
  obtain rfl : dt = .seq items n := hd
  refine ctx_kw F.called_enumerate (by kernel_rfl) (by kernel_rfl) F.entry_enumerate_new F.entry_object_init (enum_new1 l items n dct sl t) (Q₁ := fun obj s₁ => s₁.TypeIs obj "enumerate" ∧ Q obj s₁) ⟨hl, ?_⟩ fun obj _ hq => ⟨hq.1, ?_, _, init_kw F.called_enumerate.init.lookup F.called_enumerate.made (by decide) _, hq.1, rfl, hq.2⟩
  · have hz : (s.heap.push { cls := .type "list_iterator", data := .fields #[.ref l, .int 0 0] }).objs.size = s.heap.objs.size + 1 := Heap.size_push ..
    have he := Heap.get?_push_size (s.heap.push { cls := .type "list_iterator", data := .fields #[.ref l, .int 0 0] }) (o := { cls := .type "enumerate", data := .fields #[.none, .bool false, .ref s.heap.objs.size, rawInt 1, .none, .none] }) rfl
    show _ ∧ _
    rw [hz] at he ⊢
    exact ⟨⟨_, he, rfl⟩, h _ he ⟨_, Heap.get?_push_of_some _ (Heap.get?_push_size _ rfl), rfl, rfl⟩ fun b o x => Heap.get?_push_of_some _ (Heap.get?_push_of_some _ x)⟩
  · first | (show argsOk _ _; unfold argsOk; kernel_rfl) | kernel_rfl
end PySem
namespace L2
open PySem PyProof.Rows PySem.Spec
theorem cw_typeKw {M : Model} {A : Around} {E : Value → Shared → Prop} {s : Shared} {pos : Pos} {T : String} {args : List (Bool × Sem Value)} {keywords : List (Option Str × Sem Value)} {Q : Value → Shared → Prop} (hp : args.any (·.1) = false) (hk : keywords.any (·.1.isNone) = false)
    (h : wpAny M A (evalArgs (.type T) true args keywords) (fun a s₁ => wpAny M A (call (.type T) ([] ++ a.pos) a.kw) Q E s₁) E s) : wpAny M A (callWith pos (.type T) [] args keywords) Q E s := by
  unfold callWith
  refine wpAny_bind (wpAny_holding (thn h fun a s₁ h₁ => wpAny_bind (wpAny_standAt ?_)))
  simp only [hp, hk, Bool.or_false]
  exact wpAny_bind (wpAny_pure (wpAny_bind (thn h₁ fun r s₂ hr => wpAny_bind (wpAny_holding (wpAny_point (wpAny_pure hr))))))
theorem draws_up {prog : Program} {w : World} {A : Around} {it : Addr} {fp : List Addr} {n : Nat} {P : Nat → Value → Prop} {St : Nat → Heap → Prop} (D : Draws prog w A it fp n P St) : Draws prog w A it fp (n + 1) (fun i x => ∃ j, i = j + 1 ∧ P j x) (fun i h => ∃ j, i = j + 1 ∧ St j h) where
  live := fun _ h ⟨j, _, st⟩ => D.live j h st
  frame := fun _ h h' ⟨j, e, st⟩ k => ⟨j, e, D.frame j h h' st k⟩
  item := fun i s Q E hi ⟨j, e, st⟩ hQ => by
    subst e
    exact D.item j s Q E (Nat.lt_of_succ_lt_succ hi) st fun x h' tk p q r => hQ x h' tk ⟨j, rfl, p⟩ ⟨j + 1, rfl, q⟩ r
  done := fun s Q E ⟨j, e, st⟩ hE => by
    obtain rfl : n = j := Nat.succ.inj e
    exact D.done s Q E st hE
noncomputable def Ite1 (K : PySem.W.Frag) (a : Addr) : It :=
  ⟨fun i H => ∃ xs x, SqL K H a xs ∧ xs[i]? = some x,
   fun i H x H' => ∃ (T : Addr) (u : V), x = .ref T ∧ H T = none ∧ H' = upd H T (.tup [.int ((i + 1 : Nat) : Int), u]) ∧ ∀ xs, SqL K H a xs → xs[i]? = some u,
   fun i H => ∃ xs, SqL K H a xs ∧ xs.length ≤ i⟩
theorem turn_enum1 {P : Program} {w : World} {K : PySem.W.Frag} {elts : List Expr} {x1} {pos : Pos} {a e it : Addr} (hne : e ≠ it) (hea : e ≠ a) (hai : a ≠ it) :
    Turn P w K (.Tuple elts x1 pos) (Ite1 K a) [e, it] e (fun i h => (∃ old, IsEnum h e it ((i + 1 : Nat) : Int) old) ∧ h.IsListIter it a i) where
  mem := by simp
  obj := fun i h st c hc => by
    obtain ⟨⟨old, h1⟩, ⟨o4, e4, c4, d4⟩⟩ := st
    simp only [List.mem_cons, List.not_mem_nil, or_false] at hc
    rcases hc with rfl | rfl
    · exact ⟨_, h1, fun v z => by cases z⟩
    · exact ⟨_, e4, fun v z => by rw [d4] at z; cases z⟩
  keep := fun i h h' st k => by
    obtain ⟨⟨old, h1⟩, h4⟩ := st
    exact ⟨⟨old, k e (by simp) _ h1⟩, h4.at fun o e => k it (by simp) o e⟩
  item := by
    intro X hP hw hK hc i pins s σ H E I hf st hg
    subst hP hw hK
    obtain ⟨xs, x, hq1, hx⟩ := hg
    obtain ⟨its, rv, p, hz⟩ := I.list hq1
    obtain ⟨u, hu, ru⟩ := rv.get hx
    obtain ⟨⟨old, h1⟩, h4⟩ := st
    have hi : i < its.toArray.size := by
      have := (List.getElem?_eq_some_iff.mp hu).1
      simpa using this
    refine wpAny_pyNext_enum_itemD (draws_up (Draws.list (A := X.A.in1) (I.ok.hd hc) it a hai its.toArray)) h1 ⟨i, rfl, h4, p.isList⟩ (Nat.succ_lt_succ hi) hne (by simp [hne, hea]) fun v h' tk ⟨j, ej, hv⟩ z1 ⟨j2, ej2, z2, _⟩ z3 z4 z5 => ?_
    obtain rfl : i = j := Nat.succ.inj ej
    obtain rfl : i + 1 = j2 := Nat.succ.inj ej2
    obtain rfl : u = v := by
      have : its.toArray[i]? = some u := by simpa using hu
      exact Option.some.inj (this.symm.trans hv)
    refine ⟨_, rfl, wpAny_letOwnedTupleGo_enum (s := { s with heap := h', toks := tk + 1 }) z1 fun h'' y1 y2 => ?_⟩
    have hT : H s.heap.objs.size = none := I.hok.fresh (Nat.le_refl _)
    have I1 : Inv X pins σ (upd H s.heap.objs.size (.tup [.int ((i + 1 : Nat) : Int), x])) { s with heap := s.heap.push { cls := .type "tuple", data := .seq #[.int ((i + 1 : Nat) : Int) tk, u] }, toks := tk + 1 } :=
      I.laid (t' := tk + 1) (fun b u e => Heap.get?_push_of_some _ e) (Nat.le_refl _) ⟨(by show 2 ≤ sizeLine; rw [sizeLine_eq]; decide), [.int ((i + 1 : Nat) : Int) tk, u], .cons ⟨_, rfl⟩ (.cons ru .nil), ⟨_, Heap.get?_push_size _ rfl, rfl, _, rfl⟩⟩
    have nf : ∀ c ∈ [e, it], c ≠ s.heap.objs.size := fun c hc e => by
      have lt : ∃ o, s.heap.get? c = some o := by
        obtain ⟨o4, e4, _⟩ := id h4
        simp only [List.mem_cons, List.not_mem_nil, or_false] at hc
        rcases hc with rfl | rfl
        · exact ⟨_, h1⟩
        · exact ⟨_, e4⟩
      obtain ⟨o, ho⟩ := lt
      have := Heap.lt_size ho
      rw [e] at this
      exact Nat.lt_irrefl _ this
    have hf1 : ∀ c ∈ [e, it], FpOk X pins (upd H s.heap.objs.size (.tup [.int ((i + 1 : Nat) : Int), x])) c := fun c hc => by
      obtain ⟨f0, f⟩ := hf c hc
      exact ⟨by rw [upd_ne (nf c hc)]; exact f0, f⟩
    have I2 : Inv X pins σ (upd H s.heap.objs.size (.tup [.int ((i + 1 : Nat) : Int), x])) { s with heap := h'', toks := tk + 1 } :=
      Inv.turnedL (s := { s with heap := s.heap.push { cls := .type "tuple", data := .seq #[.int ((i + 1 : Nat) : Int) tk, u] }, toks := tk + 1 }) (t' := tk + 1) (ch := [e, it]) I1 (fun b o hb e => by
        simp only [List.mem_cons, List.not_mem_nil, or_false, not_or] at hb
        obtain ⟨b1, b2⟩ := hb
        refine (y2.2 b b1).trans ?_
        rcases Heap.get?_push_cases e with ⟨rfl, rfl⟩ | e
        · exact z3
        · exact z5 b o b1 b2 e) hf1
    refine ⟨.ref s.heap.objs.size, _, I2, rfl, ⟨s.heap.objs.size, x, rfl, hT, rfl, fun zs hzs => by rw [I.list_inj hzs hq1]; exact hx⟩, ⟨⟨_, by exact_mod_cast y1⟩, ?_⟩, fun c hc => (hf1 c hc).1⟩
    exact z2.at fun o e => (y2.2 it (Ne.symm hne)).trans e
  done := by
    intro X hP hw hK hc i pins s σ H E I hf st hg
    subst hP hw hK
    obtain ⟨xs, hq1, hl⟩ := hg
    obtain ⟨its, rv, p, hz⟩ := I.list hq1
    obtain ⟨⟨old, h1⟩, h4⟩ := st
    have l1 := rv.length
    have D : Draws X.prog X.w X.A.in1 it [it, a] i (fun _ _ => True) (fun j h => j = i ∧ h.IsListIter it a i ∧ h.IsList a its.toArray) :=
      { live := fun _ _ ⟨_, ⟨o, ho, _⟩, _⟩ => ⟨o, ho⟩
        frame := fun _ _ _ ⟨e, s1, s2⟩ k => ⟨e, s1.at fun o e => k it (by simp) o e, s2.at fun o e => k a (by simp) o e⟩
        item := fun j _ _ _ hj ⟨e, _⟩ _ => absurd hj (by omega)
        done := fun s Q E ⟨_, s1, s2⟩ hE => wpAny_nextOf_list_end (I.ok.hd hc) s1 s2 (by simp; omega) hE }
    refine wpAny_pyNext_enum_endD D h1 ⟨rfl, h4, p.isList⟩ fun h' kk => ⟨rfl, ?_⟩
    exact I.turnedL (t' := s.toks) (ch := [e, it]) (fun b o hb e => by
      simp only [List.mem_cons, List.not_mem_nil, or_false, not_or] at hb
      exact kk b o hb.2 e) hf
  self := fun A i s Q E st h => wpAny_pyIter_enum st.1.choose_spec h
section
variable {X : Cx}
noncomputable def iEnum1 (K : PySem.W.Frag) (ta : TA) : TI := fun σ H R => ta σ H fun xs H1 => ∃ a : Addr, xs = [.ref a] ∧ (∃ us, SqL K H1 a us) ∧ R (Ite1 K a) H1
theorem pi_enum1 {a : Expr} {ta : TA} {p pos pos' pk pc : Pos} {elts : List Expr} {x1 x2} (hg : Gl X "enumerate") (hm : X.mg "enumerate" = none) (ha : PA X [a] ta) (hs : starEach [a] X.env = [(false, eval a X.env)] := by rfl) :
    PI X (.Tuple elts x1 pos') (.Call (.Name "enumerate" p) [a] [⟨some (Str.ofString "start"), .Constant (.int 1) x2 pc, pk⟩] pos) (iEnum1 X.K ta) := by
  intro pins s σ H R I h
  show wpAny _ _ (do callWith pos (← eval (.Name "enumerate" p) X.env) [] (backTo pos (starEach [a] X.env)) (backToKw pos (keywordEach [⟨some (Str.ofString "start"), .Constant (.int 1) x2 pc, pk⟩] X.env))) _ _ _
  refine wpAny_bind (ld_blt I hg hm boot_enumerate (cw_typeKw (by rw [hs]; rfl) (by rfl) ?_))
  have ha' := ha pos pins s σ H _ I h
  rw [hs] at ha' ⊢
  refine evalArgs_kwB (by rfl) (thn ha' fun us s1 ⟨vs, H1, I1, r1, l1, e, ⟨us1, hq1⟩, q⟩ => kws_cons (wpAny_Constant_int (kws_nil ?_)))
  subst e
  obtain ⟨u, rfl, ru⟩ := vals1 r1
  cases ru
  have I2 := I1.tok (s1.toks + 1)
  obtain ⟨its, rv, p, hz⟩ := I2.list hq1
  refine call_enum1 (t := s1.toks) p.isList fun h' z1 z2 z4 => ?_
  refine wpAny_pyIter_enum (s := { s1 with heap := h', toks := s1.toks + 1 }) z1 ?_
  have fr : ∀ c, s1.heap.objs.size ≤ c → FpOk X pins H1 c := fun c hc => I1.fpOk hc (I1.hok.fresh hc)
  obtain ⟨o, ho, _⟩ := p.isList
  have hla := Heap.lt_size ho
  refine ⟨s1.heap.objs.size + 1, [s1.heap.objs.size + 1, s1.heap.objs.size], _, _, H1, rfl, I2.kept (t' := s1.toks + 1) z4, turn_enum1 (Nat.succ_ne_self _) (fun z => ?_) (Nat.ne_of_lt hla), ⟨⟨_, z1⟩, z2⟩, fun c hc => fr c ?_, q⟩
  · rw [← z] at hla
    exact absurd (Nat.lt_of_succ_lt hla) (Nat.lt_irrefl _)
  · simp only [List.mem_cons, List.not_mem_nil, or_false] at hc
    rcases hc with rfl | rfl
    · exact Nat.le_add_right _ _
    · exact Nat.le_refl _
theorem for_enum1 {K : PySem.W.Frag} {a : Addr} {xs : List V} {g : TG} {tb : TS} {D : Ends} {σ : St} {H : Hp} (Pv : Nat → St → Hp → Prop) (h0 : Pv 0 σ H) (hl : ∀ i σ H, i ≤ xs.length → Pv i σ H → SqL K H a xs)
    (hs : ∀ i x T σ H, xs[i]? = some x → H T = none → Pv i σ H → g (.ref T) σ (upd H T (.tup [.int ((i + 1 : Nat) : Int), x])) fun σ2 H2 => tb { D with nx := Pv (i + 1), ct := Pv (i + 1), bk := D.nx } σ2 H2) (hd : ∀ σ H, Pv xs.length σ H → D.nx σ H) :
    ∃ W : Nat → Nat → St → Hp → Prop, (∃ m, W 0 m σ H) ∧ ∀ i m σ H, W i m σ H →
      ((Ite1 K a).stop i H ∧ D.nx σ H) ∨ ((Ite1 K a).go i H ∧ ∃ N : St → Hp → Prop, (∀ σ' H', N σ' H' → ∃ m', m' < m ∧ W (i + 1) m' σ' H') ∧ ∀ x H', (Ite1 K a).yld i H x H' → g x σ H' fun σ2 H2 => tb { D with nx := N, ct := N, bk := D.nx } σ2 H2) := by
  refine ⟨fun i m σ H => m = xs.length - i ∧ i ≤ xs.length ∧ Pv i σ H, ⟨xs.length, by simp, Nat.zero_le _, h0⟩, ?_⟩
  rintro i m σ H ⟨rfl, hi, p⟩
  have q1 := hl i σ H hi p
  by_cases hlt : i < xs.length
  · refine .inr ⟨⟨xs, xs[i], q1, by simp [hlt]⟩, Pv (i + 1), fun σ' H' p' => ⟨xs.length - (i + 1), by omega, rfl, hlt, p'⟩, fun x H' y => ?_⟩
    obtain ⟨T, u, rfl, hT, rfl, y1⟩ := y
    exact hs i u T σ _ (y1 xs q1) hT p
  · have e : i = xs.length := by omega
    subst e
    exact .inl ⟨⟨xs, q1, Nat.le_refl _⟩, hd σ H p⟩
end
end L2

set_option Elab.async false
set_option linter.all false
set_option maxRecDepth 100000
set_option maxHeartbeats 4000000
namespace L2
open PySem PyProof.Rows PySem.Spec
section
variable {X : Cx}
theorem call_anyB (hc : X.calm = true) : CallR X (.builtin "any") (fun xs H Q => ∃ (p : Addr) (bs : List Bool), xs = [.ref p] ∧ SqL X.K H p (bs.map V.bl) ∧ Q (.bl (bs.any id)) H) := by
  intro pins s σ H xs us Q I r h
  obtain ⟨p, bs, rfl, hq, q⟩ := h
  obtain ⟨u, rfl, ru⟩ := vals1 r
  cases ru
  obtain ⟨its, rv, pl, _⟩ := I.list hq
  have hlen := rv.length
  rw [List.length_map] at hlen
  have hat : ∀ (i : Nat) (v : Value), its.toArray[i]? = some v → v = .bool (bs.getD i false) := fun i v e => by
    have hi : i < bs.length := by
      have := (Array.getElem?_eq_some_iff.mp e).1
      rw [List.size_toArray] at this
      omega
    obtain ⟨w', e1, q1⟩ := rv.get (i := i) (x := .bl bs[i]) (by rw [List.getElem?_map, List.getElem?_eq_getElem hi]; rfl)
    rw [List.getElem?_toArray, e1] at e
    obtain rfl := Option.some.inj e
    rw [List.getD_eq_getElem?_getD, List.getElem?_eq_getElem hi]
    exact q1
  have hall : (List.range its.toArray.size).any (fun i => bs.getD i false) = bs.any id := by
    rw [List.size_toArray, ← hlen, Bool.eq_iff_iff, List.any_eq_true, List.any_eq_true]
    constructor
    · rintro ⟨i, hi, h⟩
      have hil := List.mem_range.mp hi
      rw [List.getD_eq_getElem?_getD, List.getElem?_eq_getElem hil] at h
      exact ⟨_, List.getElem_mem hil, h⟩
    · rintro ⟨b, hb, h⟩
      obtain ⟨i, hi⟩ := List.getElem?_of_mem hb
      refine ⟨i, List.mem_range.mpr (List.getElem?_eq_some_iff.mp hi).1, ?_⟩
      rw [List.getD_eq_getElem?_getD, hi]
      exact h
  have hne : p ≠ s.heap.objs.size := by
    obtain ⟨o, ho, _⟩ := id pl.isList
    exact Nat.ne_of_lt (Heap.lt_size ho)
  refine call_any_walk (wpAny_pyIter_list pl.isList ⟨s.heap.objs.size, [s.heap.objs.size, p], [s.heap.objs.size], its.toArray.size, _, _, fun i => bs.getD i false, rfl, Walks.list (A := X.A.in1) (show X.A.in1.handled = none from I.ok.hd hc) s.heap.objs.size p hne its.toArray, ⟨⟨_, Heap.get?_push_size _ rfl, rfl, rfl⟩, pl.isList.at fun o e => Heap.get?_push_of_some _ e⟩, ?_, fun h' tk hk => ?_⟩)
  · intro i v s' Q' E' hP hQ
    rw [hat i v hP]
    exact wpAny_truthy_bool hQ
  · rw [hall]
    exact ⟨.bl _, H, I.kept (fun b o e => hk b o (by simp; exact Nat.ne_of_lt (Heap.lt_size e)) (Heap.get?_push_of_some _ e)), rfl, q⟩
theorem call_maxL (hc : X.calm = true) : CallR X (.builtin "max") (fun xs H Q => ∃ (p : Addr) (ns : List Int), xs = [.ref p] ∧ SqL X.K H p (ns.map V.int) ∧ ns ≠ [] ∧ ∀ M, M ∈ ns → (∀ a ∈ ns, a ≤ M) → Q (.int M) H) := by
  intro pins s σ H xs us Q I r h
  obtain ⟨p, ns, rfl, hq, hn, q⟩ := h
  obtain ⟨u, rfl, ru⟩ := vals1 r
  cases ru
  obtain ⟨its, rv, pl, _⟩ := I.list hq
  have hi : IntsAre its ns := intsAre_of rv
  obtain ⟨zs, e⟩ := hi.allInts.items
  have hns : ns = zs.toList.map (·.1) := by rw [← hi.numsOf, ← nums_intItems, ← e]
  have hl : ns.length = zs.size := by rw [hns, List.length_map, Array.length_toList]
  have h0 : 0 < ns.length := List.length_pos_iff.mpr hn
  have pi := pl.isList
  rw [e] at pi
  refine max_intList (I.ok.hd hc) pi (by omega) fun v h' tk hv hk => ?_
  obtain ⟨t, rfl⟩ := intItems_at hv
  obtain ⟨h1, h2⟩ := argBest_gt (numAt zs) (zs.size - 1)
  refine ⟨.int _, H, I.kept hk, ⟨t, rfl⟩, q _ ?_ fun a ha => ?_⟩
  · rw [numAt_eq, ← hns]
    exact getD_mem (by omega)
  · obtain ⟨j, hj, rfl⟩ := mem_getD ha
    have := h2 j (by omega)
    rw [numAt_eq, numAt_eq, ← hns] at this
    rw [numAt_eq, ← hns]
    exact this
end
end L2

set_option Elab.async false
set_option linter.all false
set_option maxRecDepth 100000
set_option maxHeartbeats 4000000
namespace L2
open PySem PyProof.Rows PySem.Spec
theorem compFR {J : It} {vs : List V} {tc : TT} {te : TE} {σ : St} {H : Hp} {Q : VK} (p : V → Bool) (S : V → HO → Prop) (rd : Reads J H vs) (hn : vs.length ≤ sizeLine)
    (ht : ∀ x H', x ∈ vs → Same H H' → ∀ N : Bool → Hp → Prop, (∀ H'', Same H' H'' → N (p x) H'') → tc (some x :: σ) H' N)
    (he : ∀ x H', x ∈ vs → p x = true → Same H H' → ∀ N : V → Hp → Prop, (∀ c o H'', Same H' H'' → H' c = none → H'' c = some o → S x o → N (.ref c) H'') → te (some x :: σ) H' N)
    (hq : ∀ D bs H', H D = none → Same H H' → H' D = some (.lst (bs.map V.ref)) → Dt.R2 (fun v b => b ≠ D ∧ H b = none ∧ ∃ o, H' b = some o ∧ S v o) (vs.filter p) bs → Q (.ref D) H') : compAtF tc te σ Q J H := by
  intro D hD
  refine ⟨fun i m ys H2 => m = vs.length - i ∧ i ≤ vs.length ∧ Same H H2 ∧ H2 D = some (.lst ys) ∧ ∃ bs : List Addr, ys = bs.map V.ref ∧ Dt.R2 (fun v b => b ≠ D ∧ H b = none ∧ ∃ o, H2 b = some o ∧ S v o) ((vs.take i).filter p) bs, ⟨vs.length, rfl, Nat.zero_le _, fun b o e => ?_, upd_same, [], rfl, .nil⟩, ?_⟩
  · rw [upd_ne (ne_of_none e hD)]
    exact e
  · rintro i m ys H2 ⟨rfl, hi, hs, hd, bs, rfl, hb⟩
    by_cases hlt : i < vs.length
    · have hx : vs[i]? = some vs[i] := List.getElem?_eq_getElem hlt
      have hbl : bs.length ≤ i := by have := hb.len; have := filter_take_len p vs i; omega
      refine .inr ⟨rd.go i H2 hs hlt, by rw [List.length_map]; omega, fun v H' => p vs[i] = true ∧ Same H2 H' ∧ ∃ c o, v = .ref c ∧ c ≠ D ∧ H c = none ∧ H' c = some o ∧ S vs[i] o, fun v H' ⟨hp, hs', c, o, ev, hcD, hcn, hc, ho⟩ => ⟨hs' D _ hd, vs.length - (i + 1), by omega, rfl, hlt, fun b o e => ?kp, upd_same, bs ++ [c], ?app, ?la⟩,
        fun H' => p vs[i] = false ∧ Same H2 H', fun H' ⟨hp, hs'⟩ => ⟨vs.length - (i + 1), by omega, rfl, hlt, fun b o e => hs' b o (hs b o e), hs' D _ hd, bs, rfl, ?skp⟩, fun y H' hy => ?stp⟩
      case app =>
        rw [ev, List.map_append]
        rfl
      case kp =>
        rw [upd_ne (ne_of_none e hD)]
        exact hs' b o (hs b o e)
      case la =>
        rw [take_filter p vs i _ hx, hp]
        refine Dt.R2.snoc (hb.mono fun v b _ ⟨h1, h0, o2, h2, h3⟩ => ⟨h1, h0, o2, by rw [upd_ne h1]; exact hs' b _ h2, h3⟩) ⟨hcD, hcn, o, by rw [upd_ne hcD]; exact hc, ho⟩
      case skp =>
        rw [take_filter p vs i _ hx, hp]
        rw [show (if false = true then [vs[i]] else []) = [] from rfl, List.append_nil]
        exact hb.mono fun v b _ ⟨h1, h0, o2, h2, h3⟩ => ⟨h1, h0, o2, hs' b _ h2, h3⟩
      case stp =>
        obtain ⟨rfl, e2⟩ := rd.yl i H2 y H' hs hy
        have e4 : y = vs[i] := by rw [hx] at e2; exact (Option.some.inj e2).symm
        subst e4
        refine ht _ _ (List.getElem_mem hlt) hs _ fun H'' h'' => ?_
        by_cases hp : p vs[i] = true
        · rw [if_pos hp]
          refine he _ _ (List.getElem_mem hlt) hp (hs.trans h'') _ fun c o H3 h3 hc1 hc2 ho => ⟨hp, h''.trans h3, c, o, rfl, fun z => ?_, ?_, hc2, ho⟩
          · rw [z, h'' D _ hd] at hc1; cases hc1
          · cases e : H c with
            | none => rfl
            | some o => rw [h'' c o (hs c o e)] at hc1; cases hc1
        · rw [if_neg hp]
          exact ⟨by simpa using hp, h''⟩
    · have e : i = vs.length := by omega
      subst e
      rw [List.take_length] at hb
      exact .inl ⟨rd.st H2 hs, hq D bs H2 hD hs hd hb⟩
theorem compFO {J : It} {vs : List V} {tc : TT} {te : TE} {σ : St} {H : Hp} {Q : VK} (p : V → Bool) (ob : V → HO) (rd : Reads J H vs) (hn : vs.length ≤ sizeLine)
    (ht : ∀ x H', x ∈ vs → Same H H' → ∀ N : Bool → Hp → Prop, (∀ H'', Same H' H'' → N (p x) H'') → tc (some x :: σ) H' N)
    (he : ∀ x H', x ∈ vs → p x = true → Same H H' → ∀ N : V → Hp → Prop, (∀ c H'', Same H' H'' → H' c = none → H'' c = some (ob x) → N (.ref c) H'') → te (some x :: σ) H' N)
    (hq : ∀ D bs H', H D = none → Same H H' → H' D = some (.lst (bs.map V.ref)) → Dt.R2 (fun v b => b ≠ D ∧ H b = none ∧ H' b = some (ob v)) (vs.filter p) bs → Q (.ref D) H') : compAtF tc te σ Q J H :=
  compFR p (fun v o => o = ob v) rd hn ht (fun x H' hx hp s N hN => he x H' hx hp s N fun c H2 s2 h1 h2 => hN c _ H2 s2 h1 h2 rfl) fun D bs H' h1 h2 h3 h4 => hq D bs H' h1 h2 h3 (h4.mono fun v b _ ⟨a, b, o, c, d⟩ => ⟨a, b, d ▸ c⟩)
theorem compRl {J : It} {vs : List V} {te : TE} {σ : St} {H : Hp} {Q : VK} (S : V → HO → Prop) (rd : Reads J H vs) (hn : vs.length ≤ sizeLine)
    (he : ∀ x H', x ∈ vs → Same H H' → ∀ N : V → Hp → Prop, (∀ c o H'', Same H' H'' → H' c = none → H'' c = some o → S x o → N (.ref c) H'') → te (some x :: σ) H' N)
    (hq : ∀ D bs H', H D = none → Same H H' → H' D = some (.lst (bs.map V.ref)) → Dt.R2 (fun v b => b ≠ D ∧ H b = none ∧ ∃ o, H' b = some o ∧ S v o) vs bs → Q (.ref D) H') : compAt te σ Q J H := by
  refine compAtF.un (compFR (fun _ => true) S rd hn (fun x H' _ s N hN => hN H' (Same.refl _)) (fun x H' hx _ s N hN => he x H' hx s N hN) fun D bs H' h1 h2 h3 h4 => ?_)
  rw [List.filter_eq_self.mpr fun _ _ => rfl] at h4
  exact hq D bs H' h1 h2 h3 h4
section
variable {X : Cx} (K : PySem.W.Frag) (hK : X.K = K)
include hK
theorem op_in_tabK : OpR X (compareOp .In) (fun x y H Q => ∃ (t : List Nat) (a : Addr) (D : TabD), x = T t ∧ y = .ref a ∧ tabIs K a D = true ∧ Q (.bl (tabAt t D).isSome) H) := by
  subst hK
  exact op_in_tab
theorem call_anyK (hc : X.calm = true) : CallR X (.builtin "any") (fun xs H Q => ∃ (p : Addr) (bs : List Bool), xs = [.ref p] ∧ SqL K H p (bs.map V.bl) ∧ Q (.bl (bs.any id)) H) := by
  subst hK
  exact call_anyB hc
theorem call_tupleK : CallR X (.type "tuple") (fun xs H Q => ∃ (p : Addr) (ys : List V), xs = [.ref p] ∧ SqL K H p ys ∧ ∀ l, H l = none → Q (.ref l) (upd H l (.tup ys))) := by
  subst hK
  intro pins s σ H xs us Q I r h
  obtain ⟨p, ys, e, hq, q⟩ := h
  exact call_tuple_of pins s σ H xs us Q I r ⟨p, ys, e, .inl ⟨hq, q⟩⟩
end
end L2

set_option Elab.async false
set_option linter.all false
set_option maxRecDepth 100000
set_option maxHeartbeats 4000000
namespace L2
open PySem PyProof.Rows PySem.Spec
section
variable {X : Cx} (K : PySem.W.Frag) (hK : X.K = K)
include hK
theorem mt_joinSK : MtR X "str.join" (fun x xs H Q => ∃ (g : List Nat) (p : Addr) (ls : List (List Nat)), x = T g ∧ xs = [.ref p] ∧ SqL K H p (ls.map T) ∧ ls.flatten.length + ls.length * g.length ≤ sizeLine ∧ Q (T (jnS g ls)) H) := by
  subst hK
  exact mt_joinS
theorem mt_joinTK : MtR X "str.join" (fun x xs H Q => ∃ (g : List Nat) (p : Addr) (ls : List (List Nat)), x = T g ∧ xs = [.ref p] ∧ SqT K H p (ls.map T) ∧ ls.flatten.length + ls.length * g.length ≤ sizeLine ∧ Q (T (jnS g ls)) H) := by
  subst hK
  intro pins s σ H x xs v us Q I rx rs h
  obtain ⟨g, p, ls, rfl, rfl, hq, hz, q⟩ := h
  obtain ⟨t, rfl⟩ := rx
  obtain ⟨u, rfl, ru⟩ := vals1 rs
  cases ru
  obtain ⟨its, r, pl, _⟩ := I.tuple hq
  have hs : sizeLine = 16777216 := sizeLine_eq
  refine join_tuple pl (ys := ls.map tx) (by simpa using strsAre_T r) ?_ fun t' k => ⟨T (jnS g ls), H, I.tok _, ⟨t', by rw [joinS_tx]⟩, q⟩
  rw [sum_len_tx, tx_len, List.length_map]
  omega
end
end L2

set_option Elab.async false
set_option linter.all false
set_option maxRecDepth 100000
set_option maxHeartbeats 4000000
namespace L2
open PySem PyProof.Rows PySem.Spec
theorem dg_nat (m : Nat) : dgI (m : Nat) = (Nat.toDigits 10 m).map Char.toNat := PySem.W.KIN.signs_num m
theorem dg_tx (a : Int) : tx (dgI a) = Str.ofString (toString a) := by rw [dgI, tx_eta]
theorem dg_read {n : Int} (h0 : 0 ≤ n) (h1 : n < 10 ^ 10) : PySem.intText? (tx (dgI n)) = some n := by
  rw [dg_tx]
  exact PySem.W.KIN.num_reads h0 h1
theorem dg_step {m : Nat} (h : ¬ m < 10) : Nat.toDigits 10 m = Nat.toDigits 10 (m / 10) ++ [Nat.digitChar (m % 10)] := by
  have hm : m % 10 < 10 := Nat.mod_lt m (by decide)
  have t := Nat.toDigits_append_toDigits (b := 10) (n := m / 10) (d := m % 10) (by decide) (by omega) hm
  rw [Nat.div_add_mod, Nat.toDigits_of_lt_base hm] at t
  exact t.symm
theorem dg_len {k : Nat} : ∀ {m : Nat}, m < 10 ^ (k + 1) → (dgI (m : Nat)).length ≤ k + 1 := by
  induction k with
  | zero =>
    intro m h
    rw [dg_nat, Nat.toDigits_of_lt_base (by simpa using h)]
    exact Nat.le_refl 1
  | succ k ih =>
    intro m h
    by_cases h1 : m < 10
    · rw [dg_nat, Nat.toDigits_of_lt_base h1]
      exact Nat.succ_le_succ (Nat.zero_le _)
    · rw [dg_nat, dg_step h1, List.map_append, List.length_append, ← dg_nat]
      have : m / 10 < 10 ^ (k + 1) := by
        rw [Nat.pow_succ] at h
        exact Nat.div_lt_of_lt_mul (by rw [Nat.mul_comm]; exact h)
      exact Nat.succ_le_succ (ih this)
theorem dgc : ∀ d : Nat, d < 10 → (Nat.digitChar d).toNat = 48 + d := by decide
theorem dg_all (m : Nat) : ∀ c ∈ dgI (m : Nat), 48 ≤ c ∧ c ≤ 57 := by
  induction m using Nat.strongRecOn with
  | _ m ih =>
    intro c hc
    by_cases h : m < 10
    · rw [dg_nat, Nat.toDigits_of_lt_base h] at hc
      obtain rfl := List.mem_singleton.mp hc
      rw [dgc m h]
      omega
    · rw [dg_nat, dg_step h, List.map_append, ← dg_nat] at hc
      rcases List.mem_append.mp hc with hc | hc
      · exact ih (m / 10) (by omega) c hc
      · obtain rfl := List.mem_singleton.mp hc
        rw [dgc _ (Nat.mod_lt m (by decide))]
        omega
theorem dg_ne (m : Nat) : dgI (m : Nat) ≠ [] := by
  rw [dg_nat]
  by_cases h : m < 10
  · rw [Nat.toDigits_of_lt_base h]
    exact fun z => by cases z
  · rw [dg_step h, List.map_append]
    exact fun z => by cases (List.append_eq_nil_iff.mp z).2
theorem dg_head (m : Nat) : 1 ≤ m → (dgI (m : Nat)).take 1 ≠ [48] := by
  induction m using Nat.strongRecOn with
  | _ m ih =>
    intro h1
    by_cases h : m < 10
    · rw [dg_nat, Nat.toDigits_of_lt_base h]
      show [(Nat.digitChar m).toNat] ≠ [48]
      rw [dgc m h]
      exact fun z => by have := (List.cons.inj z).1; omega
    · rw [dg_nat, dg_step h, List.map_append, ← dg_nat, List.take_append_of_le_length (List.length_pos_iff.mpr (dg_ne _))]
      exact ih (m / 10) (by omega) (by omega)
theorem spl_no {c : Nat} : ∀ {a : List Nat}, c ∉ a → spl c a = [a]
  | [], _ => rfl
  | x :: a, h => by
    have h1 : ¬ x = c := fun z => h (by rw [z]; exact List.mem_cons_self ..)
    show (if x = c then [] :: spl c a else match spl c a with | h :: r => (x :: h) :: r | [] => [[x]]) = _
    rw [if_neg h1, spl_no fun z => h (List.mem_cons_of_mem _ z)]
theorem spl_app {c : Nat} (t : List Nat) : ∀ {a : List Nat}, c ∉ a → spl c (a ++ c :: t) = a :: spl c t
  | [], _ => by
    show (if c = c then [] :: spl c t else _) = _
    rw [if_pos rfl]
  | x :: a, h => by
    have h1 : ¬ x = c := fun z => h (by rw [z]; exact List.mem_cons_self ..)
    show (if x = c then [] :: spl c (a ++ c :: t) else match spl c (a ++ c :: t) with | h :: r => (x :: h) :: r | [] => [[x]]) = _
    rw [if_neg h1, spl_app t fun z => h (List.mem_cons_of_mem _ z)]
theorem spl_jn {c : Nat} : ∀ {ls : List (List Nat)}, ls ≠ [] → (∀ l ∈ ls, c ∉ l) → spl c (jnS [c] ls) = ls
  | [], h, _ => absurd rfl h
  | [l], _, h => spl_no (h l (List.mem_cons_self ..))
  | l :: m :: r, _, h => by
    show spl c (l ++ [c] ++ jnS [c] (m :: r)) = _
    rw [List.append_assoc]
    show spl c (l ++ c :: jnS [c] (m :: r)) = _
    rw [spl_app _ (h l (List.mem_cons_self ..)), spl_jn (fun z => by cases z) fun x hx => h x (List.mem_cons_of_mem _ hx)]
theorem jn_mem {g : List Nat} {c : Nat} : ∀ {ls : List (List Nat)}, c ∈ jnS g ls → c ∈ g ∨ ∃ l ∈ ls, c ∈ l
  | [], h => by cases h
  | [l], h => .inr ⟨l, List.mem_cons_self .., h⟩
  | l :: m :: r, h => by
    rcases List.mem_append.mp (show c ∈ l ++ g ++ jnS g (m :: r) from h) with h | h
    · rcases List.mem_append.mp h with h | h
      · exact .inr ⟨l, List.mem_cons_self .., h⟩
      · exact .inl h
    · rcases jn_mem h with h | ⟨x, hx, h⟩
      · exact .inl h
      · exact .inr ⟨x, List.mem_cons_of_mem _ hx, h⟩
theorem rows_jn {rs : List (List (List Nat))} (h0 : rs ≠ []) (h1 : ∀ r ∈ rs, r ≠ [] ∧ ∀ x ∈ r, 10 ∉ x ∧ 32 ∉ x) : (spl 10 (jnS [10] (rs.map (jnS [32])))).map (spl 32) = rs := by
  rw [spl_jn (fun z => h0 (List.map_eq_nil_iff.mp z)) fun l hl => ?_, List.map_map]
  · refine (List.map_congr_left fun r hr => ?_).trans (List.map_id _)
    exact spl_jn (h1 r hr).1 fun x hx => ((h1 r hr).2 x hx).2
  · obtain ⟨r, hr, rfl⟩ := List.mem_map.mp hl
    intro z
    rcases jn_mem z with z | ⟨x, hx, z⟩
    · simp at z
    · exact ((h1 r hr).2 x hx).1 z
end L2

set_option Elab.async false
set_option linter.all false
set_option maxRecDepth 100000
set_option maxHeartbeats 4000000
namespace L2
open PySem PyProof.Rows PySem.Spec
section
variable {X : Cx}
theorem txt_at2 {ns : List (List Nat)} {its its2 : List Value} {A : Around} {s : Shared} (r : Vals (ns.map T) its) (r2 : Vals (ns.map T) its2) (m : Nat) (g1 : m < its.toArray.size) (g2 : m < its2.toArray.size) : SeqAt.EqAt A s its.toArray[m] its2.toArray[m] true := by
  have l1 := r.length
  rw [List.length_map] at l1
  have hm : m < ns.length := by rw [List.size_toArray] at g1; omega
  obtain ⟨u', e1, q1⟩ := r.get (i := m) (x := T ns[m]) (by rw [List.getElem?_map, List.getElem?_eq_getElem hm]; rfl)
  obtain ⟨w', e2, q2⟩ := r2.get (i := m) (x := T ns[m]) (by rw [List.getElem?_map, List.getElem?_eq_getElem hm]; rfl)
  have e := eqAt_V (A := A) (s := s) q1 q2 rfl rfl
  rw [show eqV (T ns[m]) (T ns[m]) = true from by show (tx ns[m] == tx ns[m]) = true; simp] at e
  have a1 : its.toArray[m] = u' := by rw [List.getElem_toArray]; exact (List.getElem?_eq_some_iff.mp e1).2
  have a2 : its2.toArray[m] = w' := by rw [List.getElem_toArray]; exact (List.getElem?_eq_some_iff.mp e2).2
  rw [a1, a2]
  exact e
theorem op_ne_TT (hu : X.A.units < cLine) : OpR X (compareOp .NotEq) (fun x y H Q => ∃ (p b : Addr) (ns : List (List Nat)), x = .ref p ∧ y = .ref b ∧ SqT X.K H p (ns.map T) ∧ SqT X.K H b (ns.map T) ∧ Q (.bl false) H) := by
  intro pins s σ H x y v u Q I rx ry h
  obtain ⟨p, b, ns, rfl, rfl, h1, h2, q⟩ := h
  cases rx
  cases ry
  obtain ⟨its, r, pl, _⟩ := I.tuple h1
  obtain ⟨its2, r2, pl2, _⟩ := I.tuple h2
  refine SeqAt.RcNeAt.tuples (e := fun _ => true) pl pl2 hu (fun m g1 g2 => txt_at2 r r2 m g1 g2) _ _ _ _ ?_
  rw [sz_all (r.length.symm.trans r2.length)]
  exact ⟨.bl false, H, I, rfl, q⟩
theorem eqX_tuples {pins : List (Addr × Obj)} {σ : St} {H : Hp} {s : Shared} {A : Around} {D F : Addr} {ns : List (List Nat)} (I : Inv X pins σ H s) (hu : A.units < cLine) (h1 : SqT X.K H D (ns.map T)) (h2 : SqT X.K H F (ns.map T)) : SeqAt.EqAt A s (.ref D) (.ref F) true := by
  by_cases hne : D = F
  · subst hne
    exact SeqAt.EqAt.same _
  obtain ⟨its, r, pl, _⟩ := I.tuple h1
  obtain ⟨its2, r2, pl2, _⟩ := I.tuple h2
  have z := SeqAt.EqAt.of_refs hne (SeqAt.RcAt.tuples (A := A) (s := s) (e := fun _ => true) pl pl2 hu fun j g1 g2 => txt_at2 r r2 j g1 g2)
  rw [sz_all (r.length.symm.trans r2.length)] at z
  exact z
noncomputable def AlikeX (K : PySem.W.Frag) (H : Hp) (p b : Addr) : Prop := ∃ (ps bs : List Addr), SqL K H p (ps.map V.ref) ∧ SqL K H b (bs.map V.ref) ∧ ps.length = bs.length ∧ ∀ (i : Nat) (h1 : i < ps.length) (h2 : i < bs.length), ∃ ns : List (List Nat), SqT K H ps[i] (ns.map T) ∧ SqT K H bs[i] (ns.map T)
theorem AlikeX.at {pins : List (Addr × Obj)} {σ : St} {H : Hp} {s : Shared} {p b : Addr} (I : Inv X pins σ H s) (hu : X.A.units + 1 < cLine) (h : AlikeX X.K H p b) : ∃ its its2 : List Value, PlainL s.heap p its.toArray ∧ PlainL s.heap b its2.toArray ∧ its.toArray.size = its2.toArray.size ∧ ∀ j (h1 : j < its.toArray.size) (h2 : j < its2.toArray.size), SeqAt.EqAt X.A.in1 s its.toArray[j] its2.toArray[j] true := by
  obtain ⟨ps, bs, g1, g2, hl, hq⟩ := h
  obtain ⟨its, r, pl, _⟩ := I.list g1
  obtain ⟨its2, r2, pl2, _⟩ := I.list g2
  obtain rfl := vals_refs r
  obtain rfl := vals_refs r2
  refine ⟨_, _, pl, pl2, by rw [List.size_toArray, List.size_toArray, List.length_map, List.length_map]; exact hl, fun j h1 h2 => ?_⟩
  rw [List.size_toArray, List.length_map] at h1 h2
  obtain ⟨ns, e1, e2⟩ := hq j h1 h2
  rw [List.getElem_toArray, List.getElem_toArray, List.getElem_map, List.getElem_map]
  exact eqX_tuples I hu e1 e2
theorem op_ne_LTT (hu : X.A.units + 1 < cLine) : OpR X (compareOp .NotEq) (fun x y H Q => ∃ p b : Addr, x = .ref p ∧ y = .ref b ∧ AlikeX X.K H p b ∧ Q (.bl false) H) := by
  intro pins s σ H x y v u Q I rx ry h
  obtain ⟨p, b, rfl, rfl, h1, q⟩ := h
  cases rx
  cases ry
  obtain ⟨its, its2, pl, pl2, hz, he⟩ := h1.at I hu
  refine SeqAt.RcNeAt.lists (e := fun _ => true) pl.isList pl2.isList hz (Nat.lt_of_succ_lt hu) he _ _ _ _ ?_
  rw [show (List.range its.toArray.size).all (fun _ => true) = true by simp]
  exact ⟨.bl false, H, I, rfl, q⟩
theorem op_eq_LTT (hu : X.A.units + 1 < cLine) : OpR X (compareOp .Eq) (fun x y H Q => ∃ p b : Addr, x = .ref p ∧ y = .ref b ∧ AlikeX X.K H p b ∧ Q (.bl true) H) := by
  intro pins s σ H x y v u Q I rx ry h
  obtain ⟨p, b, rfl, rfl, h1, q⟩ := h
  cases rx
  cases ry
  obtain ⟨its, its2, pl, pl2, hz, he⟩ := h1.at I hu
  refine SeqAt.eq_listAt (e := fun _ => true) pl.isList pl2.isList hz (Nat.lt_of_succ_lt hu) he ?_
  rw [show (List.range its.toArray.size).all (fun _ => true) = true by simp]
  exact ⟨.bl true, H, I, rfl, q⟩
end
end L2

set_option Elab.async false
set_option linter.all false
set_option maxRecDepth 100000
set_option maxHeartbeats 4000000
namespace L2
open PySem PyProof.Rows PySem.Spec
namespace SE
open PySem
section
variable {prog : Program} {w : World} {A : Around} {E : Value → Shared → Prop} {s : Shared}
theorem call_ofS {l : List Nat} {t : Tok} {Q : Value → Shared → Prop} (hh : A.handled = none) (ha : (tx l).cps.all (· < 128) = true) (hn : l.length + 1 < scanBound)
    (h : ∀ (h' : Heap) (tk : Nat), Has prog w h' s.heap.objs.size (nubTo (l.map fun c => [c]) l.length) → (∀ b o, s.heap.get? b = some o → h'.get? b = some o) → Q (.ref s.heap.objs.size) { s with heap := h', toks := tk }) :
    wpAny (model prog w) A (call (.type "set") [.str (tx l) t]) Q E s := by
  obtain ⟨mc, mt, f0⟩ := F.called_set.mro
  have f1 := F.called_set.made; have f2 := F.called_set.sub; have f3 := F.called_set.notType; have f4 := F.called_set.canCreate; have f5 := F.typeCall_set_1 (.str (tx l) t)
  refine wpAny_call (codeAny_of_tree (show wpAny _ _ (callAny (.type "set") _) _ _ _ from wpAny_pure ⟨Code.quiet_builtin _ (by decide +kernel), codeAny_builtin F.entry_type_call ?_⟩))
  rw [Around.under_plain (weight_type_call_type "set" [.str (tx l) t] []) rfl]
  repeat (any_goals (first | wp_step | assumption))
  refine codeAny_mono (code_set_new_1 (.str (tx l) t) (E := E) (Q₁ := fun ob s1 => ∃ b : Bool, ob = .ref s.heap.objs.size ∧ s1 = { s with heap := s.heap.push { cls := .type "set", dict := none, data := .set #[] 0 (.fresh 0 0 b) } }) fun b => ⟨b, rfl, rfl⟩) fun r s1 hr => ?_
  cases r with
  | error e => exact hr
  | ok fl =>
    cases fl with
    | ret ob =>
      obtain ⟨b, rfl, rfl⟩ := hr
      generalize hob : ({ cls := .type "set", dict := none, data := .set #[] 0 (.fresh 0 0 b) } : Obj) = ob
      have hD : (s.heap.push ob).get? s.heap.objs.size = some ob := Heap.get?_push_size _ (by rw [← hob]; rfl)
      have hT : Shared.TypeIs { s with heap := s.heap.push ob } (.ref s.heap.objs.size) "set" := ⟨_, hD, by rw [← hob]⟩
      have f6 := F.called_set.init.lookup; have f7 := F.called_set.init.bind (.ref s.heap.objs.size)
      repeat (any_goals (first | wp_step | assumption))
      refine codeAny_mono (codeAny_call_builtin (R := wants (fun r s2 => r = .none ∧ ∃ h' tk, s2 = { s with heap := h', toks := tk } ∧ Has prog w h' s.heap.objs.size (nubTo (l.map fun c => [c]) l.length) ∧ ∀ b o, s.heap.get? b = some o → h'.get? b = some o) E)
        F.called_set.init.plain F.entry_set_init (check_set_init_1 hT ?_)) fun r2 s2 hr2 => ?_
      · have f8 := F.sub_str_set
        have f9 := F.sub_str_frozenset
        subst hob
        unfold Builtin.«set.__init__» noKeywords Builtin.Frozenset.updateFrom
        generalize hPI : pyIter = PI
        wp_walk
        subst hPI
        refine wpAny_pyIter_ascii ha ?_
        refine wpAny_bind (wpAny_runValue ?_)
        have hh3 : A.in1.in1.in1.handled = none := by simp [hh]
        have hsz : (s.heap.push { cls := .type "set", dict := none, data := .set #[] 0 (.fresh 0 0 b) }).objs.size = s.heap.objs.size + 1 := Heap.size_push _ _
        have hfp : s.heap.objs.size ∉ [(s.heap.push { cls := .type "set", dict := none, data := .set #[] 0 (.fresh 0 0 b) }).objs.size] := by
          rw [hsz]
          intro z
          exact Nat.ne_of_lt (Nat.lt_succ_self _) (List.mem_singleton.mp z)
        have hsz2 : (tx l).cps.size = l.length := by simp [tx]
        refine loop ((Walks.strAscii hh3 _ (tx l) t).toS) (D := s.heap.objs.size) hfp (l.map fun c => [c]) (fun i v hv => ?hv) (by rw [hsz2]; exact hn) ((tx l).cps.size - 0) 0 _ (by omega) (Nat.zero_le _) ⟨_, Heap.get?_push_size _ rfl, rfl, rfl⟩ ?_ fun s3 mv x3 => ?_
        · obtain ⟨c, u, hc, rfl⟩ := hv
          refine ⟨u, ?_⟩
          have hi := (Array.getElem?_eq_some_iff.mp hc).1
          rw [hsz2] at hi
          have e : (tx l).cps[i]? = l[i]? := by simp [tx]
          rw [e, List.getElem?_eq_getElem hi] at hc
          rw [List.getD_eq_getElem?_getD, List.getElem?_map, List.getElem?_eq_getElem hi]
          obtain rfl := Option.some.inj hc
          rfl
        · have hg : ((s.heap.push { cls := .type "set", dict := none, data := .set #[] 0 (.fresh 0 0 b) }).push { cls := .type "str_ascii_iterator", data := .fields #[.str (tx l) t, .int 0 0] }).get? s.heap.objs.size = some { cls := .type "set", dict := none, data := .set #[] 0 (.fresh 0 0 b) } := Heap.get?_push_of_some _ hD
          exact PyProof.Rows.SetOf_congr ((PyProof.Rows.setObjOf_fresh (knd := PySem.strKind prog w) b).setOf hg (by unfold scanBound; omega)) (fun _ => rfl) rfl
        · obtain ⟨h3, g3, d3, tk3, os3⟩ := s3
          obtain rfl : g3 = s.gens := mv.gens
          obtain rfl : d3 = s.drawn := mv.drawn
          obtain rfl : os3 = s.os := mv.os
          rw [hsz2] at x3
          refine wpAny_pure (show wpAny _ _ (ret Value.none) _ _ _ from wpAny_pure ⟨rfl, h3, tk3, rfl, x3, fun c o e => ?_⟩)
          have hc := Heap.lt_size e
          exact mv.heap c o (show c ∉ [s.heap.objs.size, (s.heap.push { cls := .type "set", dict := none, data := .set #[] 0 (.fresh 0 0 b) }).objs.size] by
            rw [hsz]
            intro z
            rcases List.mem_cons.mp z with e | e
            · exact Nat.ne_of_lt hc e
            · exact Nat.ne_of_lt (Nat.lt_succ_of_lt hc) (List.mem_singleton.mp e)) (Heap.get?_push_of_some _ (Heap.get?_push_of_some _ e))
      · cases r2 with
        | error e => exact hr2
        | ok fl2 =>
          cases fl2 with
          | ret r =>
            obtain ⟨rfl, h3, tk, rfl, x3, k3⟩ := hr2
            repeat (any_goals (first | wp_step | assumption))
            exact h _ _ x3 k3
          | _ => exact hr2.elim
    | _ => exact hr.elim
end
end SE
section
variable {X : Cx}
theorem call_setC (hc : X.calm = true) : CallR X (.type "set") (fun xs H Q => ∃ l : List Nat, xs = [T l] ∧ (∀ c ∈ l, c < 128) ∧ l.length + 1 < 4096 ∧ ∀ D, H D = none → Q (.ref D) (upd H D (SetT X.prog X.w D (uniq (l.map fun c => [c]))))) := by
  intro pins s σ H xs us Q I r h
  obtain ⟨l, rfl, hl, hz, q⟩ := h
  obtain ⟨u, rfl, ru⟩ := vals1 r
  obtain ⟨t, rfl⟩ := ru
  refine SE.call_ofS (I.ok.hd hc) (by simpa [tx] using hl) (by unfold scanBound; omega) fun h' tk x k => ?_
  have e : nubTo (l.map fun c => [c]) l.length = uniq (l.map fun c => [c]) := by unfold uniq; rw [List.length_map]
  rw [e] at x
  have hf : H s.heap.objs.size = none := I.hok.fresh (Nat.le_refl _)
  refine ⟨.ref s.heap.objs.size, _, I.laid (t' := tk) k (Nat.le_refl _) (o := SetT X.prog X.w s.heap.objs.size (uniq (l.map fun c => [c]))) ?_, rfl, q _ hf⟩
  refine ⟨x, ?_, fun h1 h2 x1 kk => x1.at kk⟩
  obtain ⟨o, _, _, _, ho, _⟩ := x
  exact ⟨o, ho⟩
end
end L2

set_option Elab.async false
set_option linter.all false
set_option maxRecDepth 100000
set_option maxHeartbeats 4000000
namespace K77
open PySem L2
seal L2.PSs L2.PS L2.PE L2.PA L2.PT L2.PW L2.PI L2.PG L2.PGs L2.PO L2.PTy L2.PH L2.OpR L2.CallR L2.IxR L2.SlR L2.UnR L2.PSet

noncomputable def madeOf (s : List Nat) (m : Nat) (w : List Nat) : Bool := decide (0 < w.length) && (decide (w.length ≤ m) && w.all fun c => decide (c ∈ s))
noncomputable def figs : List Nat := [48, 49, 50, 51, 52, 53, 54, 55, 56, 57]
noncomputable def lets : List Nat := [97, 98, 99, 100, 101, 102]
noncomputable def isNum (w : List Nat) : Bool := madeOf figs 60 w && (decide (w = [48]) || decide (w.take 1 ≠ [48]))
noncomputable def isTxt (w : List Nat) : Bool := madeOf lets 200 w
noncomputable def formOf (w : List Nat) : List Nat := if isNum w = true then [110] else if isTxt w = true then [116] else [45]
noncomputable def rowForm (r : List (List Nat)) : List Nat := ((r.drop 1).map formOf).flatten
noncomputable def asksD : TabD := [([114, 105, 110, 103], [[], [110]]), ([114, 111, 119], [[], [110]]), ([114, 105, 110, 103, 115], [[]]), ([114, 111, 119, 115], [[]]), ([110, 117, 109, 98, 101, 114], [[116]]), ([108, 101, 97, 100], [[116, 116]]), ([112, 105, 101, 99, 101], [[116, 110, 110, 110]]), ([112, 108, 97, 99, 101], [[116, 110, 116]])]
noncomputable def aheadD : TabD := [([97, 108, 108], [[116, 111, 112]]), ([119, 111, 114, 100, 115], [[116, 111, 112], [119, 111, 114, 100, 115]]), ([98, 97, 114], [[97, 108, 108], [119, 111, 114, 100, 115], [98, 97, 114]]), ([97, 115, 107], [[97, 108, 108], [119, 111, 114, 100, 115], [98, 97, 114], [97, 115, 107]])]
noncomputable def isAsk (r : List (List Nat)) : Bool := match tabAt (r.headD []) asksD with
  | some d => decide (rowForm r ∈ d)
  | none => false
noncomputable def kindOf (r : List (List Nat)) : Option (List Nat) :=
  if isAsk r = true then some [97, 115, 107]
  else if r.headD [] = [97, 108, 108] ∧ rowForm r = [110, 110] then some [97, 108, 108]
  else if r.headD [] = [98, 97, 114] ∧ rowForm r = [116] then some [98, 97, 114]
  else if r.headD [] = [119, 111, 114, 100, 115] ∧ rowForm r ≠ [] ∧ rowForm r = Wd.rep (rowForm r).length [116] then some [119, 111, 114, 100, 115]
  else none

noncomputable def top (i : Nat) : Stmt := PySem.Challenge.pw_onceround_k77_pages_read.main.body.getD i (.Pass ⟨0, 0, 0, 0⟩)
noncomputable abbrev s_looked_kinds : Stmt := top 10
noncomputable abbrev s_looked_length : Stmt := top 11
noncomputable abbrev s_letters : Stmt := top 12
noncomputable abbrev s_looked : Stmt := top 13
noncomputable abbrev s_word_total : Stmt := top 14
noncomputable abbrev s_spelled : Stmt := top 15
noncomputable abbrev s_all_words : Stmt := top 16
noncomputable abbrev s_looked_web : Stmt := top 20
noncomputable abbrev s_Web_init : Stmt := inClass (top 21) 0
noncomputable abbrev s_looked_size : Stmt := top 25
noncomputable abbrev s_is_made_of : Stmt := top 32
noncomputable abbrev s_is_number : Stmt := top 33
noncomputable abbrev s_is_text : Stmt := top 34
noncomputable abbrev s_form_of : Stmt := top 35
noncomputable abbrev s_kind_of : Stmt := top 36
noncomputable abbrev s_looked_rows : Stmt := top 37
noncomputable abbrev s_told_words : Stmt := top 38
noncomputable abbrev s_read_page : Stmt := top 39
noncomputable abbrev s_page_text : Stmt := top 40
noncomputable abbrev s__law_stir : Stmt := top 43
noncomputable abbrev s__law_folded : Stmt := top 44
noncomputable abbrev s__law_words : Stmt := top 45
noncomputable abbrev s__law_size : Stmt := top 49
noncomputable abbrev s__law_ask : Stmt := top 50
noncomputable abbrev s__law_page : Stmt := top 51
noncomputable abbrev s__law_barred : Stmt := top 52
noncomputable abbrev s_law : Stmt := top 53
theorem sc_looked_kinds : FnScope ["kinds"] ["kinds"] (defScope s_looked_kinds) := ⟨rfl, rfl, rfl, by decide +kernel, rfl, by decide +kernel, by decide +kernel⟩
theorem sc_looked_length : FnScope ["length", "kinds"] ["length", "kinds"] (defScope s_looked_length) := ⟨rfl, rfl, rfl, by decide +kernel, rfl, by decide +kernel, by decide +kernel⟩
theorem sc_letters : FnScope ["kinds"] ["kinds"] (defScope s_letters) := ⟨rfl, rfl, rfl, by decide +kernel, rfl, by decide +kernel, by decide +kernel⟩
theorem sc_looked : FnScope ["word", "kinds", "known", "sign"] ["word", "kinds"] (defScope s_looked) := ⟨rfl, rfl, rfl, by decide +kernel, rfl, by decide +kernel, by decide +kernel⟩
theorem sc_word_total : FnScope ["length", "kinds", "total", "step"] ["length", "kinds"] (defScope s_word_total) := ⟨rfl, rfl, rfl, by decide +kernel, rfl, by decide +kernel, by decide +kernel⟩
theorem sc_spelled : FnScope ["number", "length", "kinds", "backward", "rest", "step"] ["number", "length", "kinds"] (defScope s_spelled) := ⟨rfl, rfl, rfl, by decide +kernel, rfl, by decide +kernel, by decide +kernel⟩
theorem sc_all_words : FnScope ["length", "kinds", "total"] ["length", "kinds"] (defScope s_all_words) := ⟨rfl, rfl, rfl, by decide +kernel, rfl, by decide +kernel, by decide +kernel⟩
noncomputable def csc_all_words_0 : Scope := { kind := PySem.ScopeKind.function, names := [ (PySem.Str.ofString ".0", PySem.NameKind.local), (PySem.Str.ofString "number", PySem.NameKind.local), (PySem.Str.ofString "spelled", PySem.NameKind.globalImplicit), (PySem.Str.ofString "kinds", PySem.NameKind.free), (PySem.Str.ofString "length", PySem.NameKind.free)], isGenerator := false, isCoroutine := false, more := [] : PySem.Scope }
theorem cs_all_words_0 : CompSc ["length", "kinds", "total"] ["number", "length", "kinds", "total"] (defScope s_all_words) csc_all_words_0 "number" := ⟨rfl, by decide +kernel, by decide +kernel, rfl, by decide +kernel, rfl, rfl, by decide +kernel, rfl, by decide +kernel, by decide +kernel⟩
theorem sc_looked_web : FnScope ["words", "word"] ["words"] (defScope s_looked_web) := ⟨rfl, rfl, rfl, by decide +kernel, rfl, by decide +kernel, by decide +kernel⟩
theorem sc_Web_init : FnScope ["self", "words"] ["self", "words"] (defScope s_Web_init) := ⟨rfl, rfl, rfl, by decide +kernel, rfl, by decide +kernel, by decide +kernel⟩
theorem sc_looked_size : FnScope ["length", "kinds"] ["length", "kinds"] (defScope s_looked_size) := ⟨rfl, rfl, rfl, by decide +kernel, rfl, by decide +kernel, by decide +kernel⟩
theorem sc_is_made_of : FnScope ["word", "signs", "most"] ["word", "signs", "most"] (defScope s_is_made_of) := ⟨rfl, rfl, rfl, by decide +kernel, rfl, by decide +kernel, by decide +kernel⟩
noncomputable def csc_is_made_of_0 : Scope := { kind := PySem.ScopeKind.function, names := [ (PySem.Str.ofString ".0", PySem.NameKind.local), (PySem.Str.ofString "sign", PySem.NameKind.local), (PySem.Str.ofString "signs", PySem.NameKind.free)], isGenerator := false, isCoroutine := false, more := [] : PySem.Scope }
theorem cs_is_made_of_0 : CompSc ["word", "signs", "most"] ["sign", "word", "signs", "most"] (defScope s_is_made_of) csc_is_made_of_0 "sign" := ⟨rfl, by decide +kernel, by decide +kernel, rfl, by decide +kernel, rfl, rfl, by decide +kernel, rfl, by decide +kernel, by decide +kernel⟩
theorem sc_is_number : FnScope ["word"] ["word"] (defScope s_is_number) := ⟨rfl, rfl, rfl, by decide +kernel, rfl, by decide +kernel, by decide +kernel⟩
theorem sc_is_text : FnScope ["word"] ["word"] (defScope s_is_text) := ⟨rfl, rfl, rfl, by decide +kernel, rfl, by decide +kernel, by decide +kernel⟩
theorem sc_form_of : FnScope ["word"] ["word"] (defScope s_form_of) := ⟨rfl, rfl, rfl, by decide +kernel, rfl, by decide +kernel, by decide +kernel⟩
theorem sc_kind_of : FnScope ["row", "form"] ["row"] (defScope s_kind_of) := ⟨rfl, rfl, rfl, by decide +kernel, rfl, by decide +kernel, by decide +kernel⟩
noncomputable def csc_kind_of_0 : Scope := { kind := PySem.ScopeKind.function, names := [ (PySem.Str.ofString ".0", PySem.NameKind.local), (PySem.Str.ofString "word", PySem.NameKind.local), (PySem.Str.ofString "form_of", PySem.NameKind.globalImplicit)], isGenerator := false, isCoroutine := false, more := [] : PySem.Scope }
theorem cs_kind_of_0 : CompSc ["row", "form"] ["word", "row", "form"] (defScope s_kind_of) csc_kind_of_0 "word" := ⟨rfl, by decide +kernel, by decide +kernel, rfl, by decide +kernel, rfl, rfl, by decide +kernel, rfl, by decide +kernel, by decide +kernel⟩
theorem sc_looked_rows : FnScope ["rows", "ahead", "number", "row", "kind"] ["rows"] (defScope s_looked_rows) := ⟨rfl, rfl, rfl, by decide +kernel, rfl, by decide +kernel, by decide +kernel⟩
theorem sc_told_words : FnScope ["rows", "length", "kinds", "found", "row"] ["rows"] (defScope s_told_words) := ⟨rfl, rfl, rfl, by decide +kernel, rfl, by decide +kernel, by decide +kernel⟩
theorem sc_read_page : FnScope ["text", "rows", "bars", "kept"] ["text"] (defScope s_read_page) := ⟨rfl, rfl, rfl, by decide +kernel, rfl, by decide +kernel, by decide +kernel⟩
noncomputable def csc_read_page_0 : Scope := { kind := PySem.ScopeKind.function, names := [(PySem.Str.ofString ".0", PySem.NameKind.local), (PySem.Str.ofString "line", PySem.NameKind.local)], isGenerator := false, isCoroutine := false, more := [] : PySem.Scope }
theorem cs_read_page_0 : CompSc ["text", "rows", "bars", "kept"] ["line", "text", "rows", "bars", "kept"] (defScope s_read_page) csc_read_page_0 "line" := ⟨rfl, by decide +kernel, by decide +kernel, rfl, by decide +kernel, rfl, rfl, by decide +kernel, rfl, by decide +kernel, by decide +kernel⟩
noncomputable def csc_read_page_1 : Scope := { kind := PySem.ScopeKind.function, names := [(PySem.Str.ofString ".0", PySem.NameKind.local), (PySem.Str.ofString "row", PySem.NameKind.local)], isGenerator := false, isCoroutine := false, more := [] : PySem.Scope }
theorem cs_read_page_1 : CompSc ["text", "rows", "bars", "kept"] ["row", "text", "rows", "bars", "kept"] (defScope s_read_page) csc_read_page_1 "row" := ⟨rfl, by decide +kernel, by decide +kernel, rfl, by decide +kernel, rfl, rfl, by decide +kernel, rfl, by decide +kernel, by decide +kernel⟩
noncomputable def csc_read_page_2 : Scope := { kind := PySem.ScopeKind.function, names := [ (PySem.Str.ofString ".0", PySem.NameKind.local), (PySem.Str.ofString "word", PySem.NameKind.cell), (PySem.Str.ofString "any", PySem.NameKind.globalImplicit), (PySem.Str.ofString "bars", PySem.NameKind.free)], isGenerator := false, isCoroutine := false, more := [] : PySem.Scope }
theorem cs_read_page_2 : CompScC ["text", "rows", "bars", "kept"] ["word", "text", "rows", "bars", "kept"] (defScope s_read_page) csc_read_page_2 "word" := ⟨rfl, by decide +kernel, by decide +kernel, rfl, by decide +kernel, rfl, rfl, by decide +kernel, rfl, by decide +kernel, by decide +kernel⟩
noncomputable def csc_read_page_3 : Scope := { kind := PySem.ScopeKind.function, names := [ (PySem.Str.ofString ".0", PySem.NameKind.local), (PySem.Str.ofString "bar", PySem.NameKind.local), (PySem.Str.ofString "word", PySem.NameKind.free)], isGenerator := false, isCoroutine := false, more := [] : PySem.Scope }
theorem cs_read_page_3 {env : Env} : CompSc ["word", "text", "rows", "bars", "kept"] ["bar", "word", "text", "rows", "bars", "kept"] (relabel csc_read_page_2 env) csc_read_page_3 "bar" := ⟨rfl, by decide +kernel, by decide +kernel, rfl, relabel_ok (by decide +kernel) env, rfl, rfl, by decide +kernel, rfl, by decide +kernel, by decide +kernel⟩
noncomputable def csc_read_page_4 : Scope := { kind := PySem.ScopeKind.function, names := [ (PySem.Str.ofString ".0", PySem.NameKind.local), (PySem.Str.ofString "row", PySem.NameKind.local), (PySem.Str.ofString "ASKS", PySem.NameKind.globalImplicit), (PySem.Str.ofString "tuple", PySem.NameKind.globalImplicit)], isGenerator := false, isCoroutine := false, more := [] : PySem.Scope }
theorem cs_read_page_4 : CompSc ["text", "rows", "bars", "kept"] ["row", "text", "rows", "bars", "kept"] (defScope s_read_page) csc_read_page_4 "row" := ⟨rfl, by decide +kernel, by decide +kernel, rfl, by decide +kernel, rfl, rfl, by decide +kernel, rfl, by decide +kernel, by decide +kernel⟩
theorem sc_page_text : FnScope ["web", "asks", "rows"] ["web", "asks"] (defScope s_page_text) := ⟨rfl, rfl, rfl, by decide +kernel, rfl, by decide +kernel, by decide +kernel⟩
noncomputable def csc_page_text_0 : Scope := { kind := PySem.ScopeKind.function, names := [(PySem.Str.ofString ".0", PySem.NameKind.local), (PySem.Str.ofString "row", PySem.NameKind.local)], isGenerator := false, isCoroutine := false, more := [] : PySem.Scope }
theorem cs_page_text_0 : CompSc ["web", "asks", "rows"] ["row", "web", "asks", "rows"] (defScope s_page_text) csc_page_text_0 "row" := ⟨rfl, by decide +kernel, by decide +kernel, rfl, by decide +kernel, rfl, rfl, by decide +kernel, rfl, by decide +kernel, by decide +kernel⟩
theorem sc__law_stir : FnScope ["cell", "k", "m"] ["cell", "k"] (defScope s__law_stir) := ⟨rfl, rfl, rfl, by decide +kernel, rfl, by decide +kernel, by decide +kernel⟩
theorem sc__law_folded : FnScope ["script", "many", "found", "k", "cell"] ["script", "many"] (defScope s__law_folded) := ⟨rfl, rfl, rfl, by decide +kernel, rfl, by decide +kernel, by decide +kernel⟩
theorem sc__law_words : FnScope ["length", "kinds", "words", "k", "longer", "word", "letter"] ["length", "kinds"] (defScope s__law_words) := ⟨rfl, rfl, rfl, by decide +kernel, rfl, by decide +kernel, by decide +kernel⟩
theorem sc__law_size : FnScope ["n", "sizes"] ["n"] (defScope s__law_size) := ⟨rfl, rfl, rfl, by decide +kernel, rfl, by decide +kernel, by decide +kernel⟩
theorem sc__law_ask : FnScope ["cell", "n", "number", "text", "some"] ["cell"] (defScope s__law_ask) := ⟨rfl, rfl, rfl, by decide +kernel, rfl, by decide +kernel, by decide +kernel⟩
noncomputable def csc__law_ask_0 : Scope := { kind := PySem.ScopeKind.function, names := [ (PySem.Str.ofString ".0", PySem.NameKind.local), (PySem.Str.ofString "k", PySem.NameKind.local), (PySem.Str.ofString "_law_stir", PySem.NameKind.globalImplicit), (PySem.Str.ofString "cell", PySem.NameKind.free)], isGenerator := false, isCoroutine := false, more := [] : PySem.Scope }
theorem cs__law_ask_0 : CompSc ["cell", "n", "number", "text", "some"] ["k", "cell", "n", "number", "text", "some"] (defScope s__law_ask) csc__law_ask_0 "k" := ⟨rfl, by decide +kernel, by decide +kernel, rfl, by decide +kernel, rfl, rfl, by decide +kernel, rfl, by decide +kernel, by decide +kernel⟩
theorem sc__law_page : FnScope ["script", "n", "length", "kinds", "words", "rows", "cells", "kept", "k", "mixed_up", "word", "cut"] ["script", "n"] (defScope s__law_page) := ⟨rfl, rfl, rfl, by decide +kernel, rfl, by decide +kernel, by decide +kernel⟩
theorem sc__law_barred : FnScope ["rows", "words", "n", "kinds", "k", "part", "text", "left"] ["rows", "words", "n"] (defScope s__law_barred) := ⟨rfl, rfl, rfl, by decide +kernel, rfl, by decide +kernel, by decide +kernel⟩
noncomputable def csc__law_barred_0 : Scope := { kind := PySem.ScopeKind.function, names := [ (PySem.Str.ofString ".0", PySem.NameKind.local), (PySem.Str.ofString "j", PySem.NameKind.local), (PySem.Str.ofString "_law_stir", PySem.NameKind.globalImplicit), (PySem.Str.ofString "kinds", PySem.NameKind.free), (PySem.Str.ofString "part", PySem.NameKind.free)], isGenerator := false, isCoroutine := false, more := [] : PySem.Scope }
theorem cs__law_barred_0 : CompSc ["rows", "words", "n", "kinds", "k", "part", "text", "left"] ["j", "rows", "words", "n", "kinds", "k", "part", "text", "left"] (defScope s__law_barred) csc__law_barred_0 "j" := ⟨rfl, by decide +kernel, by decide +kernel, rfl, by decide +kernel, rfl, rfl, by decide +kernel, rfl, by decide +kernel, by decide +kernel⟩
noncomputable def csc__law_barred_1 : Scope := { kind := PySem.ScopeKind.function, names := [ (PySem.Str.ofString ".0", PySem.NameKind.local), (PySem.Str.ofString "word", PySem.NameKind.local), (PySem.Str.ofString "text", PySem.NameKind.free)], isGenerator := false, isCoroutine := false, more := [] : PySem.Scope }
theorem cs__law_barred_1 : CompSc ["rows", "words", "n", "kinds", "k", "part", "text", "left"] ["word", "rows", "words", "n", "kinds", "k", "part", "text", "left"] (defScope s__law_barred) csc__law_barred_1 "word" := ⟨rfl, by decide +kernel, by decide +kernel, rfl, by decide +kernel, rfl, rfl, by decide +kernel, rfl, by decide +kernel, by decide +kernel⟩
theorem sc_law : FnScope ["script", "n", "rows", "words", "asks", "text", "web", "found", "due", "told", "again"] ["script"] (defScope s_law) := ⟨rfl, rfl, rfl, by decide +kernel, rfl, by decide +kernel, by decide +kernel⟩
noncomputable def csc_law_0 : Scope := { kind := PySem.ScopeKind.function, names := [ (PySem.Str.ofString ".0", PySem.NameKind.local), (PySem.Str.ofString "cell", PySem.NameKind.local), (PySem.Str.ofString "_law_ask", PySem.NameKind.globalImplicit)], isGenerator := false, isCoroutine := false, more := [] : PySem.Scope }
theorem cs_law_0 : CompSc ["script", "n", "rows", "words", "asks", "text", "web", "found", "due", "told", "again"] ["cell", "script", "n", "rows", "words", "asks", "text", "web", "found", "due", "told", "again"] (defScope s_law) csc_law_0 "cell" := ⟨rfl, by decide +kernel, by decide +kernel, rfl, by decide +kernel, rfl, rfl, by decide +kernel, rfl, by decide +kernel, by decide +kernel⟩
noncomputable def csc_law_1 : Scope := { kind := PySem.ScopeKind.function, names := [(PySem.Str.ofString ".0", PySem.NameKind.local), (PySem.Str.ofString "row", PySem.NameKind.local)], isGenerator := false, isCoroutine := false, more := [] : PySem.Scope }
theorem cs_law_1 : CompSc ["script", "n", "rows", "words", "asks", "text", "web", "found", "due", "told", "again"] ["row", "script", "n", "rows", "words", "asks", "text", "web", "found", "due", "told", "again"] (defScope s_law) csc_law_1 "row" := ⟨rfl, by decide +kernel, by decide +kernel, rfl, by decide +kernel, rfl, rfl, by decide +kernel, rfl, by decide +kernel, by decide +kernel⟩
noncomputable def csc_law_2 : Scope := { kind := PySem.ScopeKind.function, names := [ (PySem.Str.ofString ".0", PySem.NameKind.local), (PySem.Str.ofString "ask", PySem.NameKind.local), (PySem.Str.ofString "tuple", PySem.NameKind.globalImplicit)], isGenerator := false, isCoroutine := false, more := [] : PySem.Scope }
theorem cs_law_2 : CompSc ["script", "n", "rows", "words", "asks", "text", "web", "found", "due", "told", "again"] ["ask", "script", "n", "rows", "words", "asks", "text", "web", "found", "due", "told", "again"] (defScope s_law) csc_law_2 "ask" := ⟨rfl, by decide +kernel, by decide +kernel, rfl, by decide +kernel, rfl, rfl, by decide +kernel, rfl, by decide +kernel, by decide +kernel⟩
noncomputable def csc_law_3 : Scope := { kind := PySem.ScopeKind.function, names := [(PySem.Str.ofString ".0", PySem.NameKind.local), (PySem.Str.ofString "row", PySem.NameKind.local)], isGenerator := false, isCoroutine := false, more := [] : PySem.Scope }
theorem cs_law_3 : CompSc ["script", "n", "rows", "words", "asks", "text", "web", "found", "due", "told", "again"] ["row", "script", "n", "rows", "words", "asks", "text", "web", "found", "due", "told", "again"] (defScope s_law) csc_law_3 "row" := ⟨rfl, by decide +kernel, by decide +kernel, rfl, by decide +kernel, rfl, rfl, by decide +kernel, rfl, by decide +kernel, by decide +kernel⟩
set_option genInjectivity false in
structure Adr where
  BadKinds : Addr
  BadWord : Addr
  TooMany : Addr
  BadText : Addr
  Web : Addr
  ASKS : Addr
  AHEAD : Addr
  u_LETTERS : Value
  u_LONGEST : Value
  u_MOST_WORDS : Value
  u_MOST_OF_A_WEB : Value
  u_LONGEST_OF_A_WEB : Value
  u_MOST_OF_A_RULE : Value
  u_LONGEST_OF_A_RULE : Value
  u_FIGURES : Value
  u_MOST_FIGURES : Value
  u_MOST_LETTERS : Value

set_option genInjectivity false in
structure Txt (K : PySem.W.Frag) (mg : Str → Option Value) (ad : Adr) : Prop where
  b_all : mg "all" = none
  b_any : mg "any" = none
  b_enumerate : mg "enumerate" = none
  b_int : mg "int" = none
  b_isinstance : mg "isinstance" = none
  b_len : mg "len" = none
  b_list : mg "list" = none
  b_max : mg "max" = none
  b_range : mg "range" = none
  b_reversed : mg "reversed" = none
  b_set : mg "set" = none
  b_sorted : mg "sorted" = none
  b_str : mg "str" = none
  b_sum : mg "sum" = none
  b_tuple : mg "tuple" = none
  m_BadKinds : mg "BadKinds" = some (.ref ad.BadKinds)
  m_BadWord : mg "BadWord" = some (.ref ad.BadWord)
  m_TooMany : mg "TooMany" = some (.ref ad.TooMany)
  m_BadText : mg "BadText" = some (.ref ad.BadText)
  m_Web : mg "Web" = some (.ref ad.Web)
  m_ASKS : mg "ASKS" = some (.ref ad.ASKS)
  m_AHEAD : mg "AHEAD" = some (.ref ad.AHEAD)
  x_BadKinds : Exc K mg "BadKinds" ad.BadKinds
  x_BadWord : Exc K mg "BadWord" ad.BadWord
  x_TooMany : Exc K mg "TooMany" ad.TooMany
  g_LETTERS : mg "LETTERS" = some ad.u_LETTERS
  r_LETTERS : RelV (T [97, 98, 99, 100, 101, 102]) ad.u_LETTERS
  g_LONGEST : mg "LONGEST" = some ad.u_LONGEST
  r_LONGEST : RelV (.int 24) ad.u_LONGEST
  g_MOST_WORDS : mg "MOST_WORDS" = some ad.u_MOST_WORDS
  r_MOST_WORDS : RelV (.int 4096) ad.u_MOST_WORDS
  g_MOST_OF_A_WEB : mg "MOST_OF_A_WEB" = some ad.u_MOST_OF_A_WEB
  r_MOST_OF_A_WEB : RelV (.int 64) ad.u_MOST_OF_A_WEB
  g_LONGEST_OF_A_WEB : mg "LONGEST_OF_A_WEB" = some ad.u_LONGEST_OF_A_WEB
  r_LONGEST_OF_A_WEB : RelV (.int 8) ad.u_LONGEST_OF_A_WEB
  g_MOST_OF_A_RULE : mg "MOST_OF_A_RULE" = some ad.u_MOST_OF_A_RULE
  r_MOST_OF_A_RULE : RelV (.int 64) ad.u_MOST_OF_A_RULE
  g_LONGEST_OF_A_RULE : mg "LONGEST_OF_A_RULE" = some ad.u_LONGEST_OF_A_RULE
  r_LONGEST_OF_A_RULE : RelV (.int 8) ad.u_LONGEST_OF_A_RULE
  g_FIGURES : mg "FIGURES" = some ad.u_FIGURES
  r_FIGURES : RelV (T [48, 49, 50, 51, 52, 53, 54, 55, 56, 57]) ad.u_FIGURES
  g_MOST_FIGURES : mg "MOST_FIGURES" = some ad.u_MOST_FIGURES
  r_MOST_FIGURES : RelV (.int 60) ad.u_MOST_FIGURES
  g_MOST_LETTERS : mg "MOST_LETTERS" = some ad.u_MOST_LETTERS
  r_MOST_LETTERS : RelV (.int 200) ad.u_MOST_LETTERS
  k_asks : tabIs K ad.ASKS asksD = true
  k_ahead : tabIs K ad.AHEAD aheadD = true
  cl_Web : Cls K ad.Web
  na_Web_words : NoAttr K ad.Web "words"
  na_Web_length : NoAttr K ad.Web "length"
theorem cxK2 {CX : CXT} {P : Program} {w : World} {K : PySem.W.Frag} {mg : Str → Option Value} {base : Heap} {N : List Str} {q : Str} {sc : Scope} {f : Addr} {cdv : Value} {A : Around} {outer : List Env} {s : Shared} {H : Hp} {E : XK} : (cxOf CX P w K mg base N q sc f cdv A outer s H E).nox.K = K := rfl
section
variable {P : Program} {w : World} {K : PySem.W.Frag} {mg : Str → Option Value} {base : Heap} {ad : Adr}

theorem abc6 {m : Nat} (h : m < 6) : ([97, 98, 99, 100, 101, 102] : List Nat)[m]? = some (97 + m) := by
  have key : ∀ m : Nat, m < 6 → ([97, 98, 99, 100, 101, 102] : List Nat)[m]? = some (97 + m) := by decide
  exact key m h
theorem abc_mem {k c : Nat} (hk : k ≤ 6) : c ∈ ([97, 98, 99, 100, 101, 102] : List Nat).take k ↔ 97 ≤ c ∧ c < 97 + k := by
  have key : ∀ k : Nat, k < 7 → ([97, 98, 99, 100, 101, 102] : List Nat).take k = (List.range k).map (97 + ·) := by decide
  rw [key k (Nat.lt_succ_of_le hk), List.mem_map]
  exact ⟨fun ⟨i, h, e⟩ => e ▸ ⟨Nat.le_add_right _ _, Nat.add_lt_add_left (List.mem_range.mp h) _⟩, fun ⟨h1, h2⟩ => ⟨c - 97, List.mem_range.mpr (Nat.sub_lt_left_of_lt_add h1 h2), Nat.add_sub_cancel' h1⟩⟩
theorem ones_rev (g : Nat → Nat) : ∀ l : List Nat, (l.map fun j => [g j]).flatten = l.map g
  | [] => rfl
  | x :: l => by rw [List.map_cons, List.flatten_cons, ones_rev g l, List.map_cons]; rfl

noncomputable def spKindsX (ad : Adr) : Sp := fun vs H Q E => ∃ k : Int, vs = [.int k] ∧ ((1 ≤ k ∧ k ≤ 6) → Q .non H) ∧ (¬ (1 ≤ k ∧ k ≤ 6) → E (.ref ad.BadKinds) none H)
theorem ok_looked_kinds {f : Addr} {fd : FuncData} (F : Fun K "looked_kinds" "looked_kinds" s_looked_kinds f fd) (tt : Txt K mg ad) : FnOk P w K mg base (CX1 P w) 1 f fd ["kinds"] (spKindsX ad) := by
  refine F.okX sc_looked_kinds (fun vs H Q E h => ?_) (fun cdv A outer s H vs Q E hr h => ?_)
  · obtain ⟨k, rfl, _⟩ := h
    rfl
  · obtain ⟨k, rfl, q, x⟩ := h
    have hs : sizeLine = 16777216 := sizeLine_eq
    refine ⟨_, (pss_one (ps_if (PW.pt (pw_or (pt_cmpR op_lt (pv 0) pe_int (nomark _)) (pw_or1 (pt_cmpR op_gt (pv 0) (pe_callB call_len_T (by rfl) tt.b_len PySem.boot_len (pa_cons (pe_glob (by rfl) tt.g_LETTERS tt.r_LETTERS) pa_nil)) (nomark _))))) (pss_one (ps_raise (E := fun cls H' => E cls none H') tt.x_BadKinds rfl (fun _ _ _ _ _ _ _ I hx q => raiseX I hx q) (pa_cons pe_str pa_nil))) pss_nil)), ?_⟩
    (try rw [cxK2]); (try rw [cxK1])
    refine ⟨_, rfl, _, _, rfl, rfl, _, rfl, ?_⟩
    refine ite2 (fun h0 => iteT ?_) (fun h0 => ?_)
    · have h1 : k < 1 := of_decide_eq_true h0
      exact ⟨(by show 1 ≤ sizeLine; omega), x fun z => by omega⟩
    · have h1 : ¬ k < 1 := fun z => h0 (decide_eq_true z)
      refine ⟨_, rfl, _, rfl, (by show 6 ≤ sizeLine; omega), _, _, rfl, rfl, _, rfl, ?_⟩
      refine ite2 (fun h2 => ?_) (fun h2 => ?_)
      · have h3 : (6 : Int) < k := of_decide_eq_true h2
        exact ⟨(by show 1 ≤ sizeLine; omega), x fun z => by omega⟩
      · have h3 : ¬ (6 : Int) < k := fun z => h2 (decide_eq_true z)
        exact q ⟨by omega, by omega⟩

noncomputable def spLenX (ad : Adr) : Sp := fun vs H Q E => ∃ n k : Int, vs = [.int n, .int k] ∧ ((1 ≤ k ∧ k ≤ 6) → (1 ≤ n ∧ n ≤ 24) → Q .non H) ∧ (¬ (1 ≤ k ∧ k ≤ 6) → E (.ref ad.BadKinds) none H) ∧ ((1 ≤ k ∧ k ≤ 6) → ¬ (1 ≤ n ∧ n ≤ 24) → E (.ref ad.BadWord) none H)
theorem ok_looked_length {f : Addr} {fd : FuncData} (F : Fun K "looked_length" "looked_length" s_looked_length f fd) (tt : Txt K mg ad) (C_looked_kinds : Cal P w K mg base (CX1 P w) "looked_kinds" 1 ["kinds"] (spKindsX ad)) :
    FnOk P w K mg base (CX1 P w) 2 f fd ["length", "kinds"] (spLenX ad) := by
  refine F.okX sc_looked_length (fun vs H Q E h => ?_) (fun cdv A outer s H vs Q E hr h => ?_)
  · obtain ⟨n, k, rfl, _⟩ := h
    rfl
  · obtain ⟨n, k, rfl, q, x1, x2⟩ := h
    have hs : sizeLine = 16777216 := sizeLine_eq
    refine ⟨_, (pss_cons (ps_expr (pe_cal C_looked_kinds hr passX (pa_cons (pv 1) pa_nil)))
      (pss_one (ps_if (PW.pt (pw_or (pt_cmpR op_lt (pv 0) pe_int (nomark _)) (pw_or1 (pt_cmpR op_gt (pv 0) (pe_glob (by rfl) tt.g_LONGEST tt.r_LONGEST) (nomark _))))) (pss_one (ps_raise (E := fun cls H' => E cls none H') tt.x_BadWord rfl (fun _ _ _ _ _ _ _ I hx q => raiseX I hx q) (pa_cons pe_str pa_nil))) pss_nil))), ?_⟩
    (try rw [cxK2]); (try rw [cxK1])
    refine ⟨_, rfl, k, rfl, fun hk => ?_, x1⟩
    refine ⟨_, rfl, _, _, rfl, rfl, _, rfl, ?_⟩
    refine ite2 (fun h0 => iteT ?_) (fun h0 => ?_)
    · have h1 : n < 1 := of_decide_eq_true h0
      exact ⟨(by show 1 ≤ sizeLine; omega), x2 hk fun z => by omega⟩
    · have h1 : ¬ n < 1 := fun z => h0 (decide_eq_true z)
      refine ⟨_, rfl, _, _, rfl, rfl, _, rfl, ?_⟩
      refine ite2 (fun h2 => ?_) (fun h2 => ?_)
      · have h3 : (24 : Int) < n := of_decide_eq_true h2
        exact ⟨(by show 1 ≤ sizeLine; omega), x2 hk fun z => by omega⟩
      · have h3 : ¬ (24 : Int) < n := fun z => h2 (decide_eq_true z)
        exact q hk ⟨by omega, by omega⟩

noncomputable def spLettersX (ad : Adr) : Sp := fun vs H Q E => ∃ k : Int, vs = [.int k] ∧ (∀ kn : Nat, k = (kn : Nat) → (1 ≤ kn ∧ kn ≤ 6) → Q (T (([97, 98, 99, 100, 101, 102] : List Nat).take kn)) H) ∧ (¬ (1 ≤ k ∧ k ≤ 6) → E (.ref ad.BadKinds) none H)
theorem ok_letters {f : Addr} {fd : FuncData} (F : Fun K "letters" "letters" s_letters f fd) (tt : Txt K mg ad) (C_looked_kinds : Cal P w K mg base (CX1 P w) "looked_kinds" 1 ["kinds"] (spKindsX ad)) : FnOk P w K mg base (CX1 P w) 2 f fd ["kinds"] (spLettersX ad) := by
  refine F.okX sc_letters (fun vs H Q E h => ?_) (fun cdv A outer s H vs Q E hr h => ?_)
  · obtain ⟨k, rfl, _⟩ := h
    rfl
  · obtain ⟨k, rfl, q, x⟩ := h
    have hs : sizeLine = 16777216 := sizeLine_eq
    refine ⟨_, (pss_cons (ps_expr (pe_cal C_looked_kinds hr passX (pa_cons (pv 0) pa_nil)))
      (pss_one (ps_ret (pe_slice sl_T (pe_glob (by rfl) tt.g_LETTERS tt.r_LETTERS) po_none (po_some (pv 0)))))), ?_⟩
    (try rw [cxK2]); (try rw [cxK1])
    refine ⟨_, rfl, k, rfl, fun hk => ?_, x⟩
    obtain ⟨kn, rfl⟩ : ∃ kn : Nat, k = (kn : Nat) := ⟨k.toNat, by omega⟩
    refine ⟨_, rfl, _, rfl, _, rfl, (by show 6 ≤ sizeLine; omega), ?_⟩
    rw [cutL_to (by show kn ≤ 6; omega)]
    exact q kn rfl ⟨by omega, by omega⟩

noncomputable def Good (w : List Nat) (kn : Nat) : Prop := (1 ≤ w.length ∧ w.length ≤ 24) ∧ ∀ c ∈ w, 97 ≤ c ∧ c < 97 + kn
noncomputable def spLookedX (ad : Adr) : Sp := fun vs H Q E => ∃ (w : List Nat) (k : Int), vs = [T w, .int k] ∧ w.length ≤ 100000 ∧ (¬ (1 ≤ k ∧ k ≤ 6) → E (.ref ad.BadKinds) none H) ∧
  ∀ kn : Nat, k = (kn : Nat) → (1 ≤ kn ∧ kn ≤ 6) → (Good w kn → Q .non H) ∧ (¬ Good w kn → E (.ref ad.BadWord) none H)
theorem ok_looked {f : Addr} {fd : FuncData} (F : Fun K "looked" "looked" s_looked f fd) (tt : Txt K mg ad) (C_looked_length : Cal P w K mg base (CX1 P w) "looked_length" 2 ["length", "kinds"] (spLenX ad))
    (C_letters : Cal P w K mg base (CX1 P w) "letters" 2 ["kinds"] (spLettersX ad)) : FnOk P w K mg base (CX1 P w) 3 f fd ["word", "kinds"] (spLookedX ad) := by
  refine F.okX sc_looked (fun vs H Q E h => ?_) (fun cdv A outer s H vs Q E hr h => ?_)
  · obtain ⟨w, k, rfl, _⟩ := h
    rfl
  · obtain ⟨w, k, rfl, hw, x1, q⟩ := h
    have hs : sizeLine = 16777216 := sizeLine_eq
    refine ⟨_, (pss_cons (ps_expr (pe_cal C_looked_length hr passX (pa_cons (pe_callB call_len_T (by rfl) tt.b_len PySem.boot_len (pa_cons (pv 0) pa_nil)) (pa_cons (pv 1) pa_nil))))
      (pss_cons (ps_set (i := 2) sc_looked.nd rfl (Or.inl rfl) (pe_cal C_letters hr passX (pa_cons (pv 1) pa_nil)))
      (pss_one (ps_for PassesOwn.leaving rfl (pi_str (pv 0)) (pg_name (i := 3) sc_looked.nd rfl (Or.inl rfl)) (pss_one (ps_if (pt_cmpR op_notin_sT (pv 3) (pv 2) (by with_unfolding_all rfl)) (pss_one (ps_raise (E := fun cls H' => E cls none H') tt.x_BadWord rfl (fun _ _ _ _ _ _ _ I hx q => raiseX I hx q) (pa_cons pe_str pa_nil))) pss_nil)))))), ?_⟩
    (try rw [cxK2]); (try rw [cxK1])
    refine ⟨_, rfl, _, rfl, (by omega), _, rfl, _, k, rfl, fun hk hn => ?_, x1, fun hk hn => ?_⟩
    rotate_left
    · obtain ⟨kn, rfl⟩ : ∃ kn : Nat, k = (kn : Nat) := ⟨k.toNat, by omega⟩
      exact (q kn rfl ⟨by omega, by omega⟩).2 fun z => hn ⟨by have := z.1; omega, by have := z.1; omega⟩
    obtain ⟨kn, rfl⟩ : ∃ kn : Nat, k = (kn : Nat) := ⟨k.toNat, by omega⟩
    obtain ⟨q1, q2⟩ := q kn rfl ⟨by omega, by omega⟩
    refine ⟨_, rfl, _, rfl, fun kn' ek hk' => ?_, fun z => absurd hk z⟩
    obtain rfl : kn = kn' := by omega
    refine ⟨_, rfl, _, rfl, ?_⟩
    refine for_text (l := w) (fun i σ H2 => H = H2 ∧ (∀ c ∈ w.take i, 97 ≤ c ∧ c < 97 + kn) ∧ ∃ v, σ = [some (T w), some (.int (kn : Nat)), some (T (([97, 98, 99, 100, 101, 102] : List Nat).take kn)), v]) ⟨rfl, fun c hc => (by simp at hc), none, rfl⟩ ?_ ?_
    · rintro i c σ H2 hi ⟨rfl, hall, v, rfl⟩
      refine ⟨_, rfl, _, rfl, _, rfl, _, rfl, _, rfl, ?_⟩
      refine ite2 (fun h0 => ?_) (fun h0 => ?_)
      · have h1 : ¬ c ∈ ([97, 98, 99, 100, 101, 102] : List Nat).take kn := fun z => by
          rw [decide_eq_true z] at h0
          cases h0
        refine ⟨(by show 1 ≤ sizeLine; omega), q2 fun z => h1 ?_⟩
        exact (abc_mem (by omega)).mpr (z.2 c (List.mem_of_getElem? hi))
      · have h1 : c ∈ ([97, 98, 99, 100, 101, 102] : List Nat).take kn := by
          apply Classical.byContradiction
          intro z
          rw [decide_eq_false z] at h0
          exact h0 rfl
        refine ⟨rfl, fun d hd => ?_, _, rfl⟩
        have hil := (List.getElem?_eq_some_iff.mp hi).1
        rw [List.take_add_one, hi] at hd
        rcases List.mem_append.mp hd with z | z
        · exact hall d z
        · have : d = c := by simpa using z
          subst this
          exact (abc_mem (by omega)).mp h1
    · rintro σ H2 ⟨rfl, hall, v, rfl⟩
      rw [List.take_length] at hall
      exact q1 ⟨⟨by omega, by omega⟩, hall⟩

noncomputable def FewN (k : Nat) (ls : List (List Nat)) : Prop := ∃ ps : List (List Nat), ps.length ≤ k ∧ ∀ w ∈ ls, w.take (w.length - 1) ∈ ps ∧ w.drop 1 ∈ ps
noncomputable def Few (ls : List (List Nat)) : Prop := FewN 61 ls
theorem FewN.len {k : Nat} {ls : List (List Nat)} (h : 2 * ls.length ≤ k) : FewN k ls := ⟨ls.map (fun w => w.take (w.length - 1)) ++ ls.map (fun w => w.drop 1), by rw [List.length_append, List.length_map, List.length_map]; omega, fun w hw => ⟨List.mem_append.mpr (.inl (List.mem_map.mpr ⟨w, hw, rfl⟩)), List.mem_append.mpr (.inr (List.mem_map.mpr ⟨w, hw, rfl⟩))⟩⟩
theorem uniq_len {ls : List (List Nat)} (h : ls.Nodup) : (uniq ls).length = ls.length := ((List.perm_ext_iff_of_nodup (uniq_nodup ls) h).mpr fun x => uniq_mem ls x).length_eq
theorem sa_put {H : Hp} {p x C dx : Addr} {fs : List (Str × V)} {xs : List V} {o : HO} (h : SqA K H p xs) (hx : H x = some (.ins C dx fs)) : SqA K (upd H x o) p xs := by
  have k : ∀ {o'}, H p = some o' → (∀ C d f, o' ≠ .ins C d f) → upd H x o p = some o' := fun {o'} e n => by rw [upd_ne (fun z => by rw [z, hx] at e; exact n _ _ _ (Option.some.inj e).symm)]; exact e
  rcases h with ((h | ⟨q, h⟩) | h) | ((h | ⟨q, h⟩) | h)
  · exact .inl (.inl (.inl (k h (fun _ _ _ z => by cases z))))
  · exact .inl (.inl (.inr ⟨q, k h (fun _ _ _ z => by cases z)⟩))
  · exact .inl (.inr h)
  · exact .inr (.inl (.inl (k h (fun _ _ _ z => by cases z))))
  · exact .inr (.inl (.inr ⟨q, k h (fun _ _ _ z => by cases z)⟩))
  · exact .inr (.inr h)
noncomputable def WebOk (ls : List (List Nat)) (n : Nat) : Prop := ls ≠ [] ∧ ls.length ≤ 60 ∧ ((1 ≤ n ∧ n ≤ 8) ∧ Few ls) ∧ (∀ x ∈ ls, x.length = n ∧ ∀ c ∈ x, 97 ≤ c ∧ c < 103) ∧ ls.Nodup
noncomputable def spWebL (K : PySem.W.Frag) : Sp := fun vs H Q _ => ∃ (p : Addr) (ls : List (List Nat)) (n : Nat), vs = [.ref p] ∧ SqA K H p (ls.map T) ∧ WebOk ls n ∧ ∀ H', Same H H' → Q .non H'
theorem ok_looked_web {f : Addr} {fd : FuncData} (F : Fun K "looked_web" "looked_web" s_looked_web f fd) (tt : Txt K mg ad) (C_looked : Cal P w K mg base (CX1 P w) "looked" 3 ["word", "kinds"] (spLookedX ad)) :
    FnOk P w K mg base (CX1 P w) 4 f fd ["words"] (spWebL K) := by
  refine F.okX sc_looked_web (fun vs H Q E h => ?_) (fun cdv A outer s H vs Q E hr h => ?_)
  · obtain ⟨p, ls, n, rfl, _⟩ := h
    rfl
  · obtain ⟨p, ls, n, rfl, hS, ⟨hne, h64, hn, hx, hnd⟩, q⟩ := h
    have hs : sizeLine = 16777216 := sizeLine_eq
    have hl0 : 0 < ls.length := List.length_pos_iff.mpr hne
    obtain ⟨x0, hx0⟩ : ∃ x0, ls[0]? = some x0 := ⟨_, List.getElem?_eq_getElem hl0⟩
    have hx0l := (hx x0 (List.mem_of_getElem? hx0)).1
    refine ⟨_, (pss_cons (ps_if (pt_cmpR op_gt (pe_callB call_len_seq (by rfl) tt.b_len PySem.boot_len (pa_cons (pv 0) pa_nil)) (pe_glob (by rfl) tt.g_MOST_OF_A_WEB tt.r_MOST_OF_A_WEB) (nomark _)) (pss_one (ps_raise (E := fun cls H' => E cls none H') tt.x_TooMany rfl (fun _ _ _ _ _ _ _ I hx q => raiseX I hx q) (pa_cons pe_str pa_nil))) pss_nil)
      (pss_cons (ps_if (pt_cmpR op_eq_I (pe_callB call_len_seq (by rfl) tt.b_len PySem.boot_len (pa_cons (pv 0) pa_nil)) pe_int (nomark _)) (pss_one (ps_raise (E := fun cls H' => E cls none H') tt.x_BadWord rfl (fun _ _ _ _ _ _ _ I hx q => raiseX I hx q) (pa_cons pe_str pa_nil))) pss_nil)
      (pss_cons (ps_for PassesOwn.leaving rfl (pi_seqK K rfl (pv 0)) (pg_name (i := 1) sc_looked_web.nd rfl (Or.inl rfl)) (pss_cons (ps_expr (pe_cal C_looked hr passX (pa_cons (pv 1) (pa_cons (pe_callB call_len_T (by rfl) tt.b_len PySem.boot_len (pa_cons (pe_glob (by rfl) tt.g_LETTERS tt.r_LETTERS) pa_nil)) pa_nil))))
      (pss_cons (ps_if (pt_cmpR op_gt (pe_callB call_len_T (by rfl) tt.b_len PySem.boot_len (pa_cons (pv 1) pa_nil)) (pe_glob (by rfl) tt.g_LONGEST_OF_A_WEB tt.r_LONGEST_OF_A_WEB) (nomark _)) (pss_one (ps_raise (E := fun cls H' => E cls none H') tt.x_BadWord rfl (fun _ _ _ _ _ _ _ I hx q => raiseX I hx q) (pa_cons pe_str pa_nil))) pss_nil)
      (pss_one (ps_if (pt_cmpR op_ne_I (pe_callB call_len_T (by rfl) tt.b_len PySem.boot_len (pa_cons (pv 1) pa_nil)) (pe_callB call_len_T (by rfl) tt.b_len PySem.boot_len (pa_cons (pe_ix ix_A (pv 0) pe_int (fun _ _ => rfl)) pa_nil)) (nomark _)) (pss_one (ps_raise (E := fun cls H' => E cls none H') tt.x_BadWord rfl (fun _ _ _ _ _ _ _ I hx q => raiseX I hx q) (pa_cons pe_str pa_nil))) pss_nil)))))
      (pss_one (ps_if (pt_cmpR op_ne_I (pe_callB call_lenS (by rfl) tt.b_len PySem.boot_len (pa_cons (pe_callTy (call_setA rfl) (by rfl) tt.b_set (by decide +kernel) (pa_cons (pv 0) pa_nil)) pa_nil)) (pe_callB call_len_seq (by rfl) tt.b_len PySem.boot_len (pa_cons (pv 0) pa_nil)) (nomark _)) (pss_one (ps_raise (E := fun cls H' => E cls none H') tt.x_BadWord rfl (fun _ _ _ _ _ _ _ I hx q => raiseX I hx q) (pa_cons pe_str pa_nil))) pss_nil))))), ?_⟩
    (try rw [cxK2]); (try rw [cxK1])
    refine ⟨_, rfl, p, _, rfl, hS, _, _, rfl, rfl, _, rfl, ?_⟩
    rw [List.length_map]
    refine ite2 (fun h0 => absurd (of_decide_eq_true h0) (by omega)) (fun _ => ?_)
    refine ⟨_, rfl, p, _, rfl, hS, _, rfl, _, rfl, _, rfl, ?_⟩
    rw [List.length_map]
    refine ite2 (fun h0 => absurd (of_decide_eq_true h0) (by omega)) (fun _ => ?_)
    refine ⟨_, rfl, p, ls.map T, _, rfl, hS, Same.refl _, fun J rd => ?_⟩
    refine for_reads rd (fun i σ H2 => H2 = H ∧ ∃ v, σ = [some (.ref p), v]) ⟨rfl, none, rfl⟩ (fun i σ H2 _ h => by rw [h.1]; exact Same.refl _) ?_ ?_
    · rintro i y σ H2 hi ⟨rfl, v, rfl⟩
      obtain ⟨x, hxi, rfl⟩ : ∃ x, ls[i]? = some x ∧ y = T x := by
        rw [List.getElem?_map] at hi
        obtain ⟨x, h1, h2⟩ := Option.map_eq_some_iff.mp hi
        exact ⟨x, h1, h2.symm⟩
      obtain ⟨hxl, hxc⟩ := hx x (List.mem_of_getElem? hxi)
      have hg : ∀ kn : Nat, (6 : Int) = (kn : Nat) → Good x kn := fun kn e => ⟨⟨by omega, by omega⟩, fun c hc => by have := hxc c hc; omega⟩
      refine ⟨_, rfl, _, rfl, (by show 6 ≤ sizeLine; omega), x, 6, rfl, (by omega), fun z => absurd ⟨by decide, by decide⟩ z, fun kn ek hk => ⟨fun _ => ?_, fun z => absurd (hg kn ek) z⟩⟩
      refine ⟨_, rfl, _, rfl, (by omega), _, _, rfl, rfl, _, rfl, ?_⟩
      refine ite2 (fun h0 => absurd (of_decide_eq_true h0) (by omega)) (fun _ => ?_)
      refine ⟨_, rfl, _, rfl, (by omega), _, rfl, p, _, _, _, rfl, rfl, hS, atI_nat (j := 0) (by rw [List.getElem?_map, hx0]; rfl), _, rfl, (by omega), _, rfl, _, rfl, _, rfl, ?_⟩
      refine iteNS (by rw [hxl, hx0l]) ?_
      exact ⟨rfl, _, rfl⟩
    · rintro σ H2 ⟨rfl, v, rfl⟩
      refine ⟨_, rfl, p, ls, rfl, hS, (by omega), fun D hD => ?_⟩
      have sD : Same H2 (upd H2 D (SetT P w D (uniq ls))) := fun b o e => by rw [upd_ne (ne_of_none e hD)]; exact e
      refine ⟨D, _, rfl, upd_same, _, rfl, p, _, rfl, hS.on sD, _, rfl, _, rfl, _, rfl, ?_⟩
      refine iteNS (by rw [List.length_map, uniq_len hnd]) ?_
      exact q _ sD
noncomputable def flds (tp : Addr) (n : Int) : List (Str × V) := putF "length" (.int n) (putF "words" (.ref tp) [])
theorem flds_w (tp : Addr) (n : Int) : (flds tp n).lookup ("words" : Str) = some (.ref tp) := by
  unfold flds
  rw [lookup_putF, if_neg (by decide +kernel), lookup_putF, if_pos rfl]
noncomputable def spWebI (K : PySem.W.Frag) (C : Addr) : Sp := fun vs H Q _ => ∃ (x dx p : Addr) (ls : List (List Nat)) (n : Nat), vs = [.ref x, .ref p] ∧ H x = some (.ins C dx []) ∧ SqA K H p (ls.map T) ∧ WebOk ls n ∧
  ∀ (tp : Addr) (ms : List (List Nat)) (H' : Hp), ms.Perm ls → ms.Pairwise (fun a b => ¬ b < a) → (∀ b o, H b = some o → b ≠ x → H' b = some o) → H' x = some (.ins C dx (flds tp (n : Nat))) → H' tp = some (.tup (ms.map T)) → Q .non H'
theorem ok_Web_init {f : Addr} {fd : FuncData} (F : Fun K "__init__" "Web.__init__" s_Web_init f fd) (tt : Txt K mg ad) (C_looked_web : Cal P w K mg base (CX1 P w) "looked_web" 4 ["words"] (spWebL K)) :
    FnOk P w K mg base (CX1 P w) 5 f fd ["self", "words"] (spWebI K ad.Web) := by
  refine F.okX sc_Web_init (fun vs H Q E h => ?_) (fun cdv A outer s H vs Q E hr h => ?_)
  · obtain ⟨x, dx, p, ls, n, rfl, _⟩ := h
    rfl
  · obtain ⟨x, dx, p, ls, n, rfl, hx, hS, hok, q⟩ := h
    have hs : sizeLine = 16777216 := sizeLine_eq
    obtain ⟨hne, h64, hn, hxs, hnd⟩ := id hok
    have hl0 : 0 < ls.length := List.length_pos_iff.mpr hne
    obtain ⟨x0, hx0⟩ : ∃ x0, ls[0]? = some x0 := ⟨_, List.getElem?_eq_getElem hl0⟩
    have hx0l := (hxs x0 (List.mem_of_getElem? hx0)).1
    refine ⟨_, (pss_cons (ps_expr (pe_cal C_looked_web hr passX (pa_cons (pv 1) pa_nil)))
      (pss_cons (ps_fld (pv 0) (pe_callTy call_tuple_of (by rfl) tt.b_tuple (by decide +kernel) (pa_cons (pe_callB call_sortedSA (by rfl) tt.b_sorted PyProof.Rows.boot_sorted (pa_cons (pv 1) pa_nil)) pa_nil)) rfl)
      (pss_one (ps_fld (pv 0) (pe_callB call_len_T (by rfl) tt.b_len PySem.boot_len (pa_cons (pe_ix ix_A (pv 1) pe_int (fun _ _ => rfl)) pa_nil)) rfl)))), ?_⟩
    (try rw [cxK2]); (try rw [cxK1])
    refine ⟨_, rfl, p, ls, n, rfl, hS, hok, fun H1 s1 => ?_⟩
    refine ⟨_, rfl, p, ls, rfl, hS.on s1, (by omega), fun ms D hD hperm hpw => ?_⟩
    have s2 : Same H1 (upd H1 D (.lst (ms.map T))) := fun b o e => by rw [upd_ne (ne_of_none e hD)]; exact e
    refine ⟨D, _, rfl, .inl ⟨SqL.of upd_same, fun tp htp => ?_⟩⟩
    have s3 : Same (upd H1 D (.lst (ms.map T))) (upd (upd H1 D (.lst (ms.map T))) tp (.tup (ms.map T))) := fun b o e => by rw [upd_ne (ne_of_none e htp)]; exact e
    generalize hH3 : upd (upd H1 D (.lst (ms.map T))) tp (.tup (ms.map T)) = H3 at s3
    have htp3 : H3 tp = some (.tup (ms.map T)) := by rw [← hH3]; exact upd_same
    have s13 : Same H H3 := s1.trans (s2.trans s3)
    have hx3 := s13 x _ hx
    have hxt : tp ≠ x := fun z => by subst z; rw [htp3] at hx3; cases hx3
    refine ⟨_, rfl, x, ad.Web, dx, [], rfl, hx3, tt.cl_Web, tt.na_Web_words, (by show 0 < 1000; decide), ?_⟩
    have hS4 : SqA K (upd H3 x (.ins ad.Web dx (putF "words" (.ref tp) []))) p (ls.map T) := sa_put (hS.on s13) hx3
    refine ⟨_, rfl, p, _, _, _, rfl, rfl, hS4, atI_nat (j := 0) (by rw [List.getElem?_map, hx0]; rfl), _, rfl, (by omega), _, rfl, x, ad.Web, dx, _, rfl, upd_same, tt.cl_Web, tt.na_Web_length, (by show 1 < 1000; decide), ?_⟩
    refine q tp ms _ hperm hpw (fun b o e hb => ?_) ?_ ?_
    · rw [upd_ne hb, upd_ne hb]
      exact s13 b o e
    · rw [upd_same, hx0l]
      rfl
    · rw [upd_ne hxt, upd_ne hxt]
      exact htp3
noncomputable def WebAt (C : Addr) (H : Hp) (x tp : Addr) (n : Nat) (ms : List (List Nat)) : Prop := (∃ dx, H x = some (.ins C dx (flds tp (n : Nat)))) ∧ H tp = some (.tup (ms.map T))
theorem WebAt.on {C : Addr} {H H' : Hp} {x tp : Addr} {n : Nat} {ms : List (List Nat)} (h : WebAt C H x tp n ms) (s : Same H H') : WebAt C H' x tp n ms := let ⟨⟨dx, e⟩, t⟩ := h; ⟨⟨dx, s _ _ e⟩, s _ _ t⟩

theorem same_upd {H : Hp} {D : Addr} {o : HO} (h : H D = none) : Same H (upd H D o) := fun b u e => by rw [upd_ne (ne_of_none e h)]; exact e
theorem namedD {H G : Hp} {D : Addr} {o : HO} (s : Same H (upd G D o)) : ∃ H', H' = upd G D o ∧ Same H H' ∧ H' D = some o := ⟨_, rfl, s, upd_same⟩
theorem inV_T {t : List Nat} : ∀ {ls : List (List Nat)}, inV (T t) (ls.map T) = decide (t ∈ ls)
  | [] => by simp [inV]
  | l :: ls => by
    have ih := @inV_T t ls
    have e : inV (T t) ((l :: ls).map T) = (eqV (T l) (T t) || inV (T t) (ls.map T)) := rfl
    have e2 : eqV (T l) (T t) = decide (t = l) := by
      show (tx l == tx t) = decide (t = l)
      rw [Bool.eq_iff_iff, beq_iff_eq, decide_eq_true_iff]
      exact ⟨fun h => (tx_inj h).symm, fun h => by rw [h]⟩
    rw [e, ih, e2, Bool.eq_iff_iff, Bool.or_eq_true, decide_eq_true_iff, decide_eq_true_iff, decide_eq_true_iff, List.mem_cons]
theorem itP {c A B : Prop} [Decidable c] (hc : c) (h : A) : if c then A else B := by rw [if_pos hc]; exact h
theorem itN {c A B : Prop} [Decidable c] (hc : ¬ c) (h : B) : if c then A else B := by rw [if_neg hc]; exact h


theorem cutV_from {ls : List (List Nat)} {k : Nat} (h : k ≤ ls.length) : cutV (ls.map T) (some (k : Int)) none = (ls.drop k).map T := by
  unfold cutV
  rw [HT.sIx_nat, HT.sIx_none, List.length_map, Nat.min_eq_left h, ← List.map_drop, ← List.map_take, List.take_of_length_le (by rw [List.length_drop]; omega)]
theorem cutV_to {ls : List (List Nat)} {k : Nat} (h : k ≤ ls.length) : cutV (ls.map T) none (some (k : Int)) = (ls.take k).map T := by
  unfold cutV
  rw [HT.sIx_nat, HT.sIx_none, List.length_map, Nat.min_eq_left h, List.drop_zero, Nat.sub_zero, List.map_take]
theorem tAnd_is {t u : TT} {σ : St} {H : Hp} {Q : Bool → Hp → Prop} (a b : Bool) (hA : ∀ N : Bool → Hp → Prop, N a H → t σ H N) (hB : a = true → ∀ N : Bool → Hp → Prop, N b H → u σ H N) (h : Q (a && b) H) : tAnd t u σ H Q := by
  refine hA _ ?_
  cases a with
  | true => rw [if_pos rfl]; exact hB rfl _ h
  | false => rw [if_neg Bool.false_ne_true]; exact h
theorem flat1 {ls : List (List Nat)} (f : List Nat → List Nat) (h : ∀ x, (f x).length = 1) : ((ls.map f).flatten).length = ls.length := by
  induction ls with
  | nil => rfl
  | cons a ls ih => rw [List.map_cons, List.flatten_cons, List.length_append, h, ih, List.length_cons, Nat.add_comm]
theorem flat_T (ls : List (List Nat)) : (ls.map T).all flatV = true := List.all_eq_true.mpr fun x hx => by
  obtain ⟨y, _, rfl⟩ := List.mem_map.mp hx
  rfl
theorem flat_le {ls : List (List Nat)} {n : Nat} (h : ∀ x ∈ ls, x.length ≤ n) : ls.flatten.length ≤ ls.length * n := by
  induction ls with
  | nil => exact Nat.zero_le _
  | cons a ls ih =>
    rw [List.flatten_cons, List.length_append, List.length_cons, Nat.succ_mul]
    have := h a (List.mem_cons_self ..)
    have := ih fun x hx => h x (List.mem_cons_of_mem _ hx)
    omega
theorem mod_nat (z q : Int) (hq : 0 < q) : ∃ j : Nat, z % q = (j : Nat) ∧ (j : Int) < q := ⟨(z % q).toNat, (Int.toNat_of_nonneg (Int.emod_nonneg z (by omega))).symm, by rw [Int.toNat_of_nonneg (Int.emod_nonneg z (by omega))]; exact Int.emod_lt_of_pos z hq⟩
theorem form_len (w : List Nat) : (formOf w).length = 1 := by
  unfold formOf
  split
  · rfl
  · split <;> rfl

noncomputable def spMade : Sp := fun vs H Q _ => ∃ (w s : List Nat) (m : Nat), vs = [T w, T s, .int m] ∧ w.length ≤ 100000 ∧ ∀ H', Same H H' → Q (.bl (madeOf s m w)) H'
theorem ok_is_made_of {f : Addr} {fd : FuncData} (F : Fun K "is_made_of" "is_made_of" s_is_made_of f fd) (tt : Txt K mg ad) : FnOk P w K mg base (CX1 P w) 1 f fd ["word", "signs", "most"] spMade := by
  refine F.okN sc_is_made_of (fun vs H Q E h => ?_) (fun cdv A outer s H vs Q E hr h => ?_)
  · obtain ⟨w, s, m, rfl, _⟩ := h
    rfl
  · obtain ⟨w, s', m, rfl, hw, q⟩ := h
    have hs : sizeLine = 16777216 := sizeLine_eq
    refine ⟨_, (pss_one (ps_ret (pe_and (pe_cmpR op_gt (pe_callB call_len_T (by rfl) tt.b_len PySem.boot_len (pa_cons (pv 0) pa_nil)) pe_int (nomark _)) (pe_and (pe_cmpR op_le (pe_callB call_len_T (by rfl) tt.b_len PySem.boot_len (pa_cons (pv 0) pa_nil)) (pv 2) (nomark _)) (pe_one (pe_callB (call_allB rfl) (by rfl) tt.b_all PyProof.Rows.boot_all (pa_cons (pe_comp cs_is_made_of_0 rfl (pi_str (pv 0)) (fun cl C s' H' fp => (pe_cmpR op_in_sT (pv 0) (pv 2) (by with_unfolding_all rfl)))) pa_nil))))))), ?_⟩
    (try rw [cxK2]); (try rw [cxK1])
    have key : ∀ H', Same H H' → Q (.bl (decide (0 < w.length) && (decide (w.length ≤ m) && w.all fun c => decide (c ∈ s')))) H' := q
    refine ⟨_, rfl, w, rfl, (by omega), _, _, rfl, rfl, _, rfl, ?_⟩
    by_cases h0 : 0 < w.length
    · rw [if_pos (decide_eq_true (show (0 : Int) < (w.length : Nat) by omega))]
      rw [decide_eq_true h0] at key
      refine ⟨_, rfl, w, rfl, (by omega), _, rfl, _, _, rfl, rfl, _, rfl, ?_⟩
      by_cases h1 : w.length ≤ m
      · rw [if_pos (decide_eq_true (show ((w.length : Nat) : Int) ≤ (m : Nat) by omega))]
        rw [decide_eq_true h1] at key
        refine ⟨_, rfl, w, rfl, ?_⟩
        refine compG (fun v => .bl (decide ((unT v).headD 0 ∈ s'))) (reads_text (l := w)) (by rw [List.length_map, List.length_map]; omega) (fun v H1 hv s1 N hN => ?_) fun D H1 hD s1 hd => ?_
        · rw [List.map_map] at hv
          obtain ⟨c, hc, rfl⟩ := List.mem_map.mp hv
          exact ⟨_, rfl, _, rfl, c, rfl, s', rfl, hN H1 (Same.refl _)⟩
        · refine ⟨D, w.map fun c => decide (c ∈ s'), rfl, SqL.of ?_, ?_⟩
          · rw [hd, List.map_map, List.map_map, List.map_map]
            rfl
          · rw [List.all_map]
            exact key H1 s1
      · rw [if_neg fun z => h1 (by have := of_decide_eq_true z; omega)]
        rw [decide_eq_false h1] at key
        exact key H (Same.refl _)
    · rw [if_neg fun z => h0 (by have := of_decide_eq_true z; omega)]
      rw [decide_eq_false h0] at key
      exact key H (Same.refl _)
noncomputable def spIsNum : Sp := fun vs H Q _ => ∃ w : List Nat, vs = [T w] ∧ w.length ≤ 100000 ∧ ∀ H', Same H H' → Q (.bl (isNum w)) H'
theorem ok_is_number {f : Addr} {fd : FuncData} (F : Fun K "is_number" "is_number" s_is_number f fd) (tt : Txt K mg ad) (C_is_made_of : Cal P w K mg base (CX1 P w) "is_made_of" 1 ["word", "signs", "most"] spMade) : FnOk P w K mg base (CX1 P w) 2 f fd ["word"] spIsNum := by
  refine F.okX sc_is_number (fun vs H Q E h => ?_) (fun cdv A outer s H vs Q E hr h => ?_)
  · obtain ⟨w, rfl, _⟩ := h
    rfl
  · obtain ⟨w, rfl, hw, q⟩ := h
    have hs : sizeLine = 16777216 := sizeLine_eq
    refine ⟨_, (pss_one (ps_ret (pe_and (pe_cal C_is_made_of hr pass1 (pa_cons (pv 0) (pa_cons (pe_glob (by rfl) tt.g_FIGURES tt.r_FIGURES) (pa_cons (pe_glob (by rfl) tt.g_MOST_FIGURES tt.r_MOST_FIGURES) pa_nil)))) (pe_one (pe_or (pe_cmpR op_eq_T (pv 0) (pe_strT [48] (by decide +kernel)) (nomark _)) (pe_one (pe_cmpR op_ne_T (pe_ix ix_T (pv 0) pe_int (fun _ _ => rfl)) (pe_strT [48] (by decide +kernel)) (nomark _)))))))), ?_⟩
    (try rw [cxK2]); (try rw [cxK1])
    refine ⟨_, rfl, w, figs, 60, rfl, hw, fun H1 s1 => ⟨_, rfl, ?_⟩⟩
    have key := q H1 s1
    unfold isNum at key
    by_cases h0 : madeOf figs 60 w = true
    · rw [if_pos h0]
      rw [h0] at key
      refine ⟨_, rfl, w, rfl, _, rfl, _, rfl, ?_⟩
      by_cases h1 : w = [48]
      · rw [if_pos (decide_eq_true h1)]
        rw [decide_eq_true h1] at key
        exact key
      · rw [if_neg fun z => h1 (of_decide_eq_true z)]
        rw [decide_eq_false h1] at key
        cases w with
        | nil => cases h0
        | cons c w =>
          refine ⟨_, rfl, c :: w, rfl, 0, rfl, (by omega), c, atI_nat (j := 0) rfl, [c], rfl, [48], rfl, ?_⟩
          rw [← decide_not]
          exact key
    · rw [if_neg h0]
      rw [Bool.eq_false_iff.mpr h0] at key
      exact key
noncomputable def spIsTxt : Sp := fun vs H Q _ => ∃ w : List Nat, vs = [T w] ∧ w.length ≤ 100000 ∧ ∀ H', Same H H' → Q (.bl (isTxt w)) H'
theorem ok_is_text {f : Addr} {fd : FuncData} (F : Fun K "is_text" "is_text" s_is_text f fd) (tt : Txt K mg ad) (C_is_made_of : Cal P w K mg base (CX1 P w) "is_made_of" 1 ["word", "signs", "most"] spMade) : FnOk P w K mg base (CX1 P w) 2 f fd ["word"] spIsTxt := by
  refine F.okX sc_is_text (fun vs H Q E h => ?_) (fun cdv A outer s H vs Q E hr h => ?_)
  · obtain ⟨w, rfl, _⟩ := h
    rfl
  · obtain ⟨w, rfl, hw, q⟩ := h
    refine ⟨_, (pss_one (ps_ret (pe_cal C_is_made_of hr pass1 (pa_cons (pv 0) (pa_cons (pe_glob (by rfl) tt.g_LETTERS tt.r_LETTERS) (pa_cons (pe_glob (by rfl) tt.g_MOST_LETTERS tt.r_MOST_LETTERS) pa_nil)))))), ?_⟩
    (try rw [cxK2]); (try rw [cxK1])
    exact ⟨_, rfl, w, lets, 200, rfl, hw, q⟩
noncomputable def spForm : Sp := fun vs H Q _ => ∃ w : List Nat, vs = [T w] ∧ w.length ≤ 100000 ∧ ∀ H', Same H H' → Q (T (formOf w)) H'
theorem ok_form_of {f : Addr} {fd : FuncData} (F : Fun K "form_of" "form_of" s_form_of f fd) (tt : Txt K mg ad) (C_is_number : Cal P w K mg base (CX1 P w) "is_number" 2 ["word"] spIsNum) (C_is_text : Cal P w K mg base (CX1 P w) "is_text" 2 ["word"] spIsTxt) : FnOk P w K mg base (CX1 P w) 3 f fd ["word"] spForm := by
  refine F.okX sc_form_of (fun vs H Q E h => ?_) (fun cdv A outer s H vs Q E hr h => ?_)
  · obtain ⟨w, rfl, _⟩ := h
    rfl
  · obtain ⟨w, rfl, hw, q⟩ := h
    refine ⟨_, (pss_cons (ps_if (pt_val (pe_cal C_is_number hr pass1 (pa_cons (pv 0) pa_nil))) (pss_one (ps_ret (pe_strT [110] (by decide +kernel)))) pss_nil)
      (pss_one (ps_ret (pe_ifExp (pt_val (pe_cal C_is_text hr pass1 (pa_cons (pv 0) pa_nil))) (pe_strT [116] (by decide +kernel)) (pe_strT [45] (by decide +kernel)))))), ?_⟩
    (try rw [cxK2]); (try rw [cxK1])
    refine ⟨_, rfl, w, rfl, hw, fun H1 s1 => ⟨_, rfl, ?_⟩⟩
    have q' := q H1 s1
    unfold formOf at q'
    refine ite2 (fun h0 => ?_) (fun h0 => ?_)
    · rw [if_pos h0] at q'
      exact q'
    · rw [if_neg h0] at q'
      refine ⟨_, rfl, w, rfl, hw, fun H2 s2 => ⟨_, rfl, ?_⟩⟩
      have q2 := q H2 (s1.trans s2)
      unfold formOf at q2
      rw [if_neg h0] at q2
      refine ite2 (fun h1 => ?_) (fun h1 => ?_)
      · rw [if_pos h1] at q2
        exact q2
      · rw [if_neg h1] at q2
        exact q2


noncomputable def spKind (K : PySem.W.Frag) : Sp := fun vs H Q _ => ∃ (p : Addr) (r : List (List Nat)), vs = [.ref p] ∧ SqL K H p (r.map T) ∧ r ≠ [] ∧ r.length ≤ 100000 ∧ (∀ x ∈ r, x.length ≤ 100000) ∧ ∀ H', Same H H' → Q (match kindOf r with | some k => T k | none => .non) H'
theorem ok_kind_of {f : Addr} {fd : FuncData} (F : Fun K "kind_of" "kind_of" s_kind_of f fd) (tt : Txt K mg ad) (C_form_of : Cal P w K mg base (CX1 P w) "form_of" 3 ["word"] spForm) : FnOk P w K mg base (CX1 P w) 4 f fd ["row"] (spKind K) := by
  refine F.okX sc_kind_of (fun vs H Q E h => ?_) (fun cdv A outer s H vs Q E hr h => ?_)
  · obtain ⟨p, r, rfl, _⟩ := h
    rfl
  · obtain ⟨p, r, rfl, hS, hne, hrl, hx, q⟩ := h
    have hs : sizeLine = 16777216 := sizeLine_eq
    obtain ⟨h, rt, rfl⟩ : ∃ h rt, r = h :: rt := by cases r with | nil => exact absurd rfl hne | cons a b => exact ⟨a, b, rfl⟩
    refine ⟨_, (pss_cons (ps_set (i := 1) sc_kind_of.nd rfl (Or.inl rfl) (pe_bm PySem.F.plainAttrs_str PySem.F.slot_str_join PySem.F.type_str_join mt_join (pe_strT [] (by decide +kernel)) (pa_cons (pe_comp cs_kind_of_0 rfl (pi_list (pe_slice sl_list (pv 0) (po_some pe_int) po_none)) (fun cl C s' H' fp => (pe_cal C_form_of hr pass1 (pa_cons (pv 0) pa_nil)))) pa_nil)))
      (pss_cons (ps_if (PW.pt (pw_and (pt_cmpR op_in_tab (pe_ix ix_list (pv 0) pe_int (fun _ _ => rfl)) (pe_glob (v := .ref ad.ASKS) (by rfl) tt.m_ASKS rfl) (by with_unfolding_all rfl)) (pw_and1 (pt_cmpR op_in_seq (pv 1) (pe_ix ix_tab (pe_glob (v := .ref ad.ASKS) (by rfl) tt.m_ASKS rfl) (pe_ix ix_list (pv 0) pe_int (fun _ _ => rfl)) (fun _ _ => rfl)) (by with_unfolding_all rfl))))) (pss_one (ps_ret (pe_strT [97, 115, 107] (by decide +kernel)))) pss_nil)
      (pss_cons (ps_if (PW.pt (pw_and (pt_cmpR op_eq_T (pe_ix ix_list (pv 0) pe_int (fun _ _ => rfl)) (pe_strT [97, 108, 108] (by decide +kernel)) (nomark _)) (pw_and1 (pt_cmpR op_eq_T (pv 1) (pe_strT [110, 110] (by decide +kernel)) (nomark _))))) (pss_one (ps_ret (pe_strT [97, 108, 108] (by decide +kernel)))) pss_nil)
      (pss_cons (ps_if (PW.pt (pw_and (pt_cmpR op_eq_T (pe_ix ix_list (pv 0) pe_int (fun _ _ => rfl)) (pe_strT [98, 97, 114] (by decide +kernel)) (nomark _)) (pw_and1 (pt_cmpR op_eq_T (pv 1) (pe_strT [116] (by decide +kernel)) (nomark _))))) (pss_one (ps_ret (pe_strT [98, 97, 114] (by decide +kernel)))) pss_nil)
      (pss_cons (ps_if (PW.pt (pw_and (pt_cmpR op_eq_T (pe_ix ix_list (pv 0) pe_int (fun _ _ => rfl)) (pe_strT [119, 111, 114, 100, 115] (by decide +kernel)) (nomark _)) (pw_and (pt_cmpR op_ne_T (pv 1) (pe_strT [] (by decide +kernel)) (nomark _)) (pw_and1 (pt_cmpR op_eq_T (pv 1) (pe_op op_mul_T (pe_strT [116] (by decide +kernel)) (pe_callB call_len_T (by rfl) tt.b_len PySem.boot_len (pa_cons (pv 1) pa_nil))) (nomark _)))))) (pss_one (ps_ret (pe_strT [119, 111, 114, 100, 115] (by decide +kernel)))) pss_nil)
      (pss_one (ps_ret pe_non))))))), ?_⟩
    (try rw [cxK2]); (try rw [cxK1])
    refine ⟨rfl, _, rfl, _, rfl, p, _, rfl, hS, fun c hc => ?_⟩
    rw [show cutV ((h :: rt).map T) (some 1) none = rt.map T from cutV_from (ls := h :: rt) (k := 1) (by show 1 ≤ rt.length + 1; omega)]
    have s0 := same_upd (o := .lst (rt.map T)) hc
    have hc' : upd H c (.lst (rt.map T)) c = some (.lst (rt.map T)) := upd_same
    generalize upd H c (.lst (rt.map T)) = G at s0 hc' ⊢
    have hrl' : rt.length + 1 ≤ 100000 := hrl
    refine ⟨c, rfl, ⟨_, SqL.of hc'⟩, compG (fun v => T (formOf (unT v))) (reads_list (SqL.of hc')) (by rw [List.length_map]; omega) (fun v H1 hv s1 N hN => ?_) fun D H1 hD s1 hd => ?_⟩
    · obtain ⟨x, hxm, rfl⟩ := List.mem_map.mp hv
      refine ⟨_, rfl, x, rfl, hx x (List.mem_cons_of_mem _ hxm), fun H2 s2 => ?_⟩
      have := hN H2 s2
      rwa [unT_T] at this
    rw [map_unT (f := fun l => T (formOf l)), show rt.map (fun l => T (formOf l)) = (rt.map formOf).map T by rw [List.map_map]; rfl] at hd
    have hfl := flat1 (ls := rt) formOf form_len
    refine ⟨rfl, D, rt.map formOf, rfl, SqL.of hd, (by omega), ?_⟩
    have e : (rt.map formOf).flatten = rowForm (h :: rt) := rfl
    rw [e] at hfl ⊢
    have s2 := s0.trans s1
    have hS2 := s2.seq hS
    have q2 := q H1 s2
    have hat : atI ((h :: rt).map T) 0 = some (T h) := atI_nat (j := 0) rfl
    have hh : (h :: rt).headD [] = h := rfl
    have ha : isAsk (h :: rt) = ((tabAt h asksD).isSome && decide (rowForm (h :: rt) ∈ (tabAt h asksD).getD [])) := by
      unfold isAsk
      rw [hh]
      cases tabAt h asksD <;> rfl
    unfold kindOf at q2
    rw [ha, hh] at q2
    generalize rowForm (h :: rt) = fm at hfl q2 ⊢
    (try dsimp only [gName, tSeq, tIfS, tNext])
    refine tAnd_is (tabAt h asksD).isSome (decide (fm ∈ (tabAt h asksD).getD [])) (fun N hN => ⟨_, rfl, p, _, _, _, rfl, rfl, hS2, hat, h, ad.ASKS, asksD, rfl, rfl, tt.k_asks, _, rfl, hN⟩) (fun hb N hN => ?_) ?_
    · obtain ⟨d, hd⟩ := Option.isSome_iff_exists.mp hb
      rw [hd] at hN
      refine ⟨_, rfl, _, rfl, p, _, _, _, rfl, rfl, hS2, hat, h, ad.ASKS, asksD, d, rfl, rfl, tt.k_asks, hd, fun b hb => ⟨b, _, rfl, .inr hb, rfl, flat_T d, _, rfl, ?_⟩⟩
      show N (inV (T fm) (d.map T)) H1
      rw [inV_T]
      exact hN
    refine ite2 (fun h0 => ?_) (fun h0 => ?_)
    · rw [if_pos h0] at q2
      exact q2
    rw [if_neg h0] at q2
    (try dsimp only [gName, tSeq, tIfS, tNext])
    refine tAnd_is (decide (h = [97, 108, 108])) (decide (fm = [110, 110])) (fun N hN => ⟨_, rfl, p, _, _, _, rfl, rfl, hS2, hat, _, rfl, _, rfl, _, rfl, hN⟩) (fun _ N hN => ⟨_, rfl, _, rfl, _, rfl, _, rfl, hN⟩) ?_
    rw [← Bool.decide_and]
    refine ite2 (fun h1 => ?_) (fun h1 => ?_)
    · rw [if_pos (of_decide_eq_true h1)] at q2
      exact q2
    rw [if_neg fun z => h1 (decide_eq_true z)] at q2
    (try dsimp only [gName, tSeq, tIfS, tNext])
    refine tAnd_is (decide (h = [98, 97, 114])) (decide (fm = [116])) (fun N hN => ⟨_, rfl, p, _, _, _, rfl, rfl, hS2, hat, _, rfl, _, rfl, _, rfl, hN⟩) (fun _ N hN => ⟨_, rfl, _, rfl, _, rfl, _, rfl, hN⟩) ?_
    rw [← Bool.decide_and]
    refine ite2 (fun h2 => ?_) (fun h2 => ?_)
    · rw [if_pos (of_decide_eq_true h2)] at q2
      exact q2
    rw [if_neg fun z => h2 (decide_eq_true z)] at q2
    (try dsimp only [gName, tSeq, tIfS, tNext])
    refine tAnd_is (decide (h = [119, 111, 114, 100, 115])) (decide (fm ≠ []) && decide (fm = Wd.rep fm.length [116])) (fun N hN => ⟨_, rfl, p, _, _, _, rfl, rfl, hS2, hat, _, rfl, _, rfl, _, rfl, hN⟩) (fun _ N hN => ?_) ?_
    · refine tAnd_is (decide (fm ≠ [])) (decide (fm = Wd.rep fm.length [116])) (fun N hN => ⟨_, rfl, _, rfl, _, rfl, _, rfl, ?_⟩) (fun _ N hN => ⟨_, rfl, _, rfl, fm, rfl, (by omega), _, rfl, fm.length, rfl, ⟨by omega, by show fm.length * 1 ≤ sizeLine; omega⟩, _, rfl, _, rfl, _, rfl, hN⟩) hN
      rw [decide_not] at hN
      exact hN
    rw [← Bool.decide_and, ← Bool.decide_and]
    refine ite2 (fun h3 => ?_) (fun h3 => ?_)
    · rw [if_pos (of_decide_eq_true h3)] at q2
      exact q2
    rw [if_neg fun z => h3 (decide_eq_true z)] at q2
    exact q2


noncomputable def chain : List Nat → List (List (List Nat)) → Bool
  | _, [] => true
  | a, r :: rs => match kindOf r with
    | some k => decide (a ∈ (tabAt k aheadD).getD []) && chain k rs
    | none => false
theorem chain_at : ∀ {a : List Nat} {rs : List (List (List Nat))} {i : Nat} {r : List (List Nat)}, chain a (rs.drop i) = true → rs[i]? = some r → ∃ k d, kindOf r = some k ∧ tabAt k aheadD = some d ∧ a ∈ d ∧ chain k (rs.drop (i + 1)) = true := by
  intro a rs i r h hr
  have hi := (List.getElem?_eq_some_iff.mp hr).1
  rw [List.drop_eq_getElem_cons hi, (List.getElem?_eq_some_iff.mp hr).2] at h
  unfold chain at h
  split at h
  · rename_i k hk
    rw [Bool.and_eq_true] at h
    have h1 := of_decide_eq_true h.1
    cases hd : tabAt k aheadD with
    | none => rw [hd] at h1; cases h1
    | some d => rw [hd] at h1; exact ⟨k, d, hk, hd, h1, h.2⟩
  · cases h
noncomputable def RowsOk (rs : List (List (List Nat))) : Prop := rs.length ≤ 100000 ∧ ∀ r ∈ rs, r ≠ [] ∧ r.length ≤ 100000 ∧ ∀ x ∈ r, x.length ≤ 100000
theorem lls_at {K : PySem.W.Frag} {H : Hp} {us : List (List (List Nat))} {bs : List Addr} (h : LLs K H us bs) : ∀ {i : Nat} {x : V}, (bs.map V.ref)[i]? = some x → ∃ b u, x = .ref b ∧ us[i]? = some u ∧ SqL K H b (u.map T) := by
  unfold LLs at h
  induction h with
  | nil => intro i x hx; cases hx
  | cons a _ ih =>
    intro i x hx
    cases i with
    | zero => obtain rfl := Option.some.inj hx; exact ⟨_, _, rfl, rfl, a⟩
    | succ i => exact ih hx
theorem lls_len {K : PySem.W.Frag} {H : Hp} {us : List (List (List Nat))} {bs : List Addr} (h : LLs K H us bs) : us.length = bs.length := by
  unfold LLs at h
  induction h with
  | nil => rfl
  | cons a _ ih => rw [List.length_cons, List.length_cons, ih]
noncomputable def spRows (K : PySem.W.Frag) : Sp := fun vs H Q _ => ∃ (p : Addr) (bs : List Addr) (rs : List (List (List Nat))), vs = [.ref p] ∧ SqL K H p (bs.map V.ref) ∧ LLs K H rs bs ∧ RowsOk rs ∧ chain [116, 111, 112] rs = true ∧ ∀ H', Same H H' → Q .non H'
theorem ok_looked_rows {f : Addr} {fd : FuncData} (F : Fun K "looked_rows" "looked_rows" s_looked_rows f fd) (tt : Txt K mg ad) (C_kind_of : Cal P w K mg base (CX1 P w) "kind_of" 4 ["row"] (spKind K)) : FnOk P w K mg base (CX1 P w) 5 f fd ["rows"] (spRows K) := by
  refine F.okX sc_looked_rows (fun vs H Q E h => ?_) (fun cdv A outer s H vs Q E hr h => ?_)
  · obtain ⟨p, bs, rs, rfl, _⟩ := h
    rfl
  · obtain ⟨p, bs, rs, rfl, hS, hL, hok, hch, q⟩ := h
    have hs : sizeLine = 16777216 := sizeLine_eq
    refine ⟨_, (pss_cons (ps_set (i := 1) sc_looked_rows.nd rfl (Or.inl rfl) (pe_strT [116, 111, 112] (by decide +kernel)))
      (pss_one (ps_for PassesOwn.leaving rfl (pi_enum1 (by rfl) tt.b_enumerate (pa_cons (pv 0) pa_nil)) (pg_tup rfl (pgs_cons (pg_name (i := 2) sc_looked_rows.nd rfl (Or.inl rfl)) (pgs_cons (pg_name (i := 3) sc_looked_rows.nd rfl (Or.inl rfl)) pgs_nil))) (pss_cons (ps_set (i := 4) sc_looked_rows.nd rfl (Or.inl rfl) (pe_cal C_kind_of hr pass1 (pa_cons (pv 3) pa_nil)))
      (pss_cons (ps_if (pt_cmpR op_notIn_seq (pv 1) (pe_tget2 (pe_glob (v := .ref ad.AHEAD) (by rfl) tt.m_AHEAD rfl) (pv 4) (pe_tup pa_nil) ⟨rfl, rfl, rfl, rfl⟩) (by with_unfolding_all rfl)) (pss_one ps_false) pss_nil)
      (pss_one (ps_set (i := 1) sc_looked_rows.nd rfl (Or.inl rfl) (pv 4)))))))), ?_⟩
    (try rw [cxK2]); (try rw [cxK1])
    refine ⟨_, rfl, p, rfl, ⟨_, hS⟩, ?_⟩
    refine for_enum1 (K := K) (a := p) (xs := bs.map V.ref) (fun i σ H2 => Same H H2 ∧ ∃ (a : List Nat) (v1 v2 v3 : Option V), chain a (rs.drop i) = true ∧ σ = [some (.ref p), some (T a), v1, v2, v3]) ⟨Same.refl _, _, none, none, none, hch, rfl⟩ (fun i σ H2 _ h => h.1.seq hS) ?_ ?_
    · rintro i x D σ H2 hx hD ⟨s2, a, v1, v2, v3, hc, rfl⟩
      obtain ⟨b, r, rfl, hr, hb⟩ := lls_at hL hx
      obtain ⟨k, d, hk, hd, had, hc2⟩ := chain_at hc hr
      obtain ⟨hne, hrl, hxl⟩ := hok.2 r (List.mem_of_getElem? hr)
      have t2 := same_upd (o := .tup [.int ((i + 1 : Nat) : Int), .ref b]) hD
      refine ⟨D, _, rfl, SqT.of upd_same, rfl, _, _, rfl, _, _, rfl, rfl, ?_⟩
      refine ⟨_, rfl, b, r, rfl, (s2.trans t2).seq hb, hne, hrl, hxl, fun H3 s3 => ?_⟩
      rw [hk]
      refine ⟨_, rfl, ad.AHEAD, aheadD, rfl, tt.k_ahead, _, rfl, (by show 0 ≤ sizeLine; omega), fun e he => ⟨k, rfl, ?_⟩⟩
      rw [hd]
      refine fun g hg => ⟨g, _, rfl, .inr hg, rfl, flat_T d, _, rfl, ?_⟩
      refine itN (by show ¬ (!inV (T a) (d.map T)) = true; rw [inV_T, decide_eq_true had]; exact Bool.false_ne_true) ?_
      exact ⟨_, rfl, s2.trans (t2.trans (s3.trans (same_upd he))), k, _, _, _, hc2, rfl⟩
    · rintro σ H2 ⟨s2, a, v1, v2, v3, hc, rfl⟩
      exact q H2 s2


noncomputable def spTotal : Sp := fun vs H Q _ => ∃ n k : Nat, vs = [.int (n : Nat), .int (k : Nat)] ∧ (n ≤ 1000 ∧ k ≤ 1000) ∧ Q (.int ((k ^ n : Nat) : Int)) H

theorem ok_word_total {f : Addr} {fd : FuncData} (F : Fun K "word_total" "word_total" s_word_total f fd) (tt : Txt K mg ad) : FnOk P w K mg base (CX1 P w) 1 f fd ["length", "kinds"] spTotal := by
  refine F.okN sc_word_total (fun vs H Q E h => ?_) (fun cdv A outer s H vs Q E hr h => ?_)
  · obtain ⟨n, k, rfl, _⟩ := h
    rfl
  · obtain ⟨n, k, rfl, hn, q⟩ := h
    refine ⟨_, (pss_cons (ps_set (i := 2) sc_word_total.nd rfl (Or.inl rfl) pe_int)
      (pss_cons (ps_for PassesOwn.never rfl (pi_range1 (by rfl) tt.b_range (pa_cons (pv 0) pa_nil)) (pg_name (i := 3) sc_word_total.nd rfl (Or.inl rfl)) (pss_one (ps_set (i := 2) sc_word_total.nd rfl (Or.inl rfl) (pe_op op_mul (pv 2) (pv 1)))))
      (pss_one (ps_ret (pv 2))))), ?_⟩
    (try rw [cxK2]); (try rw [cxK1])
    refine ⟨_, rfl, _, rfl, by omega, by omega, ?_⟩
    rw [Int.toNat_natCast]
    refine for_range (fun i σ H2 => H2 = H ∧ ∃ v, σ = [some (.int (n : Nat)), some (.int (k : Nat)), some (.int ((k ^ i : Nat) : Int)), v]) ⟨rfl, none, rfl⟩ ?_ ?_
    · rintro i σ H2 hi ⟨rfl, v, rfl⟩
      refine ⟨_, rfl, _, rfl, _, _, rfl, rfl, .inr ⟨by omega, by omega⟩, ?_⟩
      refine ⟨rfl, some (.int (0 + (i : Int))), ?_⟩
      rw [Nat.pow_succ, Int.natCast_mul]
      rfl
    · rintro σ H2 ⟨rfl, v, rfl⟩
      exact ⟨_, rfl, q⟩

noncomputable def spSpell : Sp := fun vs H Q _ => ∃ N n k : Nat, vs = [.int (N : Nat), .int (n : Nat), .int (k : Nat)] ∧ (n ≤ 1000 ∧ 1 ≤ k ∧ k ≤ 6) ∧ ∀ H', Same H H' → Q (T (Wd.spell k n N)) H'
theorem ok_spelled {f : Addr} {fd : FuncData} (F : Fun K "spelled" "spelled" s_spelled f fd) (tt : Txt K mg ad) : FnOk P w K mg base (CX1 P w) 1 f fd ["number", "length", "kinds"] spSpell := by
  refine F.okN sc_spelled (fun vs H Q E h => ?_) (fun cdv A outer s H vs Q E hr h => ?_)
  · obtain ⟨N, n, k, rfl, _⟩ := h
    rfl
  · obtain ⟨N, n, k, rfl, hn, q⟩ := h
    have hs : sizeLine = 16777216 := sizeLine_eq
    refine ⟨_, (pss_cons (ps_set (i := 3) sc_spelled.nd rfl (Or.inl rfl) (pe_lst pa_nil))
      (pss_cons (ps_set (i := 4) sc_spelled.nd rfl (Or.inl rfl) (pv 0))
      (pss_cons (ps_for PassesOwn.never rfl (pi_range1 (by rfl) tt.b_range (pa_cons (pv 1) pa_nil)) (pg_name (i := 5) sc_spelled.nd rfl (Or.inl rfl)) (pss_cons (ps_expr (pe_bm PySem.F.plainAttrs_list PySem.F.slot_list_append PySem.F.type_list_append mt_append (pv 3) (pa_cons (pe_ix ix_T (pe_glob (by rfl) tt.g_LETTERS tt.r_LETTERS) (pe_op op_mod (pv 4) (pv 2)) (fun _ _ => rfl)) pa_nil)))
      (pss_one (ps_set (i := 4) sc_spelled.nd rfl (Or.inl rfl) (pe_op op_fdiv (pv 4) (pv 2))))))
      (pss_one (ps_ret (pe_joinrev rfl (by rfl) tt.b_reversed (pv 3) (by decide +kernel))))))), ?_⟩
    (try rw [cxK2]); (try rw [cxK1])
    refine ⟨(by show 0 ≤ sizeLine; omega), fun D hD => ?_⟩
    refine ⟨_, rfl, ?_⟩
    refine ⟨_, rfl, _, rfl, by omega, by omega, ?_⟩
    rw [Int.toNat_natCast]
    refine for_range (fun i σ H2 => Same H H2 ∧ H2 D = some (.lst (((List.range i).map fun j => [97 + N / k ^ j % k]).map T)) ∧ ∃ v, σ = [some (.int (N : Nat)), some (.int (n : Nat)), some (.int (k : Nat)), some (.ref D), some (.int ((N / k ^ i : Nat) : Int)), v])
      ⟨(fun b o e => by rw [upd_ne (ne_of_none e hD)]; exact e), upd_same, none, by rw [Nat.pow_zero, Nat.div_one]; rfl⟩ ?_ ?_
    · rintro i σ H2 hi ⟨s2, hd, v, rfl⟩
      have hm := Nat.mod_lt (N / k ^ i) (show 0 < k by omega)
      have hat : atI [97, 98, 99, 100, 101, 102] (((N / k ^ i : Nat) : Int) % ((k : Nat) : Int)) = some (97 + N / k ^ i % k) := by
        rw [← Int.natCast_emod]
        exact atI_nat (abc6 (by omega))
      refine ⟨_, rfl, .inl ⟨rfl, _, SqL.of hd⟩, _, rfl, _, rfl, _, _, rfl, rfl, (by show (0 : Int) < ((k : Nat) : Int); omega), _, rfl, _, rfl, (by show 6 ≤ sizeLine; omega), _, hat, D, _, _, rfl, rfl, hd, (by rw [List.length_map, List.length_map, List.length_range]; omega), ?_⟩
      refine ⟨_, rfl, _, rfl, _, _, rfl, rfl, ⟨by omega, by omega⟩, ?_⟩
      refine ⟨(fun b o e => by rw [upd_ne (ne_of_none e hD)]; exact s2 b o e), ?_, some (.int (0 + (i : Int))), ?_⟩
      · rw [List.range_succ, List.map_append, List.map_append]
        exact upd_same
      · rw [Nat.pow_succ, ← Nat.div_div_eq_div_mul, Int.natCast_ediv]
        rfl
    · rintro σ H2 ⟨s2, hd, v, rfl⟩
      refine ⟨_, rfl, D, _, rfl, SqL.of hd, ?_, ?_⟩
      · rw [ones_rev, List.length_map, List.length_range]
        omega
      · rw [← List.map_reverse, ones_rev, List.map_reverse, Wd.spell_rev]
        exact q H2 s2


noncomputable def spAllX (ad : Adr) : Sp := fun vs H Q E => ∃ n k : Int, vs = [.int n, .int k] ∧ (¬ (1 ≤ k ∧ k ≤ 6) → E (.ref ad.BadKinds) none H) ∧ ((1 ≤ k ∧ k ≤ 6) → ¬ (1 ≤ n ∧ n ≤ 24) → E (.ref ad.BadWord) none H) ∧
  ∀ kn nn : Nat, k = (kn : Nat) → n = (nn : Nat) → (1 ≤ kn ∧ kn ≤ 6) → (1 ≤ nn ∧ nn ≤ 24) → (4096 < kn ^ nn → E (.ref ad.TooMany) none H) ∧ (kn ^ nn ≤ 4096 → ∀ D H', H D = none → Same H H' → H' D = some (.lst ((Wd.allW kn nn).map T)) → Q (.ref D) H')
theorem ok_all_words {f : Addr} {fd : FuncData} (F : Fun K "all_words" "all_words" s_all_words f fd) (tt : Txt K mg ad) (C_looked_length : Cal P w K mg base (CX1 P w) "looked_length" 2 ["length", "kinds"] (spLenX ad))
    (C_word_total : Cal P w K mg base (CX1 P w) "word_total" 1 ["length", "kinds"] spTotal) (C_spelled : Cal P w K mg base (CX1 P w) "spelled" 1 ["number", "length", "kinds"] spSpell) : FnOk P w K mg base (CX1 P w) 3 f fd ["length", "kinds"] (spAllX ad) := by
  refine F.okX sc_all_words (fun vs H Q E h => ?_) (fun cdv A outer s H vs Q E hr h => ?_)
  · obtain ⟨n, k, rfl, _⟩ := h
    rfl
  · obtain ⟨n, k, rfl, x1, x2, q⟩ := h
    have hs : sizeLine = 16777216 := sizeLine_eq
    refine ⟨_, (pss_cons (ps_expr (pe_cal C_looked_length hr passX (pa_cons (pv 0) (pa_cons (pv 1) pa_nil))))
      (pss_cons (ps_set (i := 2) sc_all_words.nd rfl (Or.inl rfl) (pe_cal C_word_total hr pass1 (pa_cons (pv 0) (pa_cons (pv 1) pa_nil))))
      (pss_cons (ps_if (pt_cmpR op_gt (pv 2) (pe_glob (by rfl) tt.g_MOST_WORDS tt.r_MOST_WORDS) (nomark _)) (pss_one (ps_raise (E := fun cls H' => E cls none H') tt.x_TooMany rfl (fun _ _ _ _ _ _ _ I hx q => raiseX I hx q) (pa_cons pe_str pa_nil))) pss_nil)
      (pss_one (ps_ret (pe_comp cs_all_words_0 rfl (pi_range1 (by rfl) tt.b_range (pa_cons (pv 2) pa_nil)) (fun cl C s' H' fp => (pe_cal C_spelled hr pass1 (pa_cons (pv 0) (pa_cons (pv 1) (pa_cons (pv 2) pa_nil))))))))))), ?_⟩
    (try rw [cxK2]); (try rw [cxK1])
    refine ⟨_, rfl, _, rfl, n, k, rfl, fun hk hn => ?_, x1, x2⟩
    obtain ⟨kn, rfl⟩ : ∃ kn : Nat, k = (kn : Nat) := ⟨k.toNat, by omega⟩
    obtain ⟨nn, rfl⟩ : ∃ nn : Nat, n = (nn : Nat) := ⟨n.toNat, by omega⟩
    obtain ⟨q1, q2⟩ := q kn nn rfl rfl ⟨by omega, by omega⟩ ⟨by omega, by omega⟩
    refine ⟨_, rfl, _, rfl, nn, kn, rfl, ⟨by omega, by omega⟩, ?_⟩
    refine ⟨_, rfl, _, _, rfl, rfl, _, rfl, ?_⟩
    refine ite2 (fun h0 => ?_) (fun h0 => ?_)
    · have h1 : (4096 : Int) < ((kn ^ nn : Nat) : Int) := of_decide_eq_true h0
      exact ⟨(by show 1 ≤ sizeLine; omega), q1 (by omega)⟩
    · have h1 : ¬ (4096 : Int) < ((kn ^ nn : Nat) : Int) := fun z => h0 (decide_eq_true z)
      refine ⟨_, rfl, _, rfl, by omega, by omega, ?_⟩
      rw [Int.toNat_natCast]
      refine comp_range (lo := 0) (n := kn ^ nn) (fun i => T (Wd.spell kn nn i)) (by omega) (fun i H4 hi s4 N hN => ?_) fun D H4 hD s4 hd4 => ?_
      · exact ⟨_, rfl, _, rfl, _, rfl, i, nn, kn, congrArg (fun z => [V.int z, V.int _, V.int _]) (Int.zero_add _), ⟨by omega, by omega, by omega⟩, fun H5 s5 => hN H5 s5⟩
      · exact q2 (by omega) D H4 hD s4 (by rw [hd4, Wd.allW, List.map_map]; rfl)

noncomputable def spSizeX (ad : Adr) : Sp := fun vs H Q E => ∃ n k : Int, vs = [.int n, .int k] ∧ (¬ (1 ≤ k ∧ k ≤ 6) → E (.ref ad.BadKinds) none H) ∧ ((1 ≤ k ∧ k ≤ 6) → ¬ (1 ≤ n ∧ n ≤ 8) → E (.ref ad.BadWord) none H) ∧
  ∀ kn nn : Nat, k = (kn : Nat) → n = (nn : Nat) → (1 ≤ kn ∧ kn ≤ 6) → (1 ≤ nn ∧ nn ≤ 8) → (64 < kn ^ nn → E (.ref ad.TooMany) none H) ∧ (kn ^ nn ≤ 64 → Q .non H)
theorem ok_looked_size {f : Addr} {fd : FuncData} (F : Fun K "looked_size" "looked_size" s_looked_size f fd) (tt : Txt K mg ad) (C_looked_kinds : Cal P w K mg base (CX1 P w) "looked_kinds" 1 ["kinds"] (spKindsX ad)) (C_word_total : Cal P w K mg base (CX1 P w) "word_total" 1 ["length", "kinds"] spTotal) :
    FnOk P w K mg base (CX1 P w) 2 f fd ["length", "kinds"] (spSizeX ad) := by
  refine F.okX sc_looked_size (fun vs H Q E h => ?_) (fun cdv A outer s H vs Q E hr h => ?_)
  · obtain ⟨n, k, rfl, _⟩ := h
    rfl
  · obtain ⟨n, k, rfl, x1, x2, q⟩ := h
    have hs : sizeLine = 16777216 := sizeLine_eq
    refine ⟨_, (pss_cons (ps_expr (pe_cal C_looked_kinds hr passX (pa_cons (pv 1) pa_nil)))
      (pss_cons (ps_if (PW.pt (pw_or (pt_cmpR op_lt (pv 0) pe_int (nomark _)) (pw_or1 (pt_cmpR op_gt (pv 0) (pe_glob (by rfl) tt.g_LONGEST_OF_A_RULE tt.r_LONGEST_OF_A_RULE) (nomark _))))) (pss_one (ps_raise (E := fun cls H' => E cls none H') tt.x_BadWord rfl (fun _ _ _ _ _ _ _ I hx q => raiseX I hx q) (pa_cons pe_str pa_nil))) pss_nil)
      (pss_one (ps_if (pt_cmpR op_gt (pe_cal C_word_total hr pass1 (pa_cons (pv 0) (pa_cons (pv 1) pa_nil))) (pe_glob (by rfl) tt.g_MOST_OF_A_RULE tt.r_MOST_OF_A_RULE) (nomark _)) (pss_one (ps_raise (E := fun cls H' => E cls none H') tt.x_TooMany rfl (fun _ _ _ _ _ _ _ I hx q => raiseX I hx q) (pa_cons pe_str pa_nil))) pss_nil)))), ?_⟩
    (try rw [cxK2]); (try rw [cxK1])
    refine ⟨_, rfl, k, rfl, fun hk => ?_, x1⟩
    refine ⟨_, rfl, _, _, rfl, rfl, _, rfl, ?_⟩
    refine ite2 (fun h0 => iteT ?_) (fun h0 => ?_)
    · have h1 : n < 1 := of_decide_eq_true h0
      exact ⟨(by show 1 ≤ sizeLine; omega), x2 hk fun z => by omega⟩
    have h1 : ¬ n < 1 := fun z => h0 (decide_eq_true z)
    refine ⟨_, rfl, _, _, rfl, rfl, _, rfl, ?_⟩
    refine ite2 (fun h2 => ?_) (fun h2 => ?_)
    · have h3 : (8 : Int) < n := of_decide_eq_true h2
      exact ⟨(by show 1 ≤ sizeLine; omega), x2 hk fun z => by omega⟩
    have h3 : ¬ (8 : Int) < n := fun z => h2 (decide_eq_true z)
    obtain ⟨kn, rfl⟩ : ∃ kn : Nat, k = (kn : Nat) := ⟨k.toNat, by omega⟩
    obtain ⟨nn, rfl⟩ : ∃ nn : Nat, n = (nn : Nat) := ⟨n.toNat, by omega⟩
    obtain ⟨q1, q2⟩ := q kn nn rfl rfl ⟨by omega, by omega⟩ ⟨by omega, by omega⟩
    refine ⟨_, rfl, _, rfl, nn, kn, rfl, ⟨by omega, by omega⟩, _, _, rfl, rfl, _, rfl, ?_⟩
    refine ite2 (fun h4 => ?_) (fun h4 => ?_)
    · have h5 : (64 : Int) < ((kn ^ nn : Nat) : Int) := of_decide_eq_true h4
      exact ⟨(by show 1 ≤ sizeLine; omega), q1 (by omega)⟩
    · have h5 : ¬ (64 : Int) < ((kn ^ nn : Nat) : Int) := fun z => h4 (decide_eq_true z)
      exact q2 (by omega)



noncomputable def toldW (rs : List (List (List Nat))) : List (List Nat) := (rs.filter fun r => decide (r.headD [] = [119, 111, 114, 100, 115])).flatMap (·.drop 1)
noncomputable def spTold (K : PySem.W.Frag) : Sp := fun vs H Q _ => ∃ (p : Addr) (bs : List Addr) (rs : List (List (List Nat))), vs = [.ref p] ∧ SqL K H p (bs.map V.ref) ∧ LLs K H rs bs ∧ RowsOk rs ∧ rs ≠ [] ∧
  ((∃ (a b : List Nat) (n k : Nat), rs.head? = some [[97, 108, 108], a, b] ∧ (a.length ≤ 640 ∧ b.length ≤ 640) ∧ PySem.intText? (tx a) = some (n : Nat) ∧ PySem.intText? (tx b) = some (k : Nat) ∧ (1 ≤ k ∧ k ≤ 6) ∧ (1 ≤ n ∧ n ≤ 8) ∧ k ^ n ≤ 64 ∧ ∀ D H', Same H H' → H' D = some (.lst ((Wd.allW k n).map T)) → Q (.ref D) H') ∨
  ((rs.headD []).headD [] ≠ [97, 108, 108] ∧ (toldW rs).length ≤ 100000 ∧ ∀ D H', Same H H' → H' D = some (.lst ((toldW rs).map T)) → Q (.ref D) H'))
theorem toldW_snoc {rs : List (List (List Nat))} {i : Nat} {r : List (List Nat)} (h : rs[i]? = some r) : toldW (rs.take (i + 1)) = toldW (rs.take i) ++ if r.headD [] = [119, 111, 114, 100, 115] then r.drop 1 else [] := by
  unfold toldW
  rw [List.take_add_one, h, List.filter_append, List.flatMap_append]
  congr 1
  show (([r].filter _).flatMap _) = _
  by_cases hw : r.headD [] = [119, 111, 114, 100, 115]
  · rw [List.filter_cons, if_pos (decide_eq_true hw), if_pos hw]
    simp
  · rw [List.filter_cons, if_neg (by rw [decide_eq_false hw]; exact Bool.false_ne_true), if_neg hw]
    rfl
theorem toldW_le {rs : List (List (List Nat))} (i : Nat) : (toldW (rs.take i)).length ≤ (toldW rs).length := by
  have e : toldW rs = toldW (rs.take i) ++ toldW (rs.drop i) := by
    unfold toldW
    rw [← List.flatMap_append, ← List.filter_append, List.take_append_drop]
  rw [e, List.length_append]
  exact Nat.le_add_right _ _
theorem ok_told_words {f : Addr} {fd : FuncData} (F : Fun K "told_words" "told_words" s_told_words f fd) (tt : Txt K mg ad) (C_looked_size : Cal P w K mg base (CX1 P w) "looked_size" 2 ["length", "kinds"] (spSizeX ad)) (C_all_words : Cal P w K mg base (CX1 P w) "all_words" 3 ["length", "kinds"] (spAllX ad)) : FnOk P w K mg base (CX1 P w) 4 f fd ["rows"] (spTold K) := by
  refine F.okX sc_told_words (fun vs H Q E h => ?_) (fun cdv A outer s H vs Q E hr h => ?_)
  · obtain ⟨p, bs, rs, rfl, _⟩ := h
    rfl
  · obtain ⟨p, bs, rs, rfl, hS, hL, hok, hne, hq⟩ := h
    have hs : sizeLine = 16777216 := sizeLine_eq
    refine ⟨_, (pss_cons (ps_if (pt_cmpR op_eq_T (pe_ix ix_list (pe_ix ix_list (pv 0) pe_int (fun _ _ => rfl)) pe_int (fun _ _ => rfl)) (pe_strT [97, 108, 108] (by decide +kernel)) (nomark _)) (pss_cons (ps_set (i := 1) sc_told_words.nd rfl (Or.inl rfl) (pe_callTy call_intT (by rfl) tt.b_int (by decide +kernel) (pa_cons (pe_ix ix_list (pe_ix ix_list (pv 0) pe_int (fun _ _ => rfl)) pe_int (fun _ _ => rfl)) pa_nil)))
      (pss_cons (ps_set (i := 2) sc_told_words.nd rfl (Or.inl rfl) (pe_callTy call_intT (by rfl) tt.b_int (by decide +kernel) (pa_cons (pe_ix ix_list (pe_ix ix_list (pv 0) pe_int (fun _ _ => rfl)) pe_int (fun _ _ => rfl)) pa_nil)))
      (pss_cons (ps_expr (pe_cal C_looked_size hr passX (pa_cons (pv 1) (pa_cons (pv 2) pa_nil))))
      (pss_one (ps_ret (pe_cal C_all_words hr passX (pa_cons (pv 1) (pa_cons (pv 2) pa_nil)))))))) pss_nil)
      (pss_cons (ps_set (i := 3) sc_told_words.nd rfl (Or.inl rfl) (pe_lst pa_nil))
      (pss_cons (ps_for PassesOwn.leaving rfl (pi_list (pv 0)) (pg_name (i := 4) sc_told_words.nd rfl (Or.inl rfl)) (pss_one (ps_if (pt_cmpR op_eq_T (pe_ix ix_list (pv 4) pe_int (fun _ _ => rfl)) (pe_strT [119, 111, 114, 100, 115] (by decide +kernel)) (nomark _)) (pss_one (ps_expr (pe_bm PySem.F.plainAttrs_list PySem.F.slot_list_extend PySem.F.type_list_extend mt_extend (pv 3) (pa_cons (pe_slice sl_list (pv 4) (po_some pe_int) po_none) pa_nil)))) pss_nil)))
      (pss_one (ps_ret (pv 3)))))), ?_⟩
    (try rw [cxK2]); (try rw [cxK1])
    obtain ⟨r0, rs', rfl⟩ : ∃ r rs', rs = r :: rs' := by cases rs with | nil => exact absurd rfl hne | cons a b => exact ⟨a, b, rfl⟩
    obtain ⟨b0, bs', rfl⟩ : ∃ b bs', bs = b :: bs' := by have := lls_len hL; cases bs with | nil => cases this | cons a b => exact ⟨a, b, rfl⟩
    obtain ⟨b1, r1, e1, e2, hb0⟩ := lls_at hL (i := 0) rfl
    cases e1
    cases e2
    have ha0 : atI ((b0 :: bs').map V.ref) 0 = some (.ref b0) := atI_nat (j := 0) rfl
    obtain ⟨h0ne, _⟩ := hok.2 r0 (List.mem_cons_self ..)
    obtain ⟨h, rt, rfl⟩ : ∃ h rt, r0 = h :: rt := by cases r0 with | nil => exact absurd rfl h0ne | cons a b => exact ⟨a, b, rfl⟩
    have hat : atI ((h :: rt).map T) 0 = some (T h) := atI_nat (j := 0) rfl
    refine ⟨_, rfl, p, _, _, _, rfl, rfl, hS, ha0, b0, _, _, _, rfl, rfl, hb0, hat, _, rfl, _, rfl, _, rfl, ?_⟩
    rcases hq with ⟨a, b, n, k, e, ⟨hal, hbl⟩, hna, hkb, hk, hn, hkn, q⟩ | ⟨hno, hlen, q⟩
    · obtain ⟨rfl, rfl⟩ : h = [97, 108, 108] ∧ rt = [a, b] := by
        have := Option.some.inj e
        exact ⟨(List.cons.inj this).1, (List.cons.inj this).2⟩
      refine itP (decide_eq_true rfl) ?_
      refine ⟨_, rfl, p, _, _, _, rfl, rfl, hS, ha0, b0, _, _, _, rfl, rfl, hb0, atI_nat (j := 1) rfl, a, _, rfl, hal, hna, ?_⟩
      refine ⟨_, rfl, p, _, _, _, rfl, rfl, hS, ha0, b0, _, _, _, rfl, rfl, hb0, atI_nat (j := 2) rfl, b, _, rfl, hbl, hkb, ?_⟩
      refine ⟨_, rfl, _, rfl, _, _, rfl, fun z => absurd ⟨by omega, by omega⟩ z, fun _ z => absurd ⟨by omega, by omega⟩ z, fun kn nn ek en _ _ => ?_⟩
      obtain rfl : k = kn := by omega
      obtain rfl : n = nn := by omega
      refine ⟨fun z => absurd hkn (by omega), fun _ => ?_⟩
      refine ⟨_, rfl, _, rfl, _, _, rfl, fun z => absurd ⟨by omega, by omega⟩ z, fun _ z => absurd ⟨by omega, by omega⟩ z, fun kn nn ek en _ _ => ?_⟩
      obtain rfl : k = kn := by omega
      obtain rfl : n = nn := by omega
      exact ⟨fun z => absurd hkn (by omega), fun _ D H' _ s1 hd => q D H' s1 hd⟩
    · have hno' : ¬ h = [97, 108, 108] := hno
      refine itN (by rw [decide_eq_false hno']; exact Bool.false_ne_true) ?_
      refine ⟨(by show 0 ≤ sizeLine; omega), fun D hD => ?_⟩
      have s0 := same_upd (o := .lst []) hD
      have hd0 : upd H D (.lst []) D = some (.lst []) := upd_same
      generalize upd H D (.lst []) = G at s0 hd0 ⊢
      refine ⟨_, rfl, p, rfl, ⟨_, s0.seq hS⟩, ?_⟩
      refine for_list (K := K) (a := p) (xs := (b0 :: bs').map V.ref) (fun i σ H2 => Same H H2 ∧ H2 D = some (.lst ((toldW (((h :: rt) :: rs').take i)).map T)) ∧ ∃ v : Option V, σ = [some (.ref p), none, none, some (.ref D), v]) ⟨s0, hd0, none, rfl⟩ (fun i σ H2 _ h => h.1.seq hS) ?_ ?_
      · rintro i x σ H2 hx ⟨s2, hd2, v, rfl⟩
        obtain ⟨b, r, rfl, hr', hb⟩ := lls_at hL hx
        obtain ⟨hrne, hrl, _⟩ := hok.2 r (List.mem_of_getElem? hr')
        have et := toldW_snoc hr'
        have hle := toldW_le (rs := (h :: rt) :: rs') (i + 1)
        obtain ⟨h2, rt2, rfl⟩ : ∃ h rt, r = h :: rt := by cases r with | nil => exact absurd rfl hrne | cons a b => exact ⟨a, b, rfl⟩
        refine ⟨_, rfl, b, _, _, _, rfl, rfl, s2.seq hb, atI_nat (j := 0) rfl, _, rfl, _, rfl, _, rfl, ?_⟩
        refine ite2 (fun z0 => ?_) (fun z0 => ?_)
        · rw [if_pos (show (h2 :: rt2).headD [] = _ from of_decide_eq_true z0)] at et
          refine ⟨_, rfl, .inl ⟨rfl, _, SqL.of hd2⟩, _, rfl, _, rfl, b, _, rfl, s2.seq hb, fun c hc => ?_⟩
          rw [show cutV ((h2 :: rt2).map T) (some 1) none = rt2.map T from cutV_from (ls := h2 :: rt2) (k := 1) (by show 1 ≤ rt2.length + 1; omega)]
          have s3 := same_upd (o := .lst (rt2.map T)) hc
          have hc' : upd H2 c (.lst (rt2.map T)) c = some (.lst (rt2.map T)) := upd_same
          generalize upd H2 c (.lst (rt2.map T)) = G3 at s3 hc' ⊢
          rw [et, List.length_append, show (h2 :: rt2).drop 1 = rt2 from rfl] at hle
          refine ⟨D, c, _, _, rfl, rfl, s3 D _ hd2, hc', (by rw [List.length_map, List.length_map]; omega), fun e o z => ?_, ?_, _, rfl⟩
          · rw [upd_ne (ne_of_none z hD)]
            exact s3 e o (s2 e o z)
          · rw [upd_same, et, List.map_append]
            rfl
        · rw [if_neg (show ¬ (h2 :: rt2).headD [] = _ from fun z => z0 (decide_eq_true z)), List.append_nil] at et
          exact ⟨s2, by rw [et]; exact hd2, _, rfl⟩
      · rintro σ H2 ⟨s2, hd2, v, rfl⟩
        rw [List.length_map, ← lls_len hL, List.take_length] at hd2
        exact ⟨_, rfl, q D H2 s2 hd2⟩


noncomputable def pageRows (t : List Nat) : List (List (List Nat)) := (spl 10 t).map (spl 32)
noncomputable def sub (a b : List Nat) : Bool := !(Builtin.Str.occurrences (tx b) (tx a) 0 (tx b).length 1).isEmpty
noncomputable def barsOf (rs : List (List (List Nat))) : List (List Nat) := (rs.filter fun r => decide (r.headD [] = [98, 97, 114])).map fun r => r.getD 1 []
noncomputable def keptW (rs : List (List (List Nat))) (ws : List (List Nat)) : List (List Nat) := ws.filter fun w => !(barsOf rs).any fun b => sub b w
noncomputable def asksOf (rs : List (List (List Nat))) : List (List (List Nat)) := rs.filter fun r => (tabAt (r.headD []) asksD).isSome
noncomputable def Told (rs : List (List (List Nat))) (ws : List (List Nat)) : Prop :=
  (∃ (a b : List Nat) (n k : Nat), rs.head? = some [[97, 108, 108], a, b] ∧ (a.length ≤ 640 ∧ b.length ≤ 640) ∧ PySem.intText? (tx a) = some (n : Nat) ∧ PySem.intText? (tx b) = some (k : Nat) ∧ (1 ≤ k ∧ k ≤ 6) ∧ (1 ≤ n ∧ n ≤ 8) ∧ k ^ n ≤ 64 ∧ ws = Wd.allW k n) ∨
  ((rs.headD []).headD [] ≠ [97, 108, 108] ∧ (toldW rs).length ≤ 100000 ∧ ws = toldW rs)
theorem Told.q {H : Hp} {Q : Addr → Hp → Prop} {rs : List (List (List Nat))} {ws : List (List Nat)} (h : Told rs ws) (q : ∀ D H', Same H H' → H' D = some (.lst (ws.map T)) → Q D H') :
    (∃ (a b : List Nat) (n k : Nat), rs.head? = some [[97, 108, 108], a, b] ∧ (a.length ≤ 640 ∧ b.length ≤ 640) ∧ PySem.intText? (tx a) = some (n : Nat) ∧ PySem.intText? (tx b) = some (k : Nat) ∧ (1 ≤ k ∧ k ≤ 6) ∧ (1 ≤ n ∧ n ≤ 8) ∧ k ^ n ≤ 64 ∧ ∀ D H', Same H H' → H' D = some (.lst ((Wd.allW k n).map T)) → Q D H') ∨
    ((rs.headD []).headD [] ≠ [97, 108, 108] ∧ (toldW rs).length ≤ 100000 ∧ ∀ D H', Same H H' → H' D = some (.lst ((toldW rs).map T)) → Q D H') := by
  rcases h with ⟨a, b, n, k, e1, e2, e3, e4, e5, e6, e7, rfl⟩ | ⟨e1, e2, rfl⟩
  · exact .inl ⟨a, b, n, k, e1, e2, e3, e4, e5, e6, e7, q⟩
  · exact .inr ⟨e1, e2, q⟩
theorem bar_two : ∀ {rs : List (List (List Nat))} {a : List Nat}, chain a rs = true → ∀ r ∈ rs, r.headD [] = [98, 97, 114] → 2 ≤ r.length
  | [], _, _, r, hr, _ => by cases hr
  | r0 :: rs, a, h, r, hr, hb => by
    unfold chain at h
    split at h
    · rename_i k hk
      rw [Bool.and_eq_true] at h
      rcases List.mem_cons.mp hr with rfl | hr
      · rcases Nat.lt_or_ge r.length 2 with z | z
        · exfalso
          have hf : rowForm r = [] := by
            unfold rowForm
            rw [List.drop_eq_nil_of_le (by omega)]
            rfl
          have ha : isAsk r = false := by
            unfold isAsk
            rw [hb]
            rfl
          unfold kindOf at hk
          rw [ha, hb, hf] at hk
          simp at hk
        · exact z
      · exact bar_two h.2 r hr hb
    · cases h
noncomputable def unL (H : Hp) (v : V) : List (List Nat) := (rdL H v).map unT
theorem unL_at {H : Hp} {b : Addr} {u : List (List Nat)} (h : H b = some (.lst (u.map T))) : unL H (.ref b) = u := by
  unfold unL
  rw [rdL_at h, List.map_map]
  exact (List.map_congr_left fun x _ => unT_T x).trans (List.map_id _)
theorem rows_read {H : Hp} {rs : List (List (List Nat))} {bs : List Addr} (h : Dt.R2 (fun r b => H b = some (.lst (r.map T))) rs bs) {α : Type} (p : List (List Nat) → Bool) (f : List (List Nat) → α) : (((bs.map V.ref).filter fun v => p (unL H v)).map fun v => f (unL H v)) = (rs.filter p).map f := by
  induction h with
  | nil => rfl
  | @cons r b rs bs h _ ih =>
    rw [List.map_cons, List.filter_cons, List.filter_cons, unL_at h]
    cases hp : p r with
    | true => rw [if_pos rfl, if_pos rfl, List.map_cons, List.map_cons, unL_at h, ih]
    | false => rw [if_neg Bool.false_ne_true, if_neg Bool.false_ne_true, ih]
theorem spl_len (c : Nat) : ∀ (t : List Nat), ∀ x ∈ spl c t, x.length ≤ t.length
  | [], x, hx => by
    rcases List.mem_singleton.mp hx with rfl
    exact Nat.le_refl _
  | a :: t, x, hx => by
    have ih := spl_len c t
    unfold spl at hx
    split at hx
    · rcases List.mem_cons.mp hx with rfl | hx
      · exact Nat.zero_le _
      · exact Nat.le_succ_of_le (ih x hx)
    · split at hx
      · rename_i h r e
        rcases List.mem_cons.mp hx with rfl | hx
        · exact Nat.succ_le_succ (ih h (by rw [e]; exact List.mem_cons_self ..))
        · exact Nat.le_succ_of_le (ih x (by rw [e]; exact List.mem_cons_of_mem _ hx))
      · rcases List.mem_singleton.mp hx with rfl
        exact Nat.succ_le_succ (Nat.zero_le _)
theorem r2_rows {H H' : Hp} {D : Addr} {ls : List (List Nat)} {bs : List Addr} (h : Dt.R2 (fun v b => b ≠ D ∧ H b = none ∧ H' b = some (.lst ((spl 32 (unT v)).map T))) (ls.map T) bs) : Dt.R2 (fun r b => H' b = some (.lst (r.map T))) (ls.map (spl 32)) bs := by
  induction ls generalizing bs with
  | nil => cases h; exact .nil
  | cons x ls ih =>
    cases h with
    | cons a r => exact .cons (by have := a.2.2; rwa [unT_T] at this) (ih r)
theorem r2_lls {K : PySem.W.Frag} {H : Hp} {rs : List (List (List Nat))} {bs : List Addr} (h : Dt.R2 (fun r b => H b = some (.lst (r.map T))) rs bs) : LLs K H rs bs := by
  unfold LLs
  induction h with
  | nil => exact .nil
  | cons a _ ih => exact .cons (SqL.of a) ih
theorem r2_same {H G : Hp} {rs : List (List (List Nat))} {bs : List Addr} (h : Dt.R2 (fun r b => H b = some (.lst (r.map T))) rs bs) (s : Same H G) : Dt.R2 (fun r b => G b = some (.lst (r.map T))) rs bs := by
  induction h with
  | nil => exact .nil
  | cons a _ ih => exact .cons (s _ _ a) ih
theorem r2_mem {H : Hp} {rs : List (List (List Nat))} {bs : List Addr} (h : Dt.R2 (fun r b => H b = some (.lst (r.map T))) rs bs) {v : V} (hv : v ∈ bs.map V.ref) : ∃ b r, v = .ref b ∧ r ∈ rs ∧ H b = some (.lst (r.map T)) := by
  induction h with
  | nil => cases hv
  | cons a _ ih =>
    rcases List.mem_cons.mp hv with rfl | hv
    · exact ⟨_, _, rfl, List.mem_cons_self .., a⟩
    · obtain ⟨b, r, e, hr, hb⟩ := ih hv
      exact ⟨b, r, e, List.mem_cons_of_mem _ hr, hb⟩
theorem r2_mapl {α β γ : Type} {g : α → β} {S : β → γ → Prop} {vs : List α} {as : List γ} (h : Dt.R2 (fun v b => S (g v) b) vs as) : Dt.R2 S (vs.map g) as := by
  induction h with
  | nil => exact .nil
  | cons a _ ih => exact .cons a ih
noncomputable def spRead (K : PySem.W.Frag) (C : Addr) : Sp := fun vs H Q _ => ∃ (t : List Nat) (ws : List (List Nat)) (n : Nat), vs = [T t] ∧ t.length ≤ 100000 ∧ RowsOk (pageRows t) ∧ chain [116, 111, 112] (pageRows t) = true ∧ Told (pageRows t) ws ∧ ws.length ≤ 100000 ∧ WebOk (keptW (pageRows t) ws) n ∧
  ∀ (R x tp D : Addr) (as : List Addr) (ms : List (List Nat)) (H' : Hp), Same H H' → H' R = some (.tup [.ref x, .ref D]) → WebAt C H' x tp n ms → ms.Perm (keptW (pageRows t) ws) → ms.Pairwise (fun a b => ¬ b < a) → H' D = some (.lst (as.map V.ref)) → Dt.R2 (fun r b => H' b = some (.tup (r.map T))) (asksOf (pageRows t)) as → Q (.ref R) H'


theorem ok_read_page {f : Addr} {fd : FuncData} (F : Fun K "read_page" "read_page" s_read_page f fd) (tt : Txt K mg ad) (C_looked_rows : Cal P w K mg base (CX1 P w) "looked_rows" 5 ["rows"] (spRows K)) (C_told_words : Cal P w K mg base (CX1 P w) "told_words" 4 ["rows"] (spTold K)) (C_Web_init : Cam P w K mg base (CX1 P w) "Web" ad.Web 5 ["self", "words"] (spWebI K ad.Web)) : FnOk P w K mg base (CX1 P w) 7 f fd ["text"] (spRead K ad.Web) := by
  refine F.okX sc_read_page (fun vs H Q E h => ?_) (fun cdv A outer s H vs Q E hr h => ?_)
  · obtain ⟨t, ws, n, rfl, _⟩ := h
    rfl
  · obtain ⟨t, ws, n, rfl, ht, hok, hch, htd, hwl, hW, q⟩ := h
    have hs : sizeLine = 16777216 := sizeLine_eq
    refine ⟨_, (pss_cons (ps_setComp (i := 1) cs_read_page_0 rfl (pi_list (pe_bm PySem.F.plainAttrs_str PySem.F.slot_str_split PySem.F.type_str_split mt_split (pv 0) (pa_cons (pe_strT [10] (by decide +kernel)) pa_nil))) (fun cl C s' H' fp => (pe_bmK K rfl PySem.F.plainAttrs_str PySem.F.slot_str_split PySem.F.type_str_split mt_split (pv 0) (pa_cons (pe_strT [32] (by decide +kernel)) pa_nil))) sc_read_page.nd rfl rfl)
      (pss_cons (ps_expr (pe_cal C_looked_rows hr passX (pa_cons (pv 1) pa_nil)))
      (pss_cons (ps_set (i := 2) sc_read_page.nd rfl (Or.inr rfl) (pe_compf cs_read_page_1 rfl (pi_list (pv 1)) (fun cl C s' H' fp => (pt_cmpR op_eq_T (pe_ix (ix_list_K K rfl) (pv 0) pe_int (fun _ _ => rfl)) (pe_strT [98, 97, 114] (by decide +kernel)) (nomark _))) (fun cl C s' H' fp => (pe_ix (ix_list_K K rfl) (pv 0) pe_int (fun _ _ => rfl)))))
      (pss_cons (ps_setCompfC (i := 3) cs_read_page_2 rfl (pi_list (pe_cal C_told_words hr passX (pa_cons (pv 1) pa_nil))) (fun cl C s' H' fp => (pt_not (pt_val (pe_callB (call_anyK K rfl rfl) (by rfl) tt.b_any PyProof.Rows.boot_any (pa_cons (pe_comp cs_read_page_3 rfl (pi_listK K rfl (pv 3)) (fun cl C s' H' fp => (pe_cmpR op_in_str (pv 0) (pv 1) (by with_unfolding_all rfl)))) pa_nil))))) (fun cl C s' H' fp => (pv 0)) sc_read_page.nd rfl rfl)
      (pss_one (ps_ret (pe_tup (pa_cons (pe_mak C_Web_init hr passX (pa_cons (pv 3) pa_nil)) (pa_cons (pe_compf cs_read_page_4 rfl (pi_list (pv 1)) (fun cl C s' H' fp => (pt_cmpR (op_in_tabK K rfl) (pe_ix (ix_list_K K rfl) (pv 0) pe_int (fun _ _ => rfl)) (pe_glob (v := .ref ad.ASKS) (by rfl) tt.m_ASKS rfl) (by with_unfolding_all rfl))) (fun cl C s' H' fp => (pe_callTy (call_tupleK K rfl) (by rfl) tt.b_tuple (by decide +kernel) (pa_cons (pv 0) pa_nil)))) pa_nil))))))))), ?_⟩
    (try rw [cxK2]); (try rw [cxK1])
    refine ⟨_, rfl, rfl, t, 10, rfl, rfl, (by omega), (by omega), fun D0 hD0 => ?_⟩
    have s0 := same_upd (o := .lst ((spl 10 t).map T)) hD0
    have hd0 : upd H D0 (.lst ((spl 10 t).map T)) D0 = some (.lst ((spl 10 t).map T)) := upd_same
    generalize upd H D0 (.lst ((spl 10 t).map T)) = H0 at s0 hd0 ⊢
    have hrl : (spl 10 t).length ≤ 100000 := by have := hok.1; unfold pageRows at this; rwa [List.length_map] at this
    refine ⟨D0, rfl, ⟨_, SqL.of hd0⟩, compL (fun v => (spl 32 (unT v)).map T) (reads_list (SqL.of hd0)) (by rw [List.length_map]; omega) (fun v H1 hv s1 N hN => ?_) fun D bs H1 hD s1 hd hR => ?_⟩
    · obtain ⟨x, hx, rfl⟩ := List.mem_map.mp hv
      have := spl_len 10 t x hx
      refine ⟨_, rfl, rfl, x, 32, rfl, rfl, (by omega), (by omega), fun c hc => hN c _ (same_upd hc) hc ?_⟩
      rw [upd_same, unT_T]
    have hrs := r2_rows hR
    rw [show (spl 10 t).map (spl 32) = pageRows t from rfl] at hrs
    generalize hpr : pageRows t = rs at hok hch htd hW q hrs
    have hne : rs ≠ [] := by
      obtain ⟨h, r, e⟩ := spl_ne 10 t
      rw [← hpr]
      unfold pageRows
      rw [e]
      exact fun z => by cases z
    have s2 := s0.trans s1
    refine ⟨_, rfl, D, bs, rs, rfl, SqL.of hd, r2_lls hrs, hok, hch, fun H2 s3 => ?_⟩
    have hrs := r2_same hrs s3
    have hd := s3 D _ hd
    have hbl := (lls_len (K := K) (r2_lls hrs))
    have hrl2 := hok.1
    refine ⟨_, rfl, D, rfl, ⟨_, SqL.of hd⟩, compFG (fun v => decide ((unL H2 v).headD [] = [98, 97, 114])) (fun v => T ((unL H2 v).getD 1 [])) (reads_list (SqL.of hd)) (by rw [List.length_map]; omega) (fun v H3 hv s4 N hN => ?_) (fun v H3 hv hp s4 N hN => ?_) fun D3 H3 hD3 s4 hd3 => ?_⟩
    · obtain ⟨b, r, rfl, hr1, hb⟩ := r2_mem hrs hv
      have := hN H3 (Same.refl _)
      rw [unL_at hb] at this
      obtain ⟨h, rt, rfl⟩ : ∃ h rt, r = h :: rt := by have := (hok.2 r hr1).1; cases r with | nil => exact absurd rfl this | cons a b => exact ⟨a, b, rfl⟩
      exact ⟨_, rfl, b, _, _, _, rfl, rfl, SqL.of (s4 b _ hb), atI_nat (j := 0) rfl, _, rfl, _, rfl, _, rfl, this⟩
    · obtain ⟨b, r, rfl, hr1, hb⟩ := r2_mem hrs hv
      have hN := hN H3 (Same.refl _)
      rw [unL_at hb] at hN hp
      have h2 := bar_two hch r hr1 (of_decide_eq_true hp)
      refine ⟨_, rfl, b, _, _, _, rfl, rfl, SqL.of (s4 b _ hb), atI_nat (j := 1) (by rw [List.getElem?_map, List.getElem?_eq_getElem (show 1 < r.length by omega)]; rfl), ?_⟩
      rw [List.getD_eq_getElem?_getD, List.getElem?_eq_getElem (show 1 < r.length by omega)] at hN
      exact hN
    rw [rows_read hrs (fun r => decide (r.headD [] = [98, 97, 114])) (fun r => T (r.getD 1 [])), show (rs.filter fun r => decide (r.headD [] = [98, 97, 114])).map (fun r => T (r.getD 1 [])) = (barsOf rs).map T by unfold barsOf; rw [List.map_map]; rfl] at hd3
    have hrs := r2_same hrs s4
    have hd := s4 D _ hd
    have hbal : (barsOf rs).length ≤ 100000 := by
      unfold barsOf
      rw [List.length_map]
      exact Nat.le_trans (List.length_filter_le ..) hrl2
    refine ⟨_, rfl, D, bs, rs, rfl, SqL.of hd, r2_lls hrs, hok, hne, Told.q htd fun D4 H4 s5 hd4 => ?_⟩
    refine ⟨D4, rfl, ⟨_, SqL.of hd4⟩, compFG (fun v => !(barsOf rs).any fun b => sub b (unT v)) (fun v => v) (reads_list (SqL.of hd4)) (by rw [List.length_map]; omega) (fun v H5 hv s6 N hN => ?_) (fun v H5 hv hp s6 N hN => ⟨_, rfl, hN H5 (Same.refl _)⟩) fun D6 H5 hD6 s6 hd6 => ?_⟩
    · obtain ⟨x, hx, rfl⟩ := List.mem_map.mp hv
      have hb5 := s6 D3 _ (s5 D3 _ hd3)
      refine ⟨_, rfl, D3, rfl, ⟨_, SqL.of hb5⟩, compG (fun u => .bl (sub (unT u) x)) (reads_list (SqL.of hb5)) (by rw [List.length_map]; omega) (fun u H6 hu s7 N2 hN2 => ?_) fun D7 H6 hD7 s7 hd7 => ?_⟩
      · obtain ⟨y, hy, rfl⟩ := List.mem_map.mp hu
        have := hN2 H6 (Same.refl _)
        rw [unT_T] at this
        exact ⟨_, rfl, _, rfl, tx y, tx x, rfl, rfl, this⟩
      · rw [map_unT (f := fun u => V.bl (sub u x)), show (barsOf rs).map (fun u => V.bl (sub u x)) = ((barsOf rs).map fun u => sub u x).map V.bl by rw [List.map_map]; rfl] at hd7
        refine ⟨D7, _, rfl, SqL.of hd7, _, rfl, ?_⟩
        have := hN H6 s7
        rw [unT_T] at this
        rw [List.any_map]
        exact this
    have ek : (((ws.map T).filter fun v => !(barsOf rs).any fun b => sub b (unT v)).map fun v => v) = (keptW rs ws).map T := by
      rw [List.map_id', List.filter_map]
      congr 1
    rw [ek] at hd6
    have s7 := s3.trans (s4.trans (s5.trans s6))
    have hrs := r2_same hrs (s5.trans s6)
    have hd := s6 D _ (s5 D _ hd)
    refine ⟨_, rfl, ?_⟩
    intro x dx nx ndx nex
    have s8 : Same H5 (upd (upd H5 dx (.own x)) x (.ins ad.Web dx [])) := fun b o e => by
      rw [upd_ne (ne_of_none e nx), upd_ne (ne_of_none e ndx)]
      exact e
    refine ⟨x, dx, D6, _, n, rfl, upd_same, .inl (SqL.of (s8 D6 _ hd6)), hW, fun tp ms H6 hpm hpw k2 hx2 ht2 => ⟨rfl, ?_⟩⟩
    have s9 : Same H5 H6 := fun b o e => k2 b o (s8 b o e) (ne_of_none e nx)
    have hrs := r2_same hrs s9
    have hd := s9 D _ hd
    refine ⟨_, rfl, D, rfl, ⟨_, SqL.of hd⟩, compFO (fun v => (tabAt ((unL H6 v).headD []) asksD).isSome) (fun v => .tup ((unL H6 v).map T)) (reads_list (SqL.of hd)) (by rw [List.length_map]; omega) (fun v H7 hv s10 N hN => ?_) (fun v H7 hv hp s10 N hN => ?_) fun D8 as H7 hD8 s10 hd8 hR8 => ?_⟩
    · obtain ⟨b, r, rfl, hr1, hb⟩ := r2_mem hrs hv
      have := hN H7 (Same.refl _)
      rw [unL_at hb] at this
      obtain ⟨h, rt, rfl⟩ : ∃ h rt, r = h :: rt := by have := (hok.2 r hr1).1; cases r with | nil => exact absurd rfl this | cons a b => exact ⟨a, b, rfl⟩
      exact ⟨_, rfl, b, _, _, _, rfl, rfl, SqL.of (s10 b _ hb), atI_nat (j := 0) rfl, h, ad.ASKS, asksD, rfl, rfl, tt.k_asks, _, rfl, this⟩
    · obtain ⟨b, r, rfl, hr1, hb⟩ := r2_mem hrs hv
      refine ⟨_, rfl, b, _, rfl, SqL.of (s10 b _ hb), fun c hc => hN c _ (same_upd hc) hc ?_⟩
      rw [upd_same, unL_at hb]
    refine ⟨(by show 2 ≤ sizeLine; omega), fun R hR' => ?_⟩
    have s11 := same_upd (o := .tup [.ref x, .ref D8]) hR'
    refine q R x tp D8 as ms _ (s2.trans (s7.trans (s9.trans (s10.trans s11)))) upd_same (WebAt.on ⟨⟨dx, hx2⟩, ht2⟩ (s10.trans s11)) hpm hpw (s11 D8 _ hd8) ?_
    have e := rows_read hrs (fun r => (tabAt (r.headD []) asksD).isSome) id
    rw [List.map_id] at e
    unfold asksOf
    rw [← e]
    exact r2_mapl (hR8.mono fun v b _ hb => s11 b _ hb.2.2)


noncomputable def pageText (ms : List (List Nat)) (asks : List (List (List Nat))) : List Nat := jnS [10] ((([119, 111, 114, 100, 115] :: ms) :: asks).map (jnS [32]))
noncomputable def spPText (K : PySem.W.Frag) (C : Addr) : Sp := fun vs H Q _ => ∃ (x tp a : Addr) (as : List Addr) (n : Nat) (ms : List (List Nat)) (asks : List (List (List Nat))), vs = [.ref x, .ref a] ∧ WebAt C H x tp n ms ∧ SqL K H a (as.map V.ref) ∧ Dt.R2 (fun r b => H b = some (.tup (r.map T))) asks as ∧ ms ≠ [] ∧ ms.length ≤ 1000 ∧ asks.length ≤ 1000 ∧
  (∀ r ∈ ([119, 111, 114, 100, 115] :: ms) :: asks, r.flatten.length + r.length ≤ 10000) ∧ ((([119, 111, 114, 100, 115] :: ms) :: asks).map (jnS [32])).flatten.length ≤ 10000000 ∧ ∀ H', Same H H' → Q (T (pageText ms asks)) H'
noncomputable def tpL (H : Hp) (v : V) : List (List Nat) := match v with
  | .ref a => match H a with
    | some (.tup xs) => xs.map unT
    | _ => []
  | _ => []
theorem tpL_at {H : Hp} {b : Addr} {u : List (List Nat)} (h : H b = some (.tup (u.map T))) : tpL H (.ref b) = u := by
  unfold tpL
  dsimp only
  rw [h]
  dsimp only
  rw [List.map_map]
  exact (List.map_congr_left fun x _ => unT_T x).trans (List.map_id _)
theorem tups_mem {H : Hp} {rs : List (List (List Nat))} {bs : List Addr} (h : Dt.R2 (fun r b => H b = some (.tup (r.map T))) rs bs) {v : V} (hv : v ∈ bs.map V.ref) : ∃ b r, v = .ref b ∧ r ∈ rs ∧ H b = some (.tup (r.map T)) := by
  induction h with
  | nil => cases hv
  | cons a _ ih =>
    rcases List.mem_cons.mp hv with rfl | hv
    · exact ⟨_, _, rfl, List.mem_cons_self .., a⟩
    · obtain ⟨b, r, e, hr, hb⟩ := ih hv
      exact ⟨b, r, e, List.mem_cons_of_mem _ hr, hb⟩
theorem tups_read {H : Hp} {rs : List (List (List Nat))} {bs : List Addr} (h : Dt.R2 (fun r b => H b = some (.tup (r.map T))) rs bs) {α : Type} (f : List (List Nat) → α) : ((bs.map V.ref).map fun v => f (tpL H v)) = rs.map f := by
  induction h with
  | nil => rfl
  | cons a _ ih => rw [List.map_cons, List.map_cons, List.map_cons, tpL_at a, ih]
theorem ok_page_text {f : Addr} {fd : FuncData} (F : Fun K "page_text" "page_text" s_page_text f fd) (tt : Txt K mg ad) : FnOk P w K mg base (CX1 P w) 1 f fd ["web", "asks"] (spPText K ad.Web) := by
  refine F.okN sc_page_text (fun vs H Q E h => ?_) (fun cdv A outer s H vs Q E hr h => ?_)
  · obtain ⟨x, tp, a, as, n, ms, asks, rfl, _⟩ := h
    rfl
  · obtain ⟨x, tp, a, as, n, ms, asks, rfl, hW, hA, hR, hne, hml, hal, hrl, hfl, q⟩ := h
    have hs : sizeLine = 16777216 := sizeLine_eq
    refine ⟨_, (pss_cons (ps_set (i := 2) sc_page_text.nd rfl (Or.inl rfl) (pe_op op_catL (pe_lst (pa_cons (pe_op op_catT (pe_tup (pa_cons (pe_strT [119, 111, 114, 100, 115] (by decide +kernel)) pa_nil)) (pe_fld (pv 0) rfl)) pa_nil)) (pe_callTy call_list_of (by rfl) tt.b_list (by decide +kernel) (pa_cons (pv 1) pa_nil))))
      (pss_one (ps_ret (pe_bm PySem.F.plainAttrs_str PySem.F.slot_str_join PySem.F.type_str_join mt_joinS (pe_strT [10] (by decide +kernel)) (pa_cons (pe_comp cs_page_text_0 rfl (pi_list (pv 2)) (fun cl C s' H' fp => (pe_bmK K rfl PySem.F.plainAttrs_str PySem.F.slot_str_join PySem.F.type_str_join (mt_joinTK K rfl) (pe_strT [32] (by decide +kernel)) (pa_cons (pv 0) pa_nil)))) pa_nil))))), ?_⟩
    (try rw [cxK2]); (try rw [cxK1])
    obtain ⟨⟨dx, hx⟩, ht⟩ := id hW
    refine ⟨(by show 1 ≤ sizeLine; omega), fun t0 ht0 => ?_⟩
    have s0 := same_upd (o := .tup [T [119, 111, 114, 100, 115]]) ht0
    have h0 : upd H t0 (.tup [T [119, 111, 114, 100, 115]]) t0 = some (.tup [T [119, 111, 114, 100, 115]]) := upd_same
    generalize upd H t0 (.tup [T [119, 111, 114, 100, 115]]) = H0 at s0 h0 ⊢
    refine ⟨_, rfl, x, ad.Web, dx, _, _, rfl, s0 _ _ hx, tt.cl_Web, tt.na_Web_words, flds_w _ _, t0, tp, _, _, rfl, rfl, SqT.of h0, SqT.of (s0 _ _ ht), (fun z => by cases z), (by rw [List.length_map]; show 1 + ms.length ≤ sizeLine; omega), fun z => absurd (List.map_eq_nil_iff.mp z) hne, fun _ p1 hp1 => ?_⟩
    rw [show [T [119, 111, 114, 100, 115]] ++ ms.map T = ([119, 111, 114, 100, 115] :: ms).map T from rfl]
    have s1 := same_upd (o := .tup (([119, 111, 114, 100, 115] :: ms).map T)) hp1
    have h1 : upd H0 p1 (.tup (([119, 111, 114, 100, 115] :: ms).map T)) p1 = some (.tup (([119, 111, 114, 100, 115] :: ms).map T)) := upd_same
    generalize upd H0 p1 (.tup (([119, 111, 114, 100, 115] :: ms).map T)) = H1 at s1 h1 ⊢
    refine ⟨(by show 1 ≤ sizeLine; omega), fun p2 hp2 => ?_⟩
    have s2 := same_upd (o := .lst [.ref p1]) hp2
    have h2 : upd H1 p2 (.lst [.ref p1]) p2 = some (.lst [.ref p1]) := upd_same
    generalize upd H1 p2 (.lst [.ref p1]) = H2 at s2 h2 ⊢
    have s02 := s0.trans (s1.trans s2)
    refine ⟨_, rfl, a, _, rfl, .inl (s02.seq hA), fun p3 hp3 => ?_⟩
    have s3 := same_upd (o := .lst (as.map V.ref)) hp3
    have h3 : upd H2 p3 (.lst (as.map V.ref)) p3 = some (.lst (as.map V.ref)) := upd_same
    generalize upd H2 p3 (.lst (as.map V.ref)) = H3 at s3 h3 ⊢
    have hlen : asks.length = as.length := hR.len
    refine ⟨p2, p3, _, _, rfl, rfl, SqL.of (s3 _ _ h2), SqL.of h3, (by rw [List.length_map]; show 1 + as.length ≤ sizeLine; omega), fun p4 hp4 => ?_⟩
    rw [show [V.ref p1] ++ as.map V.ref = (p1 :: as).map V.ref from rfl]
    have s4 := same_upd (o := .lst ((p1 :: as).map V.ref)) hp4
    have h4 : upd H3 p4 (.lst ((p1 :: as).map V.ref)) p4 = some (.lst ((p1 :: as).map V.ref)) := upd_same
    generalize upd H3 p4 (.lst ((p1 :: as).map V.ref)) = H4 at s4 h4 ⊢
    have s34 := s3.trans s4
    have hR4 : Dt.R2 (fun r b => H4 b = some (.tup (r.map T))) (([119, 111, 114, 100, 115] :: ms) :: asks) (p1 :: as) := .cons (s34 _ _ (s2 _ _ h1)) (hR.mono fun r b _ hb => s34 _ _ (s02 _ _ hb))
    have hrow : ((p1 :: as).map V.ref).length ≤ 1001 := by rw [List.length_map, List.length_cons]; omega
    unfold pageText at q
    generalize ([119, 111, 114, 100, 115] :: ms) :: asks = rows at hR4 hrl hfl q
    have hl4 := hR4.len
    refine ⟨rfl, _, rfl, p4, rfl, ⟨_, SqL.of h4⟩, compG (fun v => T (jnS [32] (tpL H4 v))) (reads_list (SqL.of h4)) (by omega) (fun v H5 hv s5 N hN => ?_) fun D H5 hD s5 hd => ?_⟩
    · obtain ⟨b, r, rfl, hr1, hb⟩ := tups_mem hR4 hv
      have := hN H5 (Same.refl _)
      rw [tpL_at hb] at this
      have hrb := hrl r hr1
      exact ⟨rfl, _, rfl, [32], b, r, rfl, rfl, SqT.of (s5 _ _ hb), (by show r.flatten.length + r.length * 1 ≤ sizeLine; omega), this⟩
    · rw [tups_read hR4 (fun r => T (jnS [32] r)), show rows.map (fun r => T (jnS [32] r)) = (rows.map (jnS [32])).map T by rw [List.map_map]; rfl] at hd
      rw [List.length_map] at hrow
      refine ⟨[10], D, _, rfl, rfl, SqL.of hd, (by rw [List.length_map]; show _ + rows.length * 1 ≤ sizeLine; omega), q H5 (s02.trans (s34.trans s5))⟩


noncomputable def stirZ (c k : Int) : Int := (c % 1000000007 * 48271 + (k + 1) * (k + 1) * 69621) % 2147483647 * ((c % 1000000007 * 48271 + (k + 1) * (k + 1) * 69621) % 2147483647) % 2147483629
noncomputable def spStir : Sp := fun vs H Q _ => ∃ (c k : Int), vs = [.int c, .int k] ∧ (0 ≤ k ∧ k ≤ 1000) ∧ Q (.int (stirZ c k)) H
theorem ok__law_stir {f : Addr} {fd : FuncData} (F : Fun K "_law_stir" "_law_stir" s__law_stir f fd) (tt : Txt K mg ad) : FnOk P w K mg base (CX1 P w) 1 f fd ["cell", "k"] spStir := by
  refine F.okN sc__law_stir (fun vs H Q E h => ?_) (fun cdv A outer s H vs Q E hr h => ?_)
  · obtain ⟨c, k, rfl, _⟩ := h
    rfl
  · obtain ⟨c, k, rfl, hk, q⟩ := h
    refine ⟨_, (pss_cons (ps_set (i := 2) sc__law_stir.nd rfl (Or.inl rfl) (pe_op op_mod (pe_op op_add (pe_op op_mul (pe_op op_mod (pv 0) pe_int) pe_int) (pe_op op_mul (pe_op op_mul (pe_op op_add (pv 1) pe_int) (pe_op op_add (pv 1) pe_int)) pe_int)) pe_int))
      (pss_one (ps_ret (pe_op op_mod (pe_op op_mul (pv 2) (pv 2)) pe_int)))), ?_⟩
    (try rw [cxK2]); (try rw [cxK1])
    refine ⟨_, rfl, _, _, rfl, rfl, (by show (0 : Int) < 1000000007; decide), _, _, rfl, rfl, .inr ⟨by decide, by decide⟩, _, rfl, _, _, rfl, rfl, _, rfl, _, _, rfl, rfl, _, _, rfl, rfl, .inl ⟨by omega, by omega⟩, _, _, rfl, rfl, .inr ⟨by decide, by decide⟩, _, _, rfl, rfl, _, _, rfl, rfl, (by show (0 : Int) < 2147483647; decide), ?_⟩
    dsimp only
    have h1 := Int.emod_nonneg (c % 1000000007 * 48271 + (k + 1) * (k + 1) * 69621) (show (2147483647 : Int) ≠ 0 by decide)
    have h2 := Int.emod_lt_of_pos (c % 1000000007 * 48271 + (k + 1) * (k + 1) * 69621) (show (0 : Int) < 2147483647 by decide)
    unfold stirZ at q
    exact ⟨_, rfl, _, rfl, _, _, rfl, rfl, .inl ⟨by omega, by omega⟩, _, _, rfl, rfl, (by show (0 : Int) < 2147483629; decide), q⟩


theorem num_form {m : Nat} (h : m < 10 ^ 60) : formOf (dgI (m : Nat)) = [110] := by
  unfold formOf
  rw [if_pos]
  unfold isNum madeOf
  rw [decide_eq_true (List.length_pos_iff.mpr (dg_ne m)), decide_eq_true (dg_len (k := 59) h), show ((dgI (m : Nat)).all fun c => decide (c ∈ figs)) = true from List.all_eq_true.mpr fun c hc => decide_eq_true ?_]
  · by_cases h0 : m = 0
    · subst h0
      rfl
    · rw [show decide ((dgI (m : Nat)).take 1 ≠ [48]) = true from decide_eq_true (dg_head m (by omega)), Bool.or_true]
      rfl
  · obtain ⟨a, b⟩ := dg_all m c hc
    have : c - 48 < 10 := by omega
    obtain ⟨d, hd, rfl⟩ : ∃ d, d < 10 ∧ c = 48 + d := ⟨c - 48, by omega, by omega⟩
    clear hc a b this
    revert d
    decide
theorem txt_form {t : List Nat} (h0 : t ≠ []) (h1 : t.length ≤ 200) (h2 : ∀ c ∈ t, 97 ≤ c ∧ c < 103) : formOf t = [116] := by
  have hn : isNum t = false := by
    unfold isNum madeOf
    rw [show (t.all fun c => decide (c ∈ figs)) = false from ?_, Bool.and_false, Bool.and_false, Bool.false_and]
    cases t with
    | nil => exact absurd rfl h0
    | cons c t =>
      rw [List.all_cons, decide_eq_false, Bool.false_and]
      intro z
      have := h2 c (List.mem_cons_self ..)
      have hz : ∀ x ∈ figs, x < 58 := by decide
      have := hz c z
      omega
  have ht : isTxt t = true := by
    unfold isTxt madeOf
    rw [decide_eq_true (List.length_pos_iff.mpr h0), decide_eq_true h1, show (t.all fun c => decide (c ∈ lets)) = true from List.all_eq_true.mpr fun c hc => decide_eq_true ?_]
    · rfl
    · have h3 := h2 c hc
      obtain ⟨d, hd, rfl⟩ : ∃ d, d < 6 ∧ c = 97 + d := ⟨c - 97, by omega, by omega⟩
      revert hd
      clear h3 hc
      revert d
      decide
  unfold formOf
  rw [hn, ht]
  rfl
theorem flatN (f : Nat → Nat) : ∀ l : List Nat, (l.map fun i => [f i]).flatten = l.map f
  | [] => rfl
  | a :: l => by rw [List.map_cons, List.flatten_cons, flatN f l]; rfl
theorem ask_of {h : List Nat} {rt : List (List Nat)} {d : List (List Nat)} {fm : List Nat} (hd : tabAt h asksD = some d) (hf : (rt.map formOf).flatten = fm) (hm : fm ∈ d) : isAsk (h :: rt) = true := by
  unfold isAsk
  rw [show (h :: rt).headD [] = h from rfl, hd, show rowForm (h :: rt) = fm from hf]
  exact decide_eq_true hm
theorem al_nil {α : Type} {p : α → Prop} : ∀ x ∈ ([] : List α), p x := fun x hx => by cases hx
theorem al_cons {α : Type} {p : α → Prop} {a : α} {l : List α} (h : p a) (t : ∀ x ∈ l, p x) : ∀ x ∈ a :: l, p x := List.forall_mem_cons.mpr ⟨h, t⟩
theorem back {H G : Hp} {p : Addr} (s : Same H G) (h : G p = none) : H p = none := by
  cases e : H p with
  | none => rfl
  | some o => rw [s p o e] at h; cases h
noncomputable def AskOk (r : List (List Nat)) : Prop := isAsk r = true ∧ r ≠ [] ∧ r.length ≤ 5 ∧ ∀ x ∈ r, x.length ≤ 60 ∧ 10 ∉ x ∧ 32 ∉ x
noncomputable def spAsk : Sp := fun vs H Q _ => ∃ c : Int, vs = [.int c] ∧ ∀ (b : Addr) (r : List (List Nat)) (H' : Hp), Same H H' → H b = none → H' b = some (.lst (r.map T)) → AskOk r → Q (.ref b) H'


theorem ok__law_ask {f : Addr} {fd : FuncData} (F : Fun K "_law_ask" "_law_ask" s__law_ask f fd) (tt : Txt K mg ad) (C__law_stir : Cal P w K mg base (CX1 P w) "_law_stir" 1 ["cell", "k"] spStir) : FnOk P w K mg base (CX1 P w) 2 f fd ["cell"] spAsk := by
  refine F.okX sc__law_ask (fun vs H Q E h => ?_) (fun cdv A outer s H vs Q E hr h => ?_)
  · obtain ⟨c, rfl, _⟩ := h
    rfl
  · obtain ⟨c, rfl, q⟩ := h
    have hs : sizeLine = 16777216 := sizeLine_eq
    refine ⟨_, (pss_cons (ps_set (i := 1) sc__law_ask.nd rfl (Or.inl rfl) (pe_op op_fdiv (pe_cal C__law_stir hr pass1 (pa_cons (pv 0) (pa_cons pe_int pa_nil))) pe_int))
      (pss_cons (ps_set (i := 2) sc__law_ask.nd rfl (Or.inl rfl) (pe_callTy call_strI (by rfl) tt.b_str (by decide +kernel) (pa_cons (pe_op op_mod (pv 0) (pe_op op_pow pe_int pe_int)) pa_nil)))
      (pss_cons (ps_set (i := 3) sc__law_ask.nd rfl (Or.inl rfl) (pe_bm PySem.F.plainAttrs_str PySem.F.slot_str_join PySem.F.type_str_join mt_join (pe_strT [] (by decide +kernel)) (pa_cons (pe_comp cs__law_ask_0 rfl (pi_range1 (by rfl) tt.b_range (pa_cons (pe_op op_add pe_int (pe_op op_mod (pe_op op_fdiv (pv 1) pe_int) pe_int)) pa_nil)) (fun cl C s' H' fp => (pe_ix ix_T (pe_strT [97, 98, 99, 100, 101, 102] (by decide +kernel)) (pe_op op_mod (pe_op op_fdiv (pe_cal C__law_stir hr pass1 (pa_cons (pv 1) (pa_cons (pe_op op_add pe_int (pv 0)) pa_nil))) pe_int) pe_int) (fun _ _ => rfl)))) pa_nil)))
      (pss_cons (ps_set (i := 4) sc__law_ask.nd rfl (Or.inl rfl) (pe_lst (pa_cons (pe_lst (pa_cons (pe_strT [114, 105, 110, 103] (by decide +kernel)) pa_nil)) (pa_cons (pe_lst (pa_cons (pe_strT [114, 111, 119] (by decide +kernel)) pa_nil)) (pa_cons (pe_lst (pa_cons (pe_strT [114, 105, 110, 103, 115] (by decide +kernel)) pa_nil)) (pa_cons (pe_lst (pa_cons (pe_strT [114, 111, 119, 115] (by decide +kernel)) pa_nil)) (pa_cons (pe_lst (pa_cons (pe_strT [114, 105, 110, 103] (by decide +kernel)) (pa_cons (pv 2) pa_nil))) (pa_cons (pe_lst (pa_cons (pe_strT [114, 111, 119] (by decide +kernel)) (pa_cons (pv 2) pa_nil))) (pa_cons (pe_lst (pa_cons (pe_strT [110, 117, 109, 98, 101, 114] (by decide +kernel)) (pa_cons (pv 3) pa_nil))) pa_nil)))))))))
      (pss_cons (ps_set (i := 4) sc__law_ask.nd rfl (Or.inl rfl) (pe_op op_catL (pv 4) (pe_lst (pa_cons (pe_lst (pa_cons (pe_strT [108, 101, 97, 100] (by decide +kernel)) (pa_cons (pv 3) (pa_cons (pe_op op_add_T (pe_slice sl_T (pv 3) (po_some pe_int) po_none) (pe_slice sl_T (pv 3) po_none (po_some pe_int))) pa_nil)))) (pa_cons (pe_lst (pa_cons (pe_strT [112, 105, 101, 99, 101] (by decide +kernel)) (pa_cons (pv 3) (pa_cons (pe_strT [51] (by decide +kernel)) (pa_cons (pv 2) (pa_cons (pe_strT [55] (by decide +kernel)) pa_nil)))))) pa_nil)))))
      (pss_cons (ps_expr (pe_bm PySem.F.plainAttrs_list PySem.F.slot_list_append PySem.F.type_list_append mt_append (pv 4) (pa_cons (pe_lst (pa_cons (pe_strT [112, 108, 97, 99, 101] (by decide +kernel)) (pa_cons (pv 3) (pa_cons (pv 2) (pa_cons (pe_strT [97, 98, 99] (by decide +kernel)) pa_nil))))) pa_nil)))
      (pss_one (ps_ret (pe_ix ix_list (pv 4) (pe_op op_mod (pv 1) pe_int) (fun _ _ => rfl)))))))))), ?_⟩
    (try rw [cxK2]); (try rw [cxK1])
    refine ⟨_, rfl, c, 21, rfl, ⟨by decide, by decide⟩, _, _, rfl, rfl, ⟨by decide, by decide⟩, ?_⟩
    have e60 : c % (10 : Int) ^ (60 : Int).toNat = (((c % 10 ^ 60).toNat : Nat) : Int) := by
      rw [show (60 : Int).toNat = 60 from rfl, Int.toNat_of_nonneg (Int.emod_nonneg _ (by decide))]
    have hm : (c % 10 ^ 60).toNat < 10 ^ 60 := by
      have := Int.emod_lt_of_pos c (show (0 : Int) < 10 ^ 60 by decide)
      have := Int.emod_nonneg c (show (10 : Int) ^ 60 ≠ 0 by decide)
      omega
    generalize (c % 10 ^ 60).toNat = m at e60 hm
    refine ⟨_, rfl, _, _, rfl, rfl, ⟨by decide, by decide, by decide⟩, _, _, rfl, rfl, (by show (0 : Int) < 10 ^ (60 : Int).toNat; decide), _, rfl, ?_, ?_⟩
    · rw [e60]
      show m.log2 < 1920
      by_cases h0 : m = 0
      · rw [h0]
        decide
      · exact (Nat.log2_lt h0).mpr (Nat.lt_of_lt_of_le hm (by decide))
    rw [e60]
    have hfn := num_form hm
    have hnl := dg_len (k := 59) hm
    have hna := dg_all m
    generalize dgI (m : Nat) = nb at hfn hnl hna ⊢
    have hz : ∀ (z q : Int), 0 < q → ∃ j : Nat, z % q = (j : Nat) ∧ (j : Int) < q := fun z q hq => ⟨(z % q).toNat, (Int.toNat_of_nonneg (Int.emod_nonneg z (by omega))).symm, by rw [Int.toNat_of_nonneg (Int.emod_nonneg z (by omega))]; exact Int.emod_lt_of_pos z hq⟩
    refine ⟨rfl, _, rfl, _, _, rfl, rfl, ⟨by decide, by decide⟩, _, _, rfl, rfl, (by show (0 : Int) < 40; decide), _, _, rfl, rfl, ?_⟩
    obtain ⟨j, ej, hj⟩ := hz (stirZ c 21 / 7 / 9) 40 (by decide)
    have hsix : ∀ z : Int, atI [97, 98, 99, 100, 101, 102] (z % 6) = some (97 + (z % 6).toNat) ∧ (z % 6).toNat < 6 := fun z => by
      obtain ⟨k, ek, hk⟩ := hz z 6 (by decide)
      rw [ek, Int.toNat_natCast]
      have hk6 : k < 6 := by omega
      clear ek hk
      revert k
      decide
    refine ⟨_, rfl, (by show -2 ^ 62 ≤ 1 + stirZ c 21 / 7 / 9 % 40; rw [ej]; omega), (by show 1 + stirZ c 21 / 7 / 9 % 40 < 2 ^ 62; rw [ej]; omega), ?_⟩
    dsimp only
    rw [ej, show (1 + (j : Int)).toNat = j + 1 by omega]
    refine comp_range (fun i => T [97 + (stirZ c (22 + (i : Nat)) / 7 % 6).toNat]) (by omega) (fun i H1 hi s1 N hN => ?_) fun D H1 hD sC hd => ?_
    · refine ⟨_, rfl, _, rfl, _, _, rfl, rfl, c, 22 + (0 + (i : Int)), rfl, ⟨by omega, by omega⟩, _, _, rfl, rfl, ⟨by decide, by decide⟩, _, _, rfl, rfl, (by show (0 : Int) < 6; decide), _, rfl, _, rfl, (by show 6 ≤ sizeLine; omega), _, (hsix _).1, ?_⟩
      rw [Int.zero_add]
      exact hN H1 (Same.refl _)
    rw [show (List.range (j + 1)).map (fun i => T [97 + (stirZ c (22 + (i : Nat)) / 7 % 6).toNat]) = ((List.range (j + 1)).map fun i => [97 + (stirZ c (22 + (i : Nat)) / 7 % 6).toNat]).map T by rw [List.map_map]; rfl] at hd
    have htl : (((List.range (j + 1)).map fun i => [97 + (stirZ c (22 + (i : Nat)) / 7 % 6).toNat]).flatten).length = j + 1 := by
      rw [flatN fun i => 97 + (stirZ c (22 + (i : Nat)) / 7 % 6).toNat, List.length_map, List.length_range]
    have hta : ∀ x ∈ ((List.range (j + 1)).map fun i => [97 + (stirZ c (22 + (i : Nat)) / 7 % 6).toNat]).flatten, 97 ≤ x ∧ x < 103 := fun x hx => by
      obtain ⟨l, hl, hx⟩ := List.mem_flatten.mp hx
      obtain ⟨i, _, rfl⟩ := List.mem_map.mp hl
      obtain rfl := List.mem_singleton.mp hx
      have := (hsix (stirZ c (22 + (i : Nat)) / 7)).2
      omega
    refine ⟨rfl, D, _, rfl, SqL.of hd, (by omega), ?_⟩
    generalize (((List.range (j + 1)).map fun i => [97 + (stirZ c (22 + (i : Nat)) / 7 % 6).toNat]).flatten) = tx0 at htl hta ⊢
    have htf : formOf tx0 = [116] := txt_form (fun z => by rw [z] at htl; cases htl) (by omega) hta
    refine ⟨(by show 1 ≤ sizeLine; omega), fun p1 hp1 => ?_⟩
    have s1 := same_upd (o := .lst [T [114, 105, 110, 103]]) hp1
    have h1 : upd H1 p1 (.lst [T [114, 105, 110, 103]]) p1 = some (.lst [T [114, 105, 110, 103]]) := upd_same
    generalize upd H1 p1 (.lst [T [114, 105, 110, 103]]) = G1 at s1 h1 ⊢
    refine ⟨(by show 1 ≤ sizeLine; omega), fun p2 hp2 => ?_⟩
    have s2 := same_upd (o := .lst [T [114, 111, 119]]) hp2
    have h2 : upd G1 p2 (.lst [T [114, 111, 119]]) p2 = some (.lst [T [114, 111, 119]]) := upd_same
    generalize upd G1 p2 (.lst [T [114, 111, 119]]) = G2 at s2 h2 ⊢
    refine ⟨(by show 1 ≤ sizeLine; omega), fun p3 hp3 => ?_⟩
    have s3 := same_upd (o := .lst [T [114, 105, 110, 103, 115]]) hp3
    have h3 : upd G2 p3 (.lst [T [114, 105, 110, 103, 115]]) p3 = some (.lst [T [114, 105, 110, 103, 115]]) := upd_same
    generalize upd G2 p3 (.lst [T [114, 105, 110, 103, 115]]) = G3 at s3 h3 ⊢
    refine ⟨(by show 1 ≤ sizeLine; omega), fun p4 hp4 => ?_⟩
    have s4 := same_upd (o := .lst [T [114, 111, 119, 115]]) hp4
    have h4 : upd G3 p4 (.lst [T [114, 111, 119, 115]]) p4 = some (.lst [T [114, 111, 119, 115]]) := upd_same
    generalize upd G3 p4 (.lst [T [114, 111, 119, 115]]) = G4 at s4 h4 ⊢
    refine ⟨_, rfl, (by show 2 ≤ sizeLine; omega), fun p5 hp5 => ?_⟩
    have s5 := same_upd (o := .lst [T [114, 105, 110, 103], T nb]) hp5
    have h5 : upd G4 p5 (.lst [T [114, 105, 110, 103], T nb]) p5 = some (.lst [T [114, 105, 110, 103], T nb]) := upd_same
    generalize upd G4 p5 (.lst [T [114, 105, 110, 103], T nb]) = G5 at s5 h5 ⊢
    refine ⟨_, rfl, (by show 2 ≤ sizeLine; omega), fun p6 hp6 => ?_⟩
    have s6 := same_upd (o := .lst [T [114, 111, 119], T nb]) hp6
    have h6 : upd G5 p6 (.lst [T [114, 111, 119], T nb]) p6 = some (.lst [T [114, 111, 119], T nb]) := upd_same
    generalize upd G5 p6 (.lst [T [114, 111, 119], T nb]) = G6 at s6 h6 ⊢
    refine ⟨_, rfl, (by show 2 ≤ sizeLine; omega), fun p7 hp7 => ?_⟩
    have s7 := same_upd (o := .lst [T [110, 117, 109, 98, 101, 114], T tx0]) hp7
    have h7 : upd G6 p7 (.lst [T [110, 117, 109, 98, 101, 114], T tx0]) p7 = some (.lst [T [110, 117, 109, 98, 101, 114], T tx0]) := upd_same
    generalize upd G6 p7 (.lst [T [110, 117, 109, 98, 101, 114], T tx0]) = G7 at s7 h7 ⊢
    refine ⟨(by show 7 ≤ sizeLine; omega), fun p8 hp8 => ?_⟩
    have s8 := same_upd (o := .lst [.ref p1, .ref p2, .ref p3, .ref p4, .ref p5, .ref p6, .ref p7]) hp8
    have h8 : upd G7 p8 (.lst [.ref p1, .ref p2, .ref p3, .ref p4, .ref p5, .ref p6, .ref p7]) p8 = some (.lst [.ref p1, .ref p2, .ref p3, .ref p4, .ref p5, .ref p6, .ref p7]) := upd_same
    generalize upd G7 p8 (.lst [.ref p1, .ref p2, .ref p3, .ref p4, .ref p5, .ref p6, .ref p7]) = G8 at s8 h8 ⊢
    refine ⟨_, rfl, _, rfl, _, rfl, _, rfl, _, rfl, (by omega), _, rfl, _, rfl, _, rfl, (by omega), ?_⟩
    have hcu : cutL tx0 (some 1) none = tx0.drop 1 ∧ cutL tx0 none (some 1) = tx0.take 1 := ⟨cutL_from (k := 1) (by omega), cutL_to (k := 1) (by omega)⟩
    rw [hcu.1, hcu.2]
    have hul : (tx0.drop 1).length + (tx0.take 1).length = j + 1 := by rw [List.length_drop, List.length_take]; omega
    have hua : ∀ x ∈ tx0.drop 1 ++ tx0.take 1, 97 ≤ x ∧ x < 103 := fun x hx => hta x (by
      rcases List.mem_append.mp hx with h | h
      · exact List.mem_of_mem_drop h
      · exact List.mem_of_mem_take h)
    refine ⟨_, rfl, _, rfl, (by omega), ?_⟩
    rw [← List.length_append] at hul
    generalize tx0.drop 1 ++ tx0.take 1 = u at hul hua ⊢
    have huf : formOf u = [116] := txt_form (fun z => by rw [z] at hul; cases hul) (by omega) hua
    refine ⟨(by show 3 ≤ sizeLine; omega), fun p9 hp9 => ?_⟩
    have s9 := same_upd (o := .lst [T [108, 101, 97, 100], T tx0, T u]) hp9
    have h9 : upd G8 p9 (.lst [T [108, 101, 97, 100], T tx0, T u]) p9 = some (.lst [T [108, 101, 97, 100], T tx0, T u]) := upd_same
    generalize upd G8 p9 (.lst [T [108, 101, 97, 100], T tx0, T u]) = G9 at s9 h9 ⊢
    refine ⟨_, rfl, _, rfl, (by show 5 ≤ sizeLine; omega), fun p10 hp10 => ?_⟩
    have s10 := same_upd (o := .lst [T [112, 105, 101, 99, 101], T tx0, T [51], T nb, T [55]]) hp10
    have h10 : upd G9 p10 (.lst [T [112, 105, 101, 99, 101], T tx0, T [51], T nb, T [55]]) p10 = some (.lst [T [112, 105, 101, 99, 101], T tx0, T [51], T nb, T [55]]) := upd_same
    generalize upd G9 p10 (.lst [T [112, 105, 101, 99, 101], T tx0, T [51], T nb, T [55]]) = G10 at s10 h10 ⊢
    refine ⟨(by show 2 ≤ sizeLine; omega), fun p11 hp11 => ?_⟩
    have s11 := same_upd (o := .lst [.ref p9, .ref p10]) hp11
    have h11 : upd G10 p11 (.lst [.ref p9, .ref p10]) p11 = some (.lst [.ref p9, .ref p10]) := upd_same
    generalize upd G10 p11 (.lst [.ref p9, .ref p10]) = G11 at s11 h11 ⊢
    refine ⟨p8, p11, _, _, rfl, rfl, SqL.of (s11 _ _ (s10 _ _ (s9 _ _ h8))), SqL.of h11, (by show 9 ≤ sizeLine; omega), fun p12 hp12 => ?_⟩
    rw [show [V.ref p1, V.ref p2, V.ref p3, V.ref p4, V.ref p5, V.ref p6, V.ref p7] ++ [V.ref p9, V.ref p10] = [.ref p1, .ref p2, .ref p3, .ref p4, .ref p5, .ref p6, .ref p7, .ref p9, .ref p10] from rfl]
    have s12 := same_upd (o := .lst [.ref p1, .ref p2, .ref p3, .ref p4, .ref p5, .ref p6, .ref p7, .ref p9, .ref p10]) hp12
    have h12 : upd G11 p12 (.lst [.ref p1, .ref p2, .ref p3, .ref p4, .ref p5, .ref p6, .ref p7, .ref p9, .ref p10]) p12 = some (.lst [.ref p1, .ref p2, .ref p3, .ref p4, .ref p5, .ref p6, .ref p7, .ref p9, .ref p10]) := upd_same
    generalize upd G11 p12 (.lst [.ref p1, .ref p2, .ref p3, .ref p4, .ref p5, .ref p6, .ref p7, .ref p9, .ref p10]) = G12 at s12 h12 ⊢
    refine ⟨_, rfl, .inl ⟨rfl, _, SqL.of h12⟩, _, rfl, _, rfl, (by show 4 ≤ sizeLine; omega), fun p13 hp13 => ?_⟩
    have s13 := same_upd (o := .lst [T [112, 108, 97, 99, 101], T tx0, T nb, T [97, 98, 99]]) hp13
    have h13 : upd G12 p13 (.lst [T [112, 108, 97, 99, 101], T tx0, T nb, T [97, 98, 99]]) p13 = some (.lst [T [112, 108, 97, 99, 101], T tx0, T nb, T [97, 98, 99]]) := upd_same
    generalize upd G12 p13 (.lst [T [112, 108, 97, 99, 101], T tx0, T nb, T [97, 98, 99]]) = G13 at s13 h13 ⊢
    refine ⟨p12, _, _, rfl, rfl, s13 _ _ h12, (by show 10 ≤ sizeLine; omega), ?_⟩
    rw [show [.ref p1, .ref p2, .ref p3, .ref p4, .ref p5, .ref p6, .ref p7, .ref p9, .ref p10] ++ [V.ref p13] = [.ref p1, .ref p2, .ref p3, .ref p4, .ref p5, .ref p6, .ref p7, .ref p9, .ref p10, .ref p13] from rfl]
    have h14 : upd G13 p12 (.lst [.ref p1, .ref p2, .ref p3, .ref p4, .ref p5, .ref p6, .ref p7, .ref p9, .ref p10, .ref p13]) p12 = some (.lst [.ref p1, .ref p2, .ref p3, .ref p4, .ref p5, .ref p6, .ref p7, .ref p9, .ref p10, .ref p13]) := upd_same
    have k14 : ∀ b o, G13 b = some o → b ≠ p12 → upd G13 p12 (.lst [.ref p1, .ref p2, .ref p3, .ref p4, .ref p5, .ref p6, .ref p7, .ref p9, .ref p10, .ref p13]) b = some o := fun b o e z => by rw [upd_ne z]; exact e
    generalize upd G13 p12 (.lst [.ref p1, .ref p2, .ref p3, .ref p4, .ref p5, .ref p6, .ref p7, .ref p9, .ref p10, .ref p13]) = G14 at h14 k14 ⊢
    obtain ⟨k, ek, hk⟩ := hz (stirZ c 21 / 7) 10 (by decide)
    have pn : nb.length ≤ 60 ∧ 10 ∉ nb ∧ 32 ∉ nb := ⟨hnl, fun z => by have := hna 10 z; omega, fun z => by have := hna 32 z; omega⟩
    have pt : tx0.length ≤ 60 ∧ 10 ∉ tx0 ∧ 32 ∉ tx0 := ⟨by omega, fun z => by have := hta 10 z; omega, fun z => by have := hta 32 z; omega⟩
    have pu : u.length ≤ 60 ∧ 10 ∉ u ∧ 32 ∉ u := ⟨by omega, fun z => by have := hua 10 z; omega, fun z => by have := hua 32 z; omega⟩
    have c1 := sC
    have e1 := c1.trans s1
    have e2 := e1.trans s2
    have e3 := e2.trans s3
    have e4 := e3.trans s4
    have e5 := e4.trans s5
    have e6 := e5.trans s6
    have e7 := e6.trans s7
    have e8 := e7.trans s8
    have e9 := e8.trans s9
    have e10 := e9.trans s10
    have e11 := e10.trans s11
    have e12 := e11.trans s12
    have e13 := e12.trans s13
    have f14 : Same H G14 := fun b o e => k14 b o (e13 b o e) fun z => by rw [z] at e; rw [e11 _ _ e] at hp12; cases hp12
    have fin : ∀ (b : Addr) (r : List (List Nat)), G13 b = some (.lst (r.map T)) → b ≠ p12 → H b = none → AskOk r → Q (.ref b) G14 := fun b r h1 h2 h3 h4 => q b r G14 f14 h3 (k14 b _ h1 h2) h4
    have a1 : AskOk [[114, 105, 110, 103]] := ⟨ask_of (fm := []) rfl (rfl) (by decide), fun z => (by cases z), Nat.le_of_ble_eq_true rfl, (al_cons (by decide) al_nil)⟩
    have a2 : AskOk [[114, 111, 119]] := ⟨ask_of (fm := []) rfl (rfl) (by decide), fun z => (by cases z), Nat.le_of_ble_eq_true rfl, (al_cons (by decide) al_nil)⟩
    have a3 : AskOk [[114, 105, 110, 103, 115]] := ⟨ask_of (fm := []) rfl (rfl) (by decide), fun z => (by cases z), Nat.le_of_ble_eq_true rfl, (al_cons (by decide) al_nil)⟩
    have a4 : AskOk [[114, 111, 119, 115]] := ⟨ask_of (fm := []) rfl (rfl) (by decide), fun z => (by cases z), Nat.le_of_ble_eq_true rfl, (al_cons (by decide) al_nil)⟩
    have a5 : AskOk [[114, 105, 110, 103], nb] := ⟨ask_of (fm := [110]) rfl (by simp only [List.map_cons, List.map_nil, hfn]; decide +kernel) (by decide), fun z => (by cases z), Nat.le_of_ble_eq_true rfl, (al_cons (by decide) (al_cons pn al_nil))⟩
    have a6 : AskOk [[114, 111, 119], nb] := ⟨ask_of (fm := [110]) rfl (by simp only [List.map_cons, List.map_nil, hfn]; decide +kernel) (by decide), fun z => (by cases z), Nat.le_of_ble_eq_true rfl, (al_cons (by decide) (al_cons pn al_nil))⟩
    have a7 : AskOk [[110, 117, 109, 98, 101, 114], tx0] := ⟨ask_of (fm := [116]) rfl (by simp only [List.map_cons, List.map_nil, htf]; decide +kernel) (by decide), fun z => (by cases z), Nat.le_of_ble_eq_true rfl, (al_cons (by decide) (al_cons pt al_nil))⟩
    have a9 : AskOk [[108, 101, 97, 100], tx0, u] := ⟨ask_of (fm := [116, 116]) rfl (by simp only [List.map_cons, List.map_nil, htf, huf]; decide +kernel) (by decide), fun z => (by cases z), Nat.le_of_ble_eq_true rfl, (al_cons (by decide) (al_cons pt (al_cons pu al_nil)))⟩
    have a10 : AskOk [[112, 105, 101, 99, 101], tx0, [51], nb, [55]] := ⟨ask_of (fm := [116, 110, 110, 110]) rfl (by simp only [List.map_cons, List.map_nil, htf, hfn]; decide +kernel) (by decide), fun z => (by cases z), Nat.le_of_ble_eq_true rfl, (al_cons (by decide) (al_cons pt (al_cons (by decide) (al_cons pn (al_cons (by decide) al_nil)))))⟩
    have a13 : AskOk [[112, 108, 97, 99, 101], tx0, nb, [97, 98, 99]] := ⟨ask_of (fm := [116, 110, 116]) rfl (by simp only [List.map_cons, List.map_nil, htf, hfn]; decide +kernel) (by decide), fun z => (by cases z), Nat.le_of_ble_eq_true rfl, (al_cons (by decide) (al_cons pt (al_cons pn (al_cons (by decide) al_nil))))⟩
    have key : ∀ v, [V.ref p1, V.ref p2, V.ref p3, V.ref p4, V.ref p5, V.ref p6, V.ref p7, V.ref p9, V.ref p10, V.ref p13][k]? = some v → Q v G14 := by
      have hk10 : k < 10 := by omega
      clear ek hk
      intro v hv
      match k, hv, hk10 with
      | 0, hv, _ =>
        obtain rfl := Option.some.inj hv
        exact fin p1 [[114, 105, 110, 103]] (s13 _ _ (s12 _ _ (s11 _ _ (s10 _ _ (s9 _ _ (s8 _ _ (s7 _ _ (s6 _ _ (s5 _ _ (s4 _ _ (s3 _ _ (s2 _ _ h1)))))))))))) (fun z => by have y := (s11 _ _ (s10 _ _ (s9 _ _ (s8 _ _ (s7 _ _ (s6 _ _ (s5 _ _ (s4 _ _ (s3 _ _ (s2 _ _ h1)))))))))); rw [z, hp12] at y; cases y) (back c1 hp1) a1
      | 1, hv, _ =>
        obtain rfl := Option.some.inj hv
        exact fin p2 [[114, 111, 119]] (s13 _ _ (s12 _ _ (s11 _ _ (s10 _ _ (s9 _ _ (s8 _ _ (s7 _ _ (s6 _ _ (s5 _ _ (s4 _ _ (s3 _ _ h2))))))))))) (fun z => by have y := (s11 _ _ (s10 _ _ (s9 _ _ (s8 _ _ (s7 _ _ (s6 _ _ (s5 _ _ (s4 _ _ (s3 _ _ h2))))))))); rw [z, hp12] at y; cases y) (back e1 hp2) a2
      | 2, hv, _ =>
        obtain rfl := Option.some.inj hv
        exact fin p3 [[114, 105, 110, 103, 115]] (s13 _ _ (s12 _ _ (s11 _ _ (s10 _ _ (s9 _ _ (s8 _ _ (s7 _ _ (s6 _ _ (s5 _ _ (s4 _ _ h3)))))))))) (fun z => by have y := (s11 _ _ (s10 _ _ (s9 _ _ (s8 _ _ (s7 _ _ (s6 _ _ (s5 _ _ (s4 _ _ h3)))))))); rw [z, hp12] at y; cases y) (back e2 hp3) a3
      | 3, hv, _ =>
        obtain rfl := Option.some.inj hv
        exact fin p4 [[114, 111, 119, 115]] (s13 _ _ (s12 _ _ (s11 _ _ (s10 _ _ (s9 _ _ (s8 _ _ (s7 _ _ (s6 _ _ (s5 _ _ h4))))))))) (fun z => by have y := (s11 _ _ (s10 _ _ (s9 _ _ (s8 _ _ (s7 _ _ (s6 _ _ (s5 _ _ h4))))))); rw [z, hp12] at y; cases y) (back e3 hp4) a4
      | 4, hv, _ =>
        obtain rfl := Option.some.inj hv
        exact fin p5 [[114, 105, 110, 103], nb] (s13 _ _ (s12 _ _ (s11 _ _ (s10 _ _ (s9 _ _ (s8 _ _ (s7 _ _ (s6 _ _ h5)))))))) (fun z => by have y := (s11 _ _ (s10 _ _ (s9 _ _ (s8 _ _ (s7 _ _ (s6 _ _ h5)))))); rw [z, hp12] at y; cases y) (back e4 hp5) a5
      | 5, hv, _ =>
        obtain rfl := Option.some.inj hv
        exact fin p6 [[114, 111, 119], nb] (s13 _ _ (s12 _ _ (s11 _ _ (s10 _ _ (s9 _ _ (s8 _ _ (s7 _ _ h6))))))) (fun z => by have y := (s11 _ _ (s10 _ _ (s9 _ _ (s8 _ _ (s7 _ _ h6))))); rw [z, hp12] at y; cases y) (back e5 hp6) a6
      | 6, hv, _ =>
        obtain rfl := Option.some.inj hv
        exact fin p7 [[110, 117, 109, 98, 101, 114], tx0] (s13 _ _ (s12 _ _ (s11 _ _ (s10 _ _ (s9 _ _ (s8 _ _ h7)))))) (fun z => by have y := (s11 _ _ (s10 _ _ (s9 _ _ (s8 _ _ h7)))); rw [z, hp12] at y; cases y) (back e6 hp7) a7
      | 7, hv, _ =>
        obtain rfl := Option.some.inj hv
        exact fin p9 [[108, 101, 97, 100], tx0, u] (s13 _ _ (s12 _ _ (s11 _ _ (s10 _ _ h9)))) (fun z => by have y := (s11 _ _ (s10 _ _ h9)); rw [z, hp12] at y; cases y) (back e8 hp9) a9
      | 8, hv, _ =>
        obtain rfl := Option.some.inj hv
        exact fin p10 [[112, 105, 101, 99, 101], tx0, [51], nb, [55]] (s13 _ _ (s12 _ _ (s11 _ _ h10))) (fun z => by have y := (s11 _ _ h10); rw [z, hp12] at y; cases y) (back e9 hp10) a10
      | 9, hv, _ =>
        obtain rfl := Option.some.inj hv
        exact fin p13 [[112, 108, 97, 99, 101], tx0, nb, [97, 98, 99]] h13 (fun z => by rw [z, h12] at hp13; cases hp13) (back e12 hp13) a13
    have hk' : k < [V.ref p1, V.ref p2, V.ref p3, V.ref p4, V.ref p5, V.ref p6, V.ref p7, V.ref p9, V.ref p10, V.ref p13].length := by show k < 10; omega
    exact ⟨_, rfl, _, rfl, _, _, rfl, rfl, (by show (0 : Int) < 10; decide), p12, _, _, _, rfl, rfl, SqL.of h14, (by show atI _ (stirZ c 21 / 7 % 10) = _; rw [ek]; exact atI_nat (List.getElem?_eq_getElem hk')), key _ (List.getElem?_eq_getElem hk')⟩


noncomputable def But (y : Addr) (H G : Hp) : Prop := ∀ b o, b ≠ y → H b = some o → G b = some o
theorem But.same {y : Addr} {H G G' : Hp} (h : But y H G) (s : Same G G') : But y H G' := fun b o hb e => s b o (h b o hb e)
noncomputable def BarT (t : List Nat) : Prop := t ≠ [] ∧ t.length ≤ 3 ∧ ∀ c ∈ t, 97 ≤ c ∧ c < 103
noncomputable def barRow (t : List Nat) : List (List Nat) := [[98, 97, 114], t]
noncomputable def noBar (tb ws : List (List Nat)) : List (List Nat) := ws.filter fun w => !tb.any fun b => sub b w
theorem noBar_nil (ws : List (List Nat)) : noBar [] ws = ws := List.filter_eq_self.mpr fun _ _ => rfl
theorem noBar_snoc (tb ws : List (List Nat)) (t : List Nat) : (noBar tb ws).filter (fun w => !sub t w) = noBar (tb ++ [t]) ws := by
  unfold noBar
  rw [List.filter_filter]
  refine List.filter_congr fun w _ => ?_
  rw [List.any_append, List.any_cons, List.any_nil, Bool.or_false, Bool.not_or, Bool.and_comm]
theorem six_le {ls : List (List Nat)} (hn : ls.Nodup) (h : ∀ x ∈ ls, ∃ c, x = [c] ∧ 97 ≤ c ∧ c < 103) : ls.length ≤ 6 := by
  refine Hg.nd_len (ms := [[97], [98], [99], [100], [101], [102]]) hn fun z hz => ?_
  obtain ⟨c, rfl, h1, h2⟩ := h z hz
  obtain ⟨d, hd, rfl⟩ : ∃ d, d < 6 ∧ c = 97 + d := ⟨c - 97, by omega, by omega⟩
  clear hz h1 h2
  revert d
  decide
noncomputable def spBarred (K : PySem.W.Frag) : Sp := fun vs H Q _ => ∃ (R W : Addr) (bs : List Addr) (ws : List (List Nat)) (n : Nat) (c : Int), vs = [.ref R, .ref W, .int c] ∧ H R = some (.lst (bs.map V.ref)) ∧ H W = some (.lst (ws.map T)) ∧ W ≠ R ∧ bs.length ≤ 10 ∧ WebOk ws n ∧
  ∀ (W' : Addr) (tb : List (List Nat)) (cs : List Addr) (H' : Hp), But R H H' → H' R = some (.lst ((bs ++ cs).map V.ref)) → Dt.R2 (fun t b => b ≠ R ∧ H' b = some (.lst ((barRow t).map T))) tb cs → tb.length ≤ 2 → (∀ t ∈ tb, BarT t) → noBar tb ws ≠ [] → W' ≠ R → H' W' = some (.lst ((noBar tb ws).map T)) → Q (.ref W') H'
theorem ok__law_barred {f : Addr} {fd : FuncData} (F : Fun K "_law_barred" "_law_barred" s__law_barred f fd) (tt : Txt K mg ad) (C__law_stir : Cal P w K mg base (CX1 P w) "_law_stir" 1 ["cell", "k"] spStir) : FnOk P w K mg base (CX1 P w) 2 f fd ["rows", "words", "n"] (spBarred K) := by
  refine F.okN sc__law_barred (fun vs H Q E h => ?_) (fun cdv A outer s H vs Q E hr h => ?_)
  · obtain ⟨R, W, bs, ws, n, c, rfl, _⟩ := h
    rfl
  · obtain ⟨R, W, bs, ws, n, c, rfl, hR, hW, hWR, hbl, hok, q⟩ := h
    have hu := Nat.lt_of_succ_lt (hu_of hr)
    have hs : sizeLine = 16777216 := sizeLine_eq
    obtain ⟨hne, hwl, ⟨hn, _⟩, hlt, hnd⟩ := id hok
    have hfl := flat_le (ls := ws) (n := n) fun x hx => Nat.le_of_eq (hlt x hx).1
    have hfl2 : ws.length * n ≤ 60 * 8 := Nat.mul_le_mul hwl hn.2
    have hall : ∀ c ∈ ws.flatten, 97 ≤ c ∧ c < 103 := fun c hc => by
      obtain ⟨x, hx, hc⟩ := List.mem_flatten.mp hc
      exact (hlt x hx).2 c hc
    refine ⟨_, (pss_cons (ps_set (i := 3) sc__law_barred.nd rfl (Or.inr rfl) (pe_callB (call_maxL rfl) (by rfl) tt.b_max PyProof.Rows.boot_max (pa_cons (pe_lst (pa_cons (pe_callB call_lenS (by rfl) tt.b_len PySem.boot_len (pa_cons (pe_callTy (call_setC rfl) (by rfl) tt.b_set (by decide +kernel) (pa_cons (pe_bm PySem.F.plainAttrs_str PySem.F.slot_str_join PySem.F.type_str_join mt_join (pe_strT [] (by decide +kernel)) (pa_cons (pv 1) pa_nil)) pa_nil)) pa_nil)) (pa_cons pe_int pa_nil))) pa_nil)))
      (pss_cons (ps_for PassesOwn.never rfl (pi_range1 (by rfl) tt.b_range (pa_cons (pe_op op_mod (pe_op op_fdiv (pv 2) pe_int) pe_int) pa_nil)) (pg_name (i := 4) sc__law_barred.nd rfl (Or.inl rfl)) (pss_cons (ps_set (i := 5) sc__law_barred.nd rfl (Or.inr rfl) (pe_op op_fdiv (pe_cal C__law_stir hr pass1 (pa_cons (pv 2) (pa_cons (pe_op op_add pe_int (pv 4)) pa_nil))) pe_int))
      (pss_cons (ps_set (i := 6) sc__law_barred.nd rfl (Or.inr rfl) (pe_bm PySem.F.plainAttrs_str PySem.F.slot_str_join PySem.F.type_str_join mt_join (pe_strT [] (by decide +kernel)) (pa_cons (pe_comp cs__law_barred_0 rfl (pi_range1 (by rfl) tt.b_range (pa_cons (pe_op op_add pe_int (pe_op op_mod (pv 5) pe_int)) pa_nil)) (fun cl C s' H' fp => (pe_ix ix_T (pe_strT [97, 98, 99, 100, 101, 102] (by decide +kernel)) (pe_op op_mod (pe_op op_fdiv (pe_cal C__law_stir hr pass1 (pa_cons (pv 6) (pa_cons (pv 0) pa_nil))) pe_int) (pv 4)) (fun _ _ => rfl)))) pa_nil)))
      (pss_cons (ps_setCompf (i := 7) cs__law_barred_1 rfl (pi_list (pv 1)) (fun cl C s' H' fp => (pt_cmpR op_notIn_str (pv 7) (pv 0) (by with_unfolding_all rfl))) (fun cl C s' H' fp => (pv 0)) sc__law_barred.nd rfl rfl)
      (pss_one (ps_if (pt_cmpR (op_ne_LT hu) (pv 7) (pe_lst pa_nil) (nomark _)) (pss_cons (ps_set (i := 1) sc__law_barred.nd rfl (Or.inl rfl) (pv 7))
      (pss_one (ps_expr (pe_bm PySem.F.plainAttrs_list PySem.F.slot_list_append PySem.F.type_list_append mt_append (pv 0) (pa_cons (pe_lst (pa_cons (pe_strT [98, 97, 114] (by decide +kernel)) (pa_cons (pv 6) pa_nil))) pa_nil))))) pss_nil))))))
      (pss_one (ps_ret (pv 1))))), ?_⟩
    (try rw [cxK2]); (try rw [cxK1])
    refine ⟨rfl, _, rfl, rfl, W, ws, rfl, SqL.of hW, (by omega), ws.flatten, rfl, fun c hc => (by have := hall c hc; omega), (by omega), fun D0 hD0 => ⟨D0, _, rfl, upd_same, ?_⟩⟩
    have h6 : (uniq (ws.flatten.map fun c => [c])).length ≤ 6 := six_le (uniq_nodup _) fun x hx => by
      obtain ⟨c, hc, rfl⟩ := List.mem_map.mp ((uniq_mem _ _).mp hx)
      exact ⟨c, rfl, hall c hc⟩
    generalize hk6 : (uniq (ws.flatten.map fun c => [c])).length = k6 at h6 ⊢
    refine ⟨(by show 2 ≤ sizeLine; omega), fun D1 hD1 => ?_⟩
    have s1 := same_upd (o := .lst [.int (k6 : Nat), .int 1]) hD1
    refine ⟨D1, [((k6 : Nat) : Int), 1], rfl, SqL.of upd_same, (fun z => by cases z), fun M hM hle => ?_⟩
    have h1M := hle 1 (by simp)
    have hM6 : M ≤ 6 := by
      rcases List.mem_cons.mp hM with rfl | hM
      · omega
      · rcases List.mem_cons.mp hM with rfl | hM
        · decide
        · cases hM
    have s01 := (same_upd hD0).trans s1
    obtain ⟨j, ej, hj⟩ := mod_nat (c / 900) 3 (by decide)
    refine ⟨_, rfl, _, _, rfl, rfl, ⟨by decide, by decide⟩, _, _, rfl, rfl, (by show (0 : Int) < 3; decide), _, rfl, (by show -2 ^ 62 ≤ c / 900 % 3; rw [ej]; omega), (by show c / 900 % 3 < 2 ^ 62; rw [ej]; omega), ?_⟩
    rw [ej, Int.toNat_natCast]
    refine for_range (fun i σ H2 => ∃ (W' : Addr) (tb : List (List Nat)) (cs : List Addr), But R H H2 ∧ H2 R = some (.lst ((bs ++ cs).map V.ref)) ∧ Dt.R2 (fun t b => b ≠ R ∧ H2 b = some (.lst ((barRow t).map T))) tb cs ∧ tb.length ≤ i ∧ (∀ t ∈ tb, BarT t) ∧ noBar tb ws ≠ [] ∧ W' ≠ R ∧ H2 W' = some (.lst ((noBar tb ws).map T)) ∧ ∃ v4 v5 v6 v7 : Option V, σ = [some (.ref R), some (.ref W'), some (.int c), some (.int M), v4, v5, v6, v7])
      ⟨W, [], [], fun b o _ e => s01 b o e, (by rw [List.append_nil]; exact s01 _ _ hR), .nil, Nat.zero_le _, fun t ht => (by cases ht), (by rw [noBar_nil]; exact hne), hWR, (by rw [noBar_nil]; exact s01 _ _ hW), none, none, none, none, rfl⟩ ?_ ?_
    · rintro i σ H2 hi ⟨W', tb, cs, hb, hR2, hcs, htl, htb, hnb, hWR', hW2, v4, v5, v6, v7, rfl⟩
      refine ⟨_, rfl, _, rfl, _, _, rfl, rfl, c, 40 + (0 + (i : Int)), rfl, ⟨by omega, by omega⟩, _, _, rfl, rfl, ⟨by decide, by decide⟩, ?_⟩
      dsimp only
      generalize stirZ c (40 + (0 + (i : Int))) / 7 = pt
      obtain ⟨l, el, hl⟩ := mod_nat pt 3 (by decide)
      refine ⟨rfl, _, rfl, _, _, rfl, rfl, (by show (0 : Int) < 3; decide), _, _, rfl, rfl, _, rfl, (by show -2 ^ 62 ≤ 1 + pt % 3; rw [el]; omega), (by show 1 + pt % 3 < 2 ^ 62; rw [el]; omega), ?_⟩
      dsimp only
      rw [el, show (1 + (l : Int)).toNat = l + 1 by omega]
      have hsix : ∀ z : Int, atI [97, 98, 99, 100, 101, 102] (z % M) = some (97 + (z % M).toNat) ∧ (z % M).toNat < 6 := fun z => by
        obtain ⟨k, ek, hk⟩ := mod_nat z M (by omega)
        rw [ek, Int.toNat_natCast]
        have hk6 : k < 6 := by omega
        clear ek hk
        revert k
        decide
      refine comp_range (fun j => T [97 + (stirZ pt (j : Nat) / 7 % M).toNat]) (by omega) (fun j H3 hj s3 N hN => ?_) fun D H3 hD s3 hd => ?_
      · refine ⟨_, rfl, _, rfl, pt, 0 + (j : Int), rfl, ⟨by omega, by omega⟩, _, _, rfl, rfl, ⟨by decide, by decide⟩, _, rfl, _, _, rfl, rfl, (by show 0 < M; omega), _, rfl, _, rfl, (by show 6 ≤ sizeLine; omega), _, (hsix _).1, ?_⟩
        rw [Int.zero_add]
        exact hN H3 (Same.refl _)
      rw [show (List.range (l + 1)).map (fun j => T [97 + (stirZ pt (j : Nat) / 7 % M).toNat]) = ((List.range (l + 1)).map fun j => [97 + (stirZ pt (j : Nat) / 7 % M).toNat]).map T by rw [List.map_map]; rfl] at hd
      have htl' : (((List.range (l + 1)).map fun j => [97 + (stirZ pt (j : Nat) / 7 % M).toNat]).flatten).length = l + 1 := by
        rw [flatN fun j => 97 + (stirZ pt (j : Nat) / 7 % M).toNat, List.length_map, List.length_range]
      have hta : ∀ x ∈ ((List.range (l + 1)).map fun j => [97 + (stirZ pt (j : Nat) / 7 % M).toNat]).flatten, 97 ≤ x ∧ x < 103 := fun x hx => by
        obtain ⟨y, hy, hx⟩ := List.mem_flatten.mp hx
        obtain ⟨j, _, rfl⟩ := List.mem_map.mp hy
        obtain rfl := List.mem_singleton.mp hx
        have := (hsix (stirZ pt (j : Nat) / 7)).2
        omega
      refine ⟨rfl, D, _, rfl, SqL.of hd, (by omega), ?_⟩
      generalize (((List.range (l + 1)).map fun j => [97 + (stirZ pt (j : Nat) / 7 % M).toNat]).flatten) = t at htl' hta ⊢
      have hbt : BarT t := ⟨fun z => (by rw [z] at htl'; cases htl'), by omega, hta⟩
      have hW3 := s3 _ _ hW2
      have hnl : (noBar tb ws).length ≤ 60 := Nat.le_trans (List.length_filter_le ..) hwl
      refine ⟨_, rfl, W', rfl, ⟨_, SqL.of hW3⟩, compf_texts (fun x => !sub t x) (SqL.of hW3) (by omega) (fun j x H4 hx s4 N hN => ⟨_, rfl, _, rfl, tx t, tx x, rfl, rfl, _, rfl, hN H4 (Same.refl _)⟩) (fun x H4 N hN => ⟨_, rfl, hN⟩) fun L H4 hL s4 hL4 => ?_⟩
      rw [noBar_snoc] at hL4
      have s34 := s3.trans s4
      refine ⟨_, rfl, (by show 0 ≤ sizeLine; omega), fun e he => ?_⟩
      have s5 := same_upd (o := .lst []) he
      have he5 : upd H4 e (.lst []) e = some (.lst ([].map T)) := upd_same
      generalize upd H4 e (.lst []) = H5 at s5 he5 ⊢
      refine ⟨L, e, _, [], rfl, rfl, SqL.of (s5 _ _ hL4), SqL.of he5, _, rfl, ?_⟩
      have hb5 := (hb.same s34).same s5
      have hR5 := s5 _ _ (s34 _ _ hR2)
      have hcs5 : Dt.R2 (fun t b => b ≠ R ∧ H5 b = some (.lst ((barRow t).map T))) tb cs := hcs.mono fun t b _ h => ⟨h.1, s5 _ _ (s34 _ _ h.2)⟩
      refine ite2 (fun z0 => ?_) (fun z0 => ?_)
      · have hne' : noBar (tb ++ [t]) ws ≠ [] := fun z => by rw [z] at z0; cases z0
        refine ⟨_, rfl, _, rfl, .inl ⟨rfl, _, SqL.of hR5⟩, _, rfl, (by show 2 ≤ sizeLine; omega), fun b hb' => ?_⟩
        have s6 := same_upd (o := .lst [T [98, 97, 114], T t]) hb'
        have h6 : upd H5 b (.lst [T [98, 97, 114], T t]) b = some (.lst ((barRow t).map T)) := upd_same
        generalize upd H5 b (.lst [T [98, 97, 114], T t]) = H6 at s6 h6 ⊢
        have hbR : b ≠ R := fun z => by rw [z, hR5] at hb'; cases hb'
        have hcl := hcs.len
        have hLR : L ≠ R := fun z => by rw [z, s3 _ _ hR2] at hL; cases hL
        refine ⟨R, _, _, rfl, rfl, s6 _ _ hR5, (by rw [List.length_map, List.length_append]; omega), ?_⟩
        refine ⟨L, tb ++ [t], cs ++ [b], fun d o hd e => ?_, ?_, ?_, ?_, ?_, hne', hLR, ?_, _, _, _, _, rfl⟩
        · rw [upd_ne hd]
          exact s6 _ _ (hb5 d o hd e)
        · rw [upd_same, ← List.append_assoc, List.map_append (l₁ := bs ++ cs)]
          rfl
        · exact Dt.R2.snoc (hcs5.mono fun t b _ h => ⟨h.1, by rw [upd_ne h.1]; exact s6 _ _ h.2⟩) ⟨hbR, by rw [upd_ne hbR]; exact h6⟩
        · rw [List.length_append, List.length_singleton]; omega
        · intro y hy
          rcases List.mem_append.mp hy with hy | hy
          · exact htb y hy
          · obtain rfl := List.mem_singleton.mp hy
            exact hbt
        · rw [upd_ne hLR]
          exact s6 _ _ (s5 _ _ hL4)
      · exact ⟨W', tb, cs, hb5, hR5, hcs5, by omega, htb, hnb, hWR', s5 _ _ (s4 _ _ hW3), _, _, _, _, rfl⟩
    · rintro σ H2 ⟨W', tb, cs, hb, hR2, hcs, htl, htb, hnb, hWR', hW2, v4, v5, v6, v7, rfl⟩
      exact ⟨_, rfl, q W' tb cs H2 hb hR2 hcs (by omega) htb hnb hWR' hW2⟩

theorem set_map {α β : Type} (f : α → β) : ∀ (l : List α) (i : Nat) (a : α), (l.map f).set i (f a) = (l.set i a).map f
  | [], _, _ => rfl
  | _ :: _, 0, _ => rfl
  | _ :: l, i + 1, a => by
    rw [List.map_cons, List.set_cons_succ, set_map f l i a, List.set_cons_succ, List.map_cons]
theorem ixN_nat {n i : Nat} (h : i < n) : ixN n (i : Int) = some i := by
  unfold ixN
  rw [if_pos (by omega), if_pos (by omega), Int.toNat_natCast]

theorem abc_range {k : Nat} (h : k ≤ 6) : ([97, 98, 99, 100, 101, 102] : List Nat).take k = (List.range k).map (97 + ·) := by
  have key : ∀ k : Nat, k < 7 → ([97, 98, 99, 100, 101, 102] : List Nat).take k = (List.range k).map (97 + ·) := by decide
  exact key k (by omega)
theorem fm_len {k : Nat} (l : List (List Nat)) : (l.flatMap fun w => (List.range k).map fun c => w ++ [97 + c]).length = l.length * k := by
  induction l with
  | nil => simp
  | cons a l ih => rw [List.flatMap_cons, List.length_append, ih, List.length_map, List.length_range, List.length_cons, Nat.add_mul]; omega

noncomputable def spWordsL : Sp := fun vs H Q _ => ∃ nn kn : Nat, vs = [.int (nn : Nat), .int (kn : Nat)] ∧ ((1 ≤ kn ∧ kn ≤ 6) ∧ nn ≤ 24 ∧ kn ^ nn ≤ 4096) ∧ ∀ D H', H D = none → Same H H' → H' D = some (.lst ((Wd.allW kn nn).map T)) → Q (.ref D) H'
theorem ok__law_words {f : Addr} {fd : FuncData} (F : Fun K "_law_words" "_law_words" s__law_words f fd) (tt : Txt K mg ad) : FnOk P w K mg base (CX1 P w) 1 f fd ["length", "kinds"] spWordsL := by
  refine F.okN sc__law_words (fun vs H Q E h => ?_) (fun cdv A outer s H vs Q E hr h => ?_)
  · obtain ⟨nn, kn, rfl, _⟩ := h
    rfl
  · obtain ⟨n, k, rfl, ⟨hk, hn, hpw⟩, q⟩ := h
    have hs : sizeLine = 16777216 := sizeLine_eq
    refine ⟨_, (pss_cons (ps_set (i := 2) sc__law_words.nd rfl (Or.inl rfl) (pe_lst (pa_cons (pe_strT [] (by decide +kernel)) pa_nil)))
      (pss_cons (ps_for PassesOwn.never rfl (pi_range1 (by rfl) tt.b_range (pa_cons (pv 0) pa_nil)) (pg_name (i := 3) sc__law_words.nd rfl (Or.inl rfl)) (pss_cons (ps_set (i := 4) sc__law_words.nd rfl (Or.inl rfl) (pe_lst pa_nil))
      (pss_cons (ps_for PassesOwn.never rfl (pi_list (pv 2)) (pg_name (i := 5) sc__law_words.nd rfl (Or.inl rfl)) (pss_one (ps_for PassesOwn.never rfl (pi_str (pe_slice sl_T (pe_strT [97, 98, 99, 100, 101, 102] (by decide +kernel)) po_none (po_some (pv 1)))) (pg_name (i := 6) sc__law_words.nd rfl (Or.inl rfl)) (pss_one (ps_expr (pe_bm PySem.F.plainAttrs_list PySem.F.slot_list_append PySem.F.type_list_append mt_append (pv 4) (pa_cons (pe_op op_add_T (pv 5) (pv 6)) pa_nil)))))))
      (pss_one (ps_set (i := 2) sc__law_words.nd rfl (Or.inl rfl) (pv 4))))))
      (pss_one (ps_ret (pv 2))))), ?_⟩
    (try rw [cxK2]); (try rw [cxK1])
    refine ⟨(by show 1 ≤ sizeLine; omega), fun p hp => ?_⟩
    refine ⟨_, rfl, _, rfl, by omega, by omega, ?_⟩
    rw [Int.toNat_natCast]
    refine for_range (fun i σ H2 => Same H H2 ∧ ∃ (D : Addr) (v1 v2 v3 v4 : Option V), H D = none ∧ H2 D = some (.lst ((Wd.allW k i).map T)) ∧ σ = [some (.int (n : Nat)), some (.int (k : Nat)), some (.ref D), v1, v2, v3, v4])
      ⟨(fun b o e => by rw [upd_ne (ne_of_none e hp)]; exact e), p, none, none, none, none, hp, upd_same, rfl⟩ ?_ ?_
    · rintro i σ H2 hi ⟨s2, D, v1, v2, v3, v4, hD, hd, rfl⟩
      have hpi : k ^ i * k ≤ 4096 := by
        rw [← Nat.pow_succ]
        exact Nat.le_trans (Nat.pow_le_pow_right (by omega) (by omega)) hpw
      refine ⟨(by show 0 ≤ sizeLine; omega), fun L hL => ?_⟩
      have sA : Same H2 (upd H2 L (.lst [])) := same_upd hL
      refine ⟨_, rfl, D, rfl, ⟨_, SqL.of (sA D _ hd)⟩, ?_⟩
      refine for_list (K := K) (a := D) (xs := (Wd.allW k i).map T) (fun j σ H3 => Same H2 H3 ∧ ∃ (v3 v4 : Option V), H3 L = some (.lst ((((Wd.allW k i).take j).flatMap fun w => (List.range k).map fun c => w ++ [97 + c]).map T)) ∧ σ = [some (.int (n : Nat)), some (.int (k : Nat)), some (.ref D), some (.int (0 + (i : Int))), some (.ref L), v3, v4])
        ⟨sA, _, _, upd_same, rfl⟩ (fun j σ H3 _ h => SqL.of (h.1 D _ hd)) ?_ ?_
      · rintro j y σ H3 hj ⟨s3, v3, v4, hLd, rfl⟩
        have hjl : j < (Wd.allW k i).length := by
          have := (List.getElem?_eq_some_iff.mp hj).1
          rw [List.length_map] at this
          exact this
        have hjx : (Wd.allW k i)[j]? = some (Wd.allW k i)[j] := List.getElem?_eq_getElem hjl
        obtain rfl : y = T (Wd.allW k i)[j] := by
          rw [List.getElem?_map, hjx] at hj
          exact (Option.some.inj hj).symm
        have hwl : ((Wd.allW k i)[j]).length = i := ((Wd.mem_allW (by omega)).mp (List.getElem_mem hjl)).1
        generalize (Wd.allW k i)[j] = wd at hjx hwl hj
        rw [Wd.allW_len] at hjl
        refine ⟨_, rfl, _, rfl, _, rfl, (by show 6 ≤ sizeLine; omega), ?_⟩
        rw [cutL_take, abc_range hk.2]
        refine ⟨_, rfl, ?_⟩
        refine for_text (l := (List.range k).map (97 + ·)) (fun m σ H4 => Same H2 H4 ∧ ∃ (v4 : Option V), H4 L = some (.lst (((((Wd.allW k i).take j).flatMap fun w => (List.range k).map fun c => w ++ [97 + c]) ++ ((((List.range k).map (97 + ·)).take m).map fun c => wd ++ [c])).map T)) ∧ σ = [some (.int (n : Nat)), some (.int (k : Nat)), some (.ref D), some (.int (0 + (i : Int))), some (.ref L), some (T wd), v4])
          ⟨s3, v4, by rw [List.take_zero, List.map_nil, List.append_nil]; exact hLd, rfl⟩ ?_ ?_
        · rintro m c σ H4 hm ⟨s4, v4, hL4, rfl⟩
          have hml : m < k := by
            have := (List.getElem?_eq_some_iff.mp hm).1
            rw [List.length_map, List.length_range] at this
            exact this
          refine ⟨_, rfl, .inl ⟨rfl, _, SqL.of hL4⟩, _, rfl, _, rfl, _, rfl, _, rfl, (by show wd.length + 1 ≤ sizeLine; omega), L, _, _, rfl, rfl, hL4, ?_, ?_⟩
          · rw [List.length_map, List.length_append, fm_len, List.length_map, List.length_take, List.length_take, Wd.allW_len, List.length_map, List.length_range]
            have : min j (k ^ i) * k ≤ k ^ i * k := Nat.mul_le_mul_right _ (Nat.min_le_right _ _)
            omega
          · refine ⟨fun b o e => by rw [upd_ne (ne_of_none e hL)]; exact s4 b o e, some (T [c]), ?_, rfl⟩
            rw [List.take_add_one, hm]
            refine upd_same.trans ?_
            simp
        · rintro σ H4 ⟨s4, v4, hL4, rfl⟩
          refine ⟨s4, _, _, ?_, rfl⟩
          rw [hL4, List.take_length, List.take_add_one, hjx, List.flatMap_append, List.map_map]
          simp
      · rintro σ H3 ⟨s3, v3, v4, hLd, rfl⟩
        rw [List.length_map, List.take_length, ← Wd.allW_succ k i (by omega)] at hLd
        refine ⟨_, rfl, s2.trans s3, L, _, _, _, _, ?_, hLd, rfl⟩
        cases hq : H L with
        | none => rfl
        | some o => have := s2 _ _ hq; rw [hL] at this; cases this
    · rintro σ H2 ⟨s2, D, v1, v2, v3, v4, hD, hd, rfl⟩
      exact ⟨_, rfl, q D H2 hD s2 hd⟩


noncomputable def spFolded (K : PySem.W.Frag) : Sp := fun vs H Q _ => ∃ (a : Addr) (ns : List Int) (m : Nat), vs = [.ref a, .int (m : Nat)] ∧ SqL K H a (ns.map V.int) ∧ (ns.length ≤ 63 ∧ 1 ≤ m ∧ m ≤ 1000) ∧ ∀ (D : Addr) (zs : List Int) (H' : Hp), Same H H' → H' D = some (.lst (zs.map V.int)) → zs.length = m → Q (.ref D) H'
theorem ok__law_folded {f : Addr} {fd : FuncData} (F : Fun K "_law_folded" "_law_folded" s__law_folded f fd) (tt : Txt K mg ad) : FnOk P w K mg base (CX1 P w) 1 f fd ["script", "many"] (spFolded K) := by
  refine F.okN sc__law_folded (fun vs H Q E h => ?_) (fun cdv A outer s H vs Q E hr h => ?_)
  · obtain ⟨a, ns, m, rfl, _⟩ := h
    rfl
  · obtain ⟨a, ns, m, rfl, hS, ⟨h63, hm1, hm2⟩, q⟩ := h
    have hs : sizeLine = 16777216 := sizeLine_eq
    refine ⟨_, (pss_cons (ps_set (i := 2) sc__law_folded.nd rfl (Or.inl rfl) (pe_op op_repL (pe_lst (pa_cons pe_int pa_nil)) (pv 1)))
      (pss_cons (ps_for PassesOwn.never rfl (pi_range1 (by rfl) tt.b_range (pa_cons (pe_callB call_len_seq (by rfl) tt.b_len PySem.boot_len (pa_cons (pv 0) pa_nil)) pa_nil)) (pg_name (i := 3) sc__law_folded.nd rfl (Or.inl rfl)) (pss_cons (ps_set (i := 4) sc__law_folded.nd rfl (Or.inl rfl) (pe_op op_mod (pe_ix ix_list (pv 0) (pv 3) (fun _ _ => rfl)) pe_int))
      (pss_one (ps_asg (pe_op op_mod (pe_op op_add (pe_op op_add (pe_op op_mul (pe_ix ix_list (pv 2) (pe_op op_mod (pv 3) (pv 1)) (fun _ _ => rfl)) pe_int) (pv 4)) pe_int) pe_int) (pg_sub (pv 2) (pe_op op_mod (pv 3) (pv 1)) set_list)))))
      (pss_one (ps_ret (pv 2))))), ?_⟩
    (try rw [cxK2]); (try rw [cxK1])
    refine ⟨(by show 1 ≤ sizeLine; omega), fun p1 hp1 => ?_⟩
    have t1 := same_upd (o := .lst [.int 0]) hp1
    refine ⟨_, rfl, p1, m, _, rfl, rfl, SqL.of upd_same, ⟨by omega, by show 1 * m ≤ sizeLine; omega⟩, fun D hD => ?_⟩
    have t2 := t1.trans (same_upd (o := .lst (List.replicate m [V.int 0]).flatten) hD)
    have hrep : ∀ m : Nat, (List.replicate m [V.int 0]).flatten = (List.replicate m (0 : Int)).map V.int := fun m => by
      induction m with
      | zero => rfl
      | succ m ih => rw [List.replicate_succ, List.flatten_cons, ih, List.replicate_succ, List.map_cons]; rfl
    rw [hrep] at t2 ⊢
    obtain ⟨H2, hH2, s2, hd2⟩ := namedD t2
    rw [← hH2]
    refine ⟨_, rfl, a, _, rfl, .inl (s2.seq hS), _, rfl, by omega, (by rw [List.length_map]; omega), ?_⟩
    rw [List.length_map, Int.toNat_natCast]
    refine for_range (fun i σ H3 => Same H H3 ∧ ∃ (zs : List Int) (v3 v4 : Option V), H3 D = some (.lst (zs.map V.int)) ∧ zs.length = m ∧ σ = [some (.ref a), some (.int (m : Nat)), some (.ref D), v3, v4]) ⟨s2, _, none, none, hd2, List.length_replicate .., rfl⟩ ?_ ?_
    · rintro i σ H3 hi ⟨s3, zs, v3, v4, hd3, hzl, rfl⟩
      obtain ⟨w1, hw1⟩ : ∃ w1, ns[i]? = some w1 := ⟨_, List.getElem?_eq_getElem hi⟩
      have z0 := Int.emod_nonneg ((i : Nat) : Int) (show ((m : Nat) : Int) ≠ 0 by omega)
      have z1 := Int.emod_lt_of_pos ((i : Nat) : Int) (show (0 : Int) < ((m : Nat) : Int) by omega)
      obtain ⟨j, hj⟩ : ∃ j : Nat, (0 + ((i : Nat) : Int)) % ((m : Nat) : Int) = (j : Int) := ⟨((0 + ((i : Nat) : Int)) % ((m : Nat) : Int)).toNat, by rw [Int.zero_add]; omega⟩
      have hjm : j < m := by rw [Int.zero_add] at hj; omega
      obtain ⟨w2, hw2⟩ : ∃ w2, zs[j]? = some w2 := ⟨_, List.getElem?_eq_getElem (by omega)⟩
      have hDn : H D = none := by
        cases e : H D with
        | none => rfl
        | some o => exact absurd ((t1 D o e).symm.trans hD) (fun z => nomatch z)
      have hm0 : (0 : Int) < ((m : Nat) : Int) := by omega
      refine ⟨_, rfl, _, rfl, a, _, _, _, rfl, rfl, s3.seq hS, (by rw [Int.zero_add]; exact atI_nat (by rw [List.getElem?_map, hw1]; rfl)), _, _, rfl, rfl, (by show (0 : Int) < 1000000007; decide), ?_⟩
      refine ⟨_, rfl, _, rfl, _, rfl, _, _, rfl, rfl, hm0, D, _, _, _, rfl, rfl, SqL.of hd3, (show atI _ ((0 + ((i : Nat) : Int)) % ((m : Nat) : Int)) = _ by rw [hj]; exact atI_nat (by rw [List.getElem?_map, hw2]; rfl)), _, _, rfl, rfl, .inr ⟨by decide, by decide⟩, _, rfl, _, _, rfl, rfl, _, _, rfl, rfl, _, _, rfl, rfl, (by show (0 : Int) < 1000000007; decide), ?_⟩
      refine ⟨_, rfl, _, rfl, _, rfl, _, _, rfl, rfl, hm0, D, _, _, j, rfl, rfl, hd3, (show ixN _ ((0 + ((i : Nat) : Int)) % ((m : Nat) : Int)) = _ by rw [hj]; exact ixN_nat (by rw [List.length_map]; omega)), ?_⟩
      rw [set_map V.int]
      exact ⟨fun b o e => by rw [upd_ne (ne_of_none e hDn)]; exact s3 b o e, _, _, _, upd_same, by rw [List.length_set]; exact hzl, rfl⟩
    · rintro σ H3 ⟨s3, zs, v3, v4, hd3, hzl, rfl⟩
      exact ⟨_, rfl, q D zs H3 s3 hd3 hzl⟩


noncomputable def szL : List (Int × Int) := [(4, 2), (3, 2), (2, 3), (2, 4), (1, 5), (2, 2), (1, 6), (1, 1), (3, 1)]
noncomputable def SizeD (nn kn : Nat) : Prop := (1 ≤ kn ∧ kn ≤ 6) ∧ 1 ≤ nn ∧ nn ≤ 8 ∧ kn ^ nn ≤ 30
theorem szL_ok : ∀ z ∈ szL, ∃ nn kn : Nat, z = (((nn : Nat) : Int), ((kn : Nat) : Int)) ∧ SizeD nn kn := by
  intro z hz
  have key : ∀ z ∈ szL, 0 ≤ z.1 ∧ 0 ≤ z.2 ∧ (1 ≤ z.2.toNat ∧ z.2.toNat ≤ 6) ∧ 1 ≤ z.1.toNat ∧ z.1.toNat ≤ 8 ∧ z.2.toNat ^ z.1.toNat ≤ 30 := by decide
  obtain ⟨h1, h2, h3⟩ := key z hz
  exact ⟨z.1.toNat, z.2.toNat, by rw [Int.toNat_of_nonneg h1, Int.toNat_of_nonneg h2], h3⟩
noncomputable def spSizeD : Sp := fun vs H Q _ => ∃ c : Int, vs = [.int c] ∧ ∀ (tp : Addr) (nn kn : Nat) (H' : Hp), Same H H' → H' tp = some (.tup [.int (nn : Nat), .int (kn : Nat)]) → SizeD nn kn → Q (.ref tp) H'
theorem ok__law_size {f : Addr} {fd : FuncData} (F : Fun K "_law_size" "_law_size" s__law_size f fd) (tt : Txt K mg ad) : FnOk P w K mg base (CX1 P w) 1 f fd ["n"] spSizeD := by
  refine F.okN sc__law_size (fun vs H Q E h => ?_) (fun cdv A outer s H vs Q E hr h => ?_)
  · obtain ⟨c, rfl, _⟩ := h
    rfl
  · obtain ⟨c, rfl, q⟩ := h
    have hs : sizeLine = 16777216 := sizeLine_eq
    refine ⟨_, (pss_cons (ps_set (i := 1) sc__law_size.nd rfl (Or.inl rfl) (pe_lst (pa_pairs [((_, _, _), (_, _, _), _, _), ((_, _, _), (_, _, _), _, _), ((_, _, _), (_, _, _), _, _), ((_, _, _), (_, _, _), _, _), ((_, _, _), (_, _, _), _, _), ((_, _, _), (_, _, _), _, _), ((_, _, _), (_, _, _), _, _), ((_, _, _), (_, _, _), _, _), ((_, _, _), (_, _, _), _, _)])))
      (pss_one (ps_ret (pe_ix ix_list (pv 1) (pe_op op_mod (pv 0) (pe_callB call_len_seq (by rfl) tt.b_len PySem.boot_len (pa_cN (pv 1) pa_nil))) (fun _ _ => rfl))))), ?_⟩
    (try rw [cxK2]); (try rw [cxK1])
    refine pairs_use _ fun vs H1 hl1 s1 hv1 => ?_
    have hl1 : vs.length = 9 := hl1
    refine ⟨(by rw [hl1, hs]; decide), fun D hD => ?_⟩
    have t1 := same_upd (o := .lst vs) hD
    obtain ⟨i, hi, hil⟩ : ∃ i : Nat, c % 9 = (i : Int) ∧ i < 9 := ⟨(c % 9).toNat, by omega, by omega⟩
    obtain ⟨z, hz⟩ : ∃ z, szL[i]? = some z := ⟨_, List.getElem?_eq_getElem (show i < szL.length from hil)⟩
    obtain ⟨tp, e1, e2⟩ := hv1 i z (show szL[i]? = some z from hz)
    obtain ⟨nn, kn, rfl, hok⟩ := szL_ok z (List.mem_of_getElem? hz)
    exact ⟨_, rfl, _, rfl, _, rfl, D, _, rfl, .inl (SqL.of upd_same), _, _, rfl, rfl, (by rw [hl1]; show (0 : Int) < 9; decide), D, _, _, _, rfl, rfl, SqL.of upd_same, (show atI vs (c % ((vs.length : Nat) : Int)) = some (.ref tp) by rw [hl1]; show atI vs (c % 9) = _; rw [hi]; exact atI_nat e1), q tp nn kn _ (s1.trans t1) (t1 _ _ e2) hok⟩


noncomputable def PageOk (nn kn : Nat) (rs : List (List (List Nat))) (ws : List (List Nat)) : Prop :=
  (rs = [[[97, 108, 108], dgI (nn : Nat), dgI (kn : Nat)]] ∧ ws = Wd.allW kn nn) ∨
  ((∀ w ∈ ws, w ∈ Wd.allW kn nn) ∧ ws.Nodup ∧ ws ≠ [] ∧ ∃ cut, cut < ws.length ∧ rs = (if 0 < cut then [[119, 111, 114, 100, 115] :: ws.take cut] else []) ++ [[119, 111, 114, 100, 115] :: ws.drop cut])
theorem web_in {nn kn : Nat} {ws : List (List Nat)} (hz : SizeD nn kn) (h1 : ∀ w ∈ ws, w ∈ Wd.allW kn nn) (h2 : ws.Nodup) (h3 : ws ≠ []) : WebOk ws nn ∧ ws.length ≤ 30 := by
  have hl : ws.length ≤ kn ^ nn := by rw [← Wd.allW_len]; exact Hg.nd_len h2 h1
  have h30 := hz.2.2.2
  refine ⟨⟨h3, by omega, ⟨⟨hz.2.1, hz.2.2.1⟩, FewN.len (by omega)⟩, fun x hx => ?_, h2⟩, by omega⟩
  obtain ⟨a, b⟩ := (Wd.mem_allW hz.1.1).mp (h1 x hx)
  exact ⟨a, fun c hc => by have := b c hc; have := hz.1.2; omega⟩
theorem all_nd {k n : Nat} (hk : 0 < k) : (Wd.allW k n).Nodup := (Wd.allW_sorted hk).imp fun h e => by subst e; exact List.lt_irrefl _ h
theorem PageOk.words {nn kn : Nat} {rs : List (List (List Nat))} {ws : List (List Nat)} (hz : SizeD nn kn) (h : PageOk nn kn rs ws) : (∀ w ∈ ws, w ∈ Wd.allW kn nn) ∧ ws.Nodup ∧ ws ≠ [] := by
  rcases h with ⟨_, rfl⟩ | ⟨h1, h2, h3, _⟩
  · refine ⟨fun w hw => hw, all_nd hz.1.1, fun z => ?_⟩
    have := congrArg List.length z
    rw [Wd.allW_len] at this
    exact absurd this (Nat.ne_of_gt (Nat.pow_pos hz.1.1))
  · exact ⟨h1, h2, h3⟩
theorem kind_ask {r : List (List Nat)} (h : isAsk r = true) : kindOf r = some [97, 115, 107] := by
  unfold kindOf
  rw [if_pos h]
theorem rep_form : ∀ {us : List (List Nat)}, (∀ u ∈ us, formOf u = [116]) → (us.map formOf).flatten = Wd.rep us.length [116]
  | [], _ => rfl
  | u :: us, h => by
    rw [List.map_cons, List.flatten_cons, List.length_cons, Wd.rep_succ, h u (List.mem_cons_self ..), rep_form fun x hx => h x (List.mem_cons_of_mem _ hx)]
theorem rep_ln (n : Nat) : (Wd.rep n [116]).length = n := by
  induction n with
  | zero => rfl
  | succ n ih => rw [Wd.rep_succ, List.length_append, ih, List.length_singleton, Nat.add_comm]
theorem kind_words {us : List (List Nat)} (h0 : us ≠ []) (h : ∀ u ∈ us, formOf u = [116]) : kindOf ([119, 111, 114, 100, 115] :: us) = some [119, 111, 114, 100, 115] := by
  have hf : rowForm ([119, 111, 114, 100, 115] :: us) = Wd.rep us.length [116] := rep_form h
  have ha : isAsk ([119, 111, 114, 100, 115] :: us) = false := rfl
  unfold kindOf
  rw [ha, hf, if_neg Bool.false_ne_true, if_neg (fun z => by cases z.1), if_neg (fun z => by cases z.1), if_pos]
  refine ⟨rfl, fun z => h0 (List.length_eq_zero_iff.mp ?_), ?_⟩
  · have := congrArg List.length z
    rwa [rep_ln] at this
  · rw [rep_ln]
theorem kind_bar {t : List Nat} (h : formOf t = [116]) : kindOf (barRow t) = some [98, 97, 114] := by
  have hf : rowForm (barRow t) = [116] := by
    show (([t].map formOf).flatten) = _
    rw [List.map_cons, h]
    rfl
  have ha : isAsk (barRow t) = false := rfl
  unfold kindOf
  rw [ha, hf, if_neg Bool.false_ne_true, if_neg (fun z => by cases z.1), if_pos ⟨rfl, rfl⟩]
theorem kind_all {a b : List Nat} (h1 : formOf a = [110]) (h2 : formOf b = [110]) : kindOf [[97, 108, 108], a, b] = some [97, 108, 108] := by
  have hf : rowForm [[97, 108, 108], a, b] = [110, 110] := by
    show (([a, b].map formOf).flatten) = _
    rw [List.map_cons, List.map_cons, h1, h2]
    rfl
  have ha : isAsk [[97, 108, 108], a, b] = false := rfl
  unfold kindOf
  rw [ha, hf, if_neg Bool.false_ne_true, if_pos ⟨rfl, rfl⟩]
theorem chain_cons {a k : List Nat} {r : List (List Nat)} {rs : List (List (List Nat))} (hk : kindOf r = some k) (hm : a ∈ (tabAt k aheadD).getD []) (h : chain k rs = true) : chain a (r :: rs) = true := by
  unfold chain
  rw [hk]
  dsimp only
  rw [decide_eq_true hm, h]
  rfl
noncomputable def aks : List (List Nat) := [[97, 108, 108], [119, 111, 114, 100, 115], [98, 97, 114], [97, 115, 107]]
theorem chain_asks : ∀ {rs : List (List (List Nat))} {a : List Nat}, (∀ r ∈ rs, isAsk r = true) → a ∈ aks → chain a rs = true
  | [], _, _, _ => rfl
  | r :: rs, a, h, ha => chain_cons (kind_ask (h r (List.mem_cons_self ..))) ha (chain_asks (fun x hx => h x (List.mem_cons_of_mem _ hx)) (by decide))
theorem chain_bars {as : List (List (List Nat))} (hq : ∀ r ∈ as, isAsk r = true) : ∀ {tb : List (List Nat)} {a : List Nat}, (∀ t ∈ tb, BarT t) → a ∈ aks.take 3 → chain a (tb.map barRow ++ as) = true
  | [], a, _, ha => chain_asks hq (List.mem_of_mem_take ha)
  | t :: tb, a, h, ha => by
    obtain ⟨h0, h1, h2⟩ := h t (List.mem_cons_self ..)
    exact chain_cons (kind_bar (txt_form h0 (by omega) h2)) ha (chain_bars hq (fun x hx => h x (List.mem_cons_of_mem _ hx)) (by decide))
theorem ask_head {r : List (List Nat)} (h : isAsk r = true) : (tabAt (r.headD []) asksD).isSome = true := by
  unfold isAsk at h
  split at h
  · rename_i e
    rw [e]
    rfl
  · cases h
theorem ask_not {r : List (List Nat)} (h : isAsk r = true) {k : List Nat} (hk : tabAt k asksD = none) : r.headD [] ≠ k := fun z => by
  have := ask_head h
  rw [z, hk] at this
  cases this
theorem fl_none {α : Type} {p : α → Bool} : ∀ {l : List α}, (∀ x ∈ l, p x = false) → l.filter p = []
  | [], _ => rfl
  | x :: l, h => by rw [List.filter_cons, h x (List.mem_cons_self ..), if_neg Bool.false_ne_true, fl_none fun y hy => h y (List.mem_cons_of_mem _ hy)]
theorem fl_all {α : Type} {p : α → Bool} {l : List α} (h : ∀ x ∈ l, p x = true) : l.filter p = l := List.filter_eq_self.mpr h
theorem jn_len (g : List Nat) : ∀ ls : List (List Nat), (jnS g ls).length ≤ ls.flatten.length + ls.length * g.length
  | [] => Nat.zero_le _
  | [l] => by show l.length ≤ _; rw [List.flatten_cons, List.length_append]; omega
  | l :: m :: r => by
    have ih := jn_len g (m :: r)
    show (l ++ g ++ jnS g (m :: r)).length ≤ _
    rw [List.length_append, List.length_append, List.flatten_cons, List.length_append, List.length_cons (a := l), Nat.succ_mul]
    omega
noncomputable def RowS (r : List (List Nat)) : Prop := r ≠ [] ∧ r.length ≤ 31 ∧ r.flatten.length + r.length ≤ 400 ∧ ∀ x ∈ r, x.length ≤ 60 ∧ 10 ∉ x ∧ 32 ∉ x
theorem rowS_of {r : List (List Nat)} {n : Nat} (h0 : r ≠ []) (h1 : r.length ≤ 31) (hn : r.length * n + r.length ≤ 400) (h60 : n ≤ 60) (h : ∀ x ∈ r, x.length ≤ n ∧ 10 ∉ x ∧ 32 ∉ x) : RowS r := by
  have := flat_le (ls := r) (n := n) fun x hx => (h x hx).1
  exact ⟨h0, h1, by omega, fun x hx => ⟨by have := (h x hx).1; omega, (h x hx).2⟩⟩
theorem let_ok {w : List Nat} (h : ∀ c ∈ w, 97 ≤ c ∧ c < 103) : 10 ∉ w ∧ 32 ∉ w := ⟨fun z => by have := h 10 z; omega, fun z => by have := h 32 z; omega⟩
theorem bar_row {t : List Nat} (h : BarT t) : RowS (barRow t) := rowS_of (n := 3) (fun z => by cases z) (by show 2 ≤ 31; decide) (by show 2 * 3 + 2 ≤ 400; decide) (by decide) (al_cons (by decide) (al_cons ⟨h.2.1, let_ok h.2.2⟩ al_nil))
theorem ask_row {r : List (List Nat)} (h : AskOk r) : RowS r := by
  obtain ⟨_, h1, h2, h3⟩ := h
  have : r.length * 60 ≤ 5 * 60 := Nat.mul_le_mul_right _ h2
  exact rowS_of h1 (by omega) (by omega) (Nat.le_refl _) h3
theorem words_row {us : List (List Nat)} {n : Nat} (hn : n ≤ 8) (hl : us.length ≤ 30) (h : ∀ x ∈ us, x.length = n ∧ ∀ c ∈ x, 97 ≤ c ∧ c < 103) : RowS ([119, 111, 114, 100, 115] :: us) := by
  refine rowS_of (n := 8) (fun z => by cases z) (by rw [List.length_cons]; omega) (by rw [List.length_cons]; omega) (by decide) (al_cons (by decide) fun x hx => ⟨?_, let_ok (h x hx).2⟩)
  have := (h x hx).1
  omega
theorem dg_ok {m : Nat} (h : m < 10 ^ 1) : (dgI (m : Nat)).length ≤ 8 ∧ 10 ∉ dgI (m : Nat) ∧ 32 ∉ dgI (m : Nat) := ⟨by have := dg_len (k := 0) h; omega, fun z => by have := dg_all m 10 z; omega, fun z => by have := dg_all m 32 z; omega⟩
theorem words_fm {us : List (List Nat)} {n : Nat} (hn : 1 ≤ n ∧ n ≤ 8) (h : ∀ x ∈ us, x.length = n ∧ ∀ c ∈ x, 97 ≤ c ∧ c < 103) : ∀ u ∈ us, formOf u = [116] := fun u hu => txt_form (fun z => by have := (h u hu).1; rw [z] at this; simp at this; omega) (by have := (h u hu).1; omega) (h u hu).2
theorem page_read {nn kn : Nat} {rs : List (List (List Nat))} {ws tb : List (List Nat)} {asks : List (List (List Nat))} (hz : SizeD nn kn) (hp : PageOk nn kn rs ws) (hb : ∀ t ∈ tb, BarT t) (hbl : tb.length ≤ 2) (hne : noBar tb ws ≠ []) (ha : ∀ r ∈ asks, AskOk r) (hal : asks.length ≤ 63) :
    let RS := rs ++ tb.map barRow ++ asks
    let t := jnS [10] (RS.map (jnS [32]))
    pageRows t = RS ∧ (∀ r ∈ RS, RowS r) ∧ RS.length ≤ 70 ∧ (RS.map (jnS [32])).flatten.length ≤ 30000 ∧ t.length ≤ 100000 ∧ RowsOk RS ∧ chain [116, 111, 112] RS = true ∧ Told RS ws ∧ ws.length ≤ 30 ∧ keptW RS ws = noBar tb ws ∧ WebOk (noBar tb ws) nn ∧ asksOf RS = asks := by
  intro RS t
  obtain ⟨w1, w2, w3⟩ := hp.words hz
  obtain ⟨hok, h30⟩ := web_in hz w1 w2 w3
  obtain ⟨_, _, ⟨hn, _⟩, hlt, _⟩ := id hok
  have hfm := words_fm hn hlt
  have hrs : (∀ r ∈ rs, RowS r) ∧ rs.length ≤ 2 ∧ rs ≠ [] := by
    rcases hp with ⟨rfl, _⟩ | ⟨_, _, _, cut, hc, rfl⟩
    · refine ⟨al_cons ?_ al_nil, (by show 1 ≤ 2; decide), fun z => by cases z⟩
      exact rowS_of (n := 8) (fun z => by cases z) (by show 3 ≤ 31; decide) (by show 3 * 8 + 3 ≤ 400; decide) (by decide) (al_cons (by decide) (al_cons (dg_ok (by have := hz.2.2.1; omega)) (al_cons (dg_ok (by have := hz.1.2; omega)) al_nil)))
    · have r1 : RowS ([119, 111, 114, 100, 115] :: ws.take cut) := words_row hn.2 (by rw [List.length_take]; omega) fun x hx => hlt x (List.mem_of_mem_take hx)
      have r2 : RowS ([119, 111, 114, 100, 115] :: ws.drop cut) := words_row hn.2 (by rw [List.length_drop]; omega) fun x hx => hlt x (List.mem_of_mem_drop hx)
      split
      · exact ⟨al_cons r1 (al_cons r2 al_nil), Nat.le_refl _, fun z => by cases z⟩
      · exact ⟨al_cons r2 al_nil, (by show 1 ≤ 2; decide), fun z => by cases z⟩
  have hRS : ∀ r ∈ RS, RowS r := fun r hr => by
    rcases List.mem_append.mp hr with hr | hr
    · rcases List.mem_append.mp hr with hr | hr
      · exact hrs.1 r hr
      · obtain ⟨t, ht, rfl⟩ := List.mem_map.mp hr
        exact bar_row (hb t ht)
    · exact ask_row (ha r hr)
  have hRl : RS.length ≤ 70 := by
    show (rs ++ tb.map barRow ++ asks).length ≤ 70
    rw [List.length_append, List.length_append, List.length_map]
    have := hrs.2.1
    omega
  have hRn : RS ≠ [] := fun z => hrs.2.2 (List.append_eq_nil_iff.mp (List.append_eq_nil_iff.mp z).1).1
  have hpr : pageRows t = RS := rows_jn hRn fun r hr => ⟨(hRS r hr).1, fun x hx => ((hRS r hr).2.2.2 x hx).2⟩
  have hfl : (RS.map (jnS [32])).flatten.length ≤ 30000 := by
    have := flat_le (ls := RS.map (jnS [32])) (n := 400) fun x hx => by
      obtain ⟨r, hr, rfl⟩ := List.mem_map.mp hx
      have h1 := jn_len [32] r
      have h2 := (hRS r hr).2.2.1
      have : r.length * [32].length = r.length := Nat.mul_one _
      omega
    rw [List.length_map] at this
    omega
  have htl : t.length ≤ 100000 := by
    have h1 := jn_len [10] (RS.map (jnS [32]))
    rw [List.length_map, show RS.length * [10].length = RS.length from Nat.mul_one _] at h1
    show (jnS [10] (RS.map (jnS [32]))).length ≤ 100000
    omega
  have hask : ∀ r ∈ asks, isAsk r = true := fun r hr => (ha r hr).1
  have hTa : toldW asks = [] := by
    unfold toldW
    rw [fl_none fun r hr => decide_eq_false (ask_not (hask r hr) rfl)]
    rfl
  have hTb : toldW (tb.map barRow) = [] := by
    unfold toldW
    rw [fl_none fun r hr => by obtain ⟨t, _, rfl⟩ := List.mem_map.mp hr; rfl]
    rfl
  have hTapp : ∀ a b, toldW (a ++ b) = toldW a ++ toldW b := fun a b => by
    unfold toldW
    rw [List.filter_append, List.flatMap_append]
  have hTR : toldW RS = toldW rs := by
    show toldW (rs ++ tb.map barRow ++ asks) = _
    rw [hTapp, hTapp, hTa, hTb, List.append_nil, List.append_nil]
  have hBR : barsOf RS = tb := by
    show barsOf (rs ++ tb.map barRow ++ asks) = _
    have b1 : rs.filter (fun r => decide (r.headD [] = [98, 97, 114])) = [] := fl_none fun r hr => by
      rcases hp with ⟨rfl, _⟩ | ⟨_, _, _, cut, hc, rfl⟩
      · obtain rfl := List.mem_singleton.mp hr
        rfl
      · split at hr
        · rcases List.mem_cons.mp hr with rfl | hr
          · rfl
          · obtain rfl := List.mem_singleton.mp hr
            rfl
        · obtain rfl := List.mem_singleton.mp hr
          rfl
    unfold barsOf
    rw [List.filter_append, List.filter_append, b1, fl_none fun r hr => decide_eq_false (ask_not (hask r hr) rfl), fl_all fun r hr => by obtain ⟨t, _, rfl⟩ := List.mem_map.mp hr; rfl, List.append_nil, List.nil_append, List.map_map]
    exact List.map_id' _
  have hAR : asksOf RS = asks := by
    show asksOf (rs ++ tb.map barRow ++ asks) = _
    have b1 : rs.filter (fun r => (tabAt (r.headD []) asksD).isSome) = [] := fl_none fun r hr => by
      rcases hp with ⟨rfl, _⟩ | ⟨_, _, _, cut, hc, rfl⟩
      · obtain rfl := List.mem_singleton.mp hr
        rfl
      · split at hr
        · rcases List.mem_cons.mp hr with rfl | hr
          · rfl
          · obtain rfl := List.mem_singleton.mp hr
            rfl
        · obtain rfl := List.mem_singleton.mp hr
          rfl
    unfold asksOf
    rw [List.filter_append, List.filter_append, b1, fl_all fun r hr => ask_head (hask r hr), fl_none fun r hr => by obtain ⟨t, _, rfl⟩ := List.mem_map.mp hr; rfl]
    rfl
  have hch : chain [116, 111, 112] RS = true := by
    show chain [116, 111, 112] (rs ++ tb.map barRow ++ asks) = true
    rw [List.append_assoc]
    have hcb : ∀ {a : List Nat}, a ∈ aks.take 3 → chain a (tb.map barRow ++ asks) = true := fun h => chain_bars hask hb h
    rcases hp with ⟨rfl, _⟩ | ⟨_, _, _, cut, hc, rfl⟩
    · exact chain_cons (kind_all (num_form (Nat.lt_of_lt_of_le (show nn < 10 by have := hz.2.2.1; omega) (by decide))) (num_form (Nat.lt_of_lt_of_le (show kn < 10 by have := hz.1.2; omega) (by decide)))) (by decide) (hcb (by decide))
    · have k2 : kindOf ([119, 111, 114, 100, 115] :: ws.drop cut) = some _ := kind_words (fun z => by have := congrArg List.length z; rw [List.length_drop, List.length_nil] at this; omega) fun u hu => hfm u (List.mem_of_mem_drop hu)
      split
      · rename_i h0
        have k1 : kindOf ([119, 111, 114, 100, 115] :: ws.take cut) = some _ := kind_words (fun z => by have := congrArg List.length z; rw [List.length_take, List.length_nil] at this; omega) fun u hu => hfm u (List.mem_of_mem_take hu)
        exact chain_cons k1 (by decide) (chain_cons k2 (by decide) (hcb (by decide)))
      · exact chain_cons k2 (by decide) (hcb (by decide))
  have htd : Told RS ws := by
    rcases id hp with ⟨rfl, rfl⟩ | ⟨_, _, _, cut, hc, e⟩
    · have l1 := dg_len (k := 0) (m := nn) (by have := hz.2.2.1; omega)
      have l2 := dg_len (k := 0) (m := kn) (by have := hz.1.2; omega)
      exact .inl ⟨_, _, nn, kn, rfl, ⟨by omega, by omega⟩, dg_read (by omega) (by have := hz.2.2.1; omega), dg_read (by omega) (by have := hz.1.2; omega), hz.1, ⟨hz.2.1, hz.2.2.1⟩, by have := hz.2.2.2; omega, rfl⟩
    · have e2 : toldW rs = ws := by
        rw [e]
        split
        · show toldW [_, _] = _
          unfold toldW
          rw [fl_all (l := [_, _]) (al_cons rfl (al_cons rfl al_nil))]
          show ws.take cut ++ (ws.drop cut ++ []) = ws
          rw [List.append_nil, List.take_append_drop]
        · rename_i h0
          obtain rfl : cut = 0 := by omega
          show toldW [_] = _
          unfold toldW
          rw [fl_all (l := [_]) (al_cons rfl al_nil)]
          show ws.drop 0 ++ [] = ws
          rw [List.append_nil]
          rfl
      refine .inr ⟨?_, by rw [hTR, e2]; omega, by rw [hTR, e2]⟩
      show ((rs ++ tb.map barRow ++ asks).headD []).headD [] ≠ _
      rw [e]
      split <;> exact fun z => by cases z
  refine ⟨hpr, hRS, hRl, hfl, htl, ⟨by omega, fun r hr => ⟨(hRS r hr).1, by have := (hRS r hr).2.1; omega, fun x hx => by have := ((hRS r hr).2.2.2 x hx).1; omega⟩⟩, hch, htd, h30, ?_, ?_, hAR⟩
  · unfold keptW noBar
    rw [hBR]
  · exact (web_in hz (fun w hw => w1 w (List.mem_filter.mp hw).1) (List.Pairwise.filter _ w2) hne).1


theorem cutV_fromA (ls : List (List Nat)) (k : Nat) : cutV (ls.map T) (some (k : Int)) none = (ls.drop k).map T := by
  rcases Nat.le_total k ls.length with h | h
  · exact cutV_from h
  · unfold cutV
    rw [HT.sIx_nat, HT.sIx_none, List.length_map, Nat.min_eq_right h, List.drop_eq_nil_of_le h, List.drop_eq_nil_of_le (by rw [List.length_map]; exact Nat.le_refl _), List.take_nil]
    rfl
theorem lg_le {m : Nat} (h : m ≤ 8) : m.log2 < 1920 := by
  by_cases h0 : m = 0
  · rw [h0]
    decide
  · exact (Nat.log2_lt h0).mpr (Nat.lt_of_le_of_lt h (by decide))
noncomputable def spPage (K : PySem.W.Frag) : Sp := fun vs H Q _ => ∃ (a : Addr) (ns : List Int) (c : Int), vs = [.ref a, .int c] ∧ SqL K H a (ns.map V.int) ∧ ns.length ≤ 63 ∧ ∀ (tp R W : Addr) (bs : List Addr) (nn kn : Nat) (rs : List (List (List Nat))) (ws : List (List Nat)) (H' : Hp), Same H H' → H' tp = some (.tup [.ref R, .ref W]) → H R = none → W ≠ R → H' R = some (.lst (bs.map V.ref)) → Dt.R2 (fun r b => b ≠ R ∧ H' b = some (.lst (r.map T))) rs bs → H' W = some (.lst (ws.map T)) → SizeD nn kn → PageOk nn kn rs ws → Q (.ref tp) H'
theorem ok__law_page {f : Addr} {fd : FuncData} (F : Fun K "_law_page" "_law_page" s__law_page f fd) (tt : Txt K mg ad) (C__law_stir : Cal P w K mg base (CX1 P w) "_law_stir" 1 ["cell", "k"] spStir) (C__law_size : Cal P w K mg base (CX1 P w) "_law_size" 1 ["n"] spSizeD) (C__law_words : Cal P w K mg base (CX1 P w) "_law_words" 1 ["length", "kinds"] spWordsL) (C__law_folded : Cal P w K mg base (CX1 P w) "_law_folded" 1 ["script", "many"] (spFolded K)) : FnOk P w K mg base (CX1 P w) 2 f fd ["script", "n"] (spPage K) := by
  refine F.okN sc__law_page (fun vs H Q E h => ?_) (fun cdv A outer s H vs Q E hr h => ?_)
  · obtain ⟨a, ns, c, rfl, _⟩ := h
    rfl
  · obtain ⟨a, ns, c, rfl, hS, h63, q⟩ := h
    have hs : sizeLine = 16777216 := sizeLine_eq
    refine ⟨_, (pss_cons (ps_asg (pe_cal C__law_size hr pass1 (pa_cons (pe_op op_fdiv (pv 1) pe_int) pa_nil)) (pg_tup rfl (pgs_cons (pg_name (i := 2) sc__law_page.nd rfl (Or.inl rfl)) (pgs_cons (pg_name (i := 3) sc__law_page.nd rfl (Or.inl rfl)) pgs_nil))))
      (pss_cons (ps_set (i := 4) sc__law_page.nd rfl (Or.inl rfl) (pe_cal C__law_words hr pass1 (pa_cons (pv 2) (pa_cons (pv 3) pa_nil))))
      (pss_cons (ps_set (i := 5) sc__law_page.nd rfl (Or.inl rfl) (pe_lst pa_nil))
      (pss_cons (ps_if (pt_cmpR op_eq_I (pe_op op_mod (pe_op op_fdiv (pv 1) pe_int) pe_int) pe_int (nomark _)) (pss_one (ps_expr (pe_bm PySem.F.plainAttrs_list PySem.F.slot_list_append PySem.F.type_list_append mt_append (pv 5) (pa_cons (pe_lst (pa_cons (pe_strT [97, 108, 108] (by decide +kernel)) (pa_cons (pe_callTy call_strI (by rfl) tt.b_str (by decide +kernel) (pa_cons (pv 2) pa_nil)) (pa_cons (pe_callTy call_strI (by rfl) tt.b_str (by decide +kernel) (pa_cons (pv 3) pa_nil)) pa_nil)))) pa_nil)))) (pss_cons (ps_set (i := 6) sc__law_page.nd rfl (Or.inl rfl) (pe_cal C__law_folded hr pass1 (pa_cons (pv 0) (pa_cons (pe_callB call_len_seq (by rfl) tt.b_len PySem.boot_len (pa_cons (pv 4) pa_nil)) pa_nil))))
      (pss_cons (ps_set (i := 7) sc__law_page.nd rfl (Or.inl rfl) (pe_lst pa_nil))
      (pss_cons (ps_for PassesOwn.never rfl (pi_range1 (by rfl) tt.b_range (pa_cons (pe_callB call_len_seq (by rfl) tt.b_len PySem.boot_len (pa_cons (pv 4) pa_nil)) pa_nil)) (pg_name (i := 8) sc__law_page.nd rfl (Or.inl rfl)) (pss_one (ps_if (pt_cmpR op_gt (pe_op op_mod (pe_op op_fdiv (pe_cal C__law_stir hr pass1 (pa_cons (pe_ix ix_list (pv 6) (pv 8) (fun _ _ => rfl)) (pa_cons pe_int pa_nil))) pe_int) pe_int) pe_int (nomark _)) (pss_one (ps_expr (pe_bm PySem.F.plainAttrs_list PySem.F.slot_list_append PySem.F.type_list_append mt_append (pv 7) (pa_cons (pe_ix ix_list (pv 4) (pv 8) (fun _ _ => rfl)) pa_nil)))) pss_nil)))
      (pss_cons (ps_set (i := 9) sc__law_page.nd rfl (Or.inl rfl) (pe_lst pa_nil))
      (pss_cons (ps_for PassesOwn.never rfl (pi_list (pe_op op_catL (pv 7) (pe_slice sl_list (pe_slice sl_list (pv 4) po_none (po_some pe_int)) (po_some (pe_callB call_len_seq (by rfl) tt.b_len PySem.boot_len (pa_cons (pv 7) pa_nil))) po_none))) (pg_name (i := 10) sc__law_page.nd rfl (Or.inl rfl)) (pss_one (ps_expr (pe_bm PySem.F.plainAttrs_list PySem.F.slot_list_insert PySem.F.type_list_insert mt_insert (pv 9) (pa_cons (pe_op op_mod (pe_op op_fdiv (pe_cal C__law_stir hr pass1 (pa_cons (pv 1) (pa_cons (pe_op op_add pe_int (pe_callB call_len_seq (by rfl) tt.b_len PySem.boot_len (pa_cons (pv 9) pa_nil))) pa_nil))) pe_int) (pe_op op_add (pe_callB call_len_seq (by rfl) tt.b_len PySem.boot_len (pa_cons (pv 9) pa_nil)) pe_int)) (pa_cons (pv 10) pa_nil))))))
      (pss_cons (ps_set (i := 4) sc__law_page.nd rfl (Or.inl rfl) (pv 9))
      (pss_cons (ps_set (i := 11) sc__law_page.nd rfl (Or.inl rfl) (pe_op op_fdiv (pe_op op_mul (pe_op op_mod (pe_op op_fdiv (pv 1) pe_int) pe_int) (pe_callB call_len_seq (by rfl) tt.b_len PySem.boot_len (pa_cons (pv 4) pa_nil))) pe_int))
      (pss_cons (ps_expr (pe_bm PySem.F.plainAttrs_list PySem.F.slot_list_append PySem.F.type_list_append mt_append (pv 5) (pa_cons (pe_op op_catL (pe_lst (pa_cons (pe_strT [119, 111, 114, 100, 115] (by decide +kernel)) pa_nil)) (pe_slice sl_list (pv 4) (po_some (pv 11)) po_none)) pa_nil)))
      (pss_one (ps_if (pt_cmpR op_gt (pv 11) pe_int (nomark _)) (pss_one (ps_expr (pe_bm PySem.F.plainAttrs_list PySem.F.slot_list_insert PySem.F.type_list_insert mt_insert (pv 5) (pa_cons pe_int (pa_cons (pe_op op_catL (pe_lst (pa_cons (pe_strT [119, 111, 114, 100, 115] (by decide +kernel)) pa_nil)) (pe_slice sl_list (pv 4) po_none (po_some (pv 11)))) pa_nil))))) pss_nil)))))))))))
      (pss_one (ps_ret (pe_tup (pa_cons (pv 5) (pa_cons (pv 4) pa_nil))))))))), ?_⟩
    (try rw [cxK2]); (try rw [cxK1])
    refine ⟨_, rfl, _, _, rfl, rfl, ⟨by decide, by decide⟩, _, rfl, fun tq nn kn H1 s1 htq hz => ?_⟩
    refine ⟨tq, _, rfl, SqT.of htq, rfl, _, _, rfl, _, _, rfl, rfl, ?_⟩
    have h30 := hz.2.2.2
    refine ⟨_, rfl, _, rfl, nn, kn, rfl, ⟨hz.1, by have := hz.2.2.1; omega, by omega⟩, fun W H2 hWn s2 hW => ?_⟩
    refine ⟨(by show 0 ≤ sizeLine; omega), fun R hR => ?_⟩
    have s3 := same_upd (o := .lst []) hR
    have hR3 : upd H2 R (.lst []) R = some (.lst []) := upd_same
    generalize upd H2 R (.lst []) = H3 at s3 hR3 ⊢
    have s12 := s1.trans s2
    have hRn : H R = none := back s12 hR
    have hWR : W ≠ R := fun z => by rw [z, hR] at hW; cases hW
    have hW3 := s3 _ _ hW
    have hal := Wd.allW_len kn nn
    refine ⟨_, rfl, _, _, rfl, rfl, ⟨by decide, by decide⟩, _, _, rfl, rfl, (by show (0 : Int) < 3; decide), _, rfl, _, rfl, _, rfl, ?_⟩
    refine ite2 (fun h0 => ?_) (fun h0 => ?_)
    · refine ⟨_, rfl, .inl ⟨rfl, _, SqL.of hR3⟩, _, rfl, _, rfl, lg_le (by have := hz.2.2.1; omega), _, rfl, _, rfl, lg_le (by have := hz.1.2; omega), (by show 3 ≤ sizeLine; omega), fun b hb => ?_⟩
      have s4 := same_upd (o := .lst [T [97, 108, 108], T (dgI (nn : Nat)), T (dgI (kn : Nat))]) hb
      have h4 : upd H3 b (.lst [T [97, 108, 108], T (dgI (nn : Nat)), T (dgI (kn : Nat))]) b = some (.lst [T [97, 108, 108], T (dgI (nn : Nat)), T (dgI (kn : Nat))]) := upd_same
      generalize upd H3 b (.lst [T [97, 108, 108], T (dgI (nn : Nat)), T (dgI (kn : Nat))]) = H4 at s4 h4 ⊢
      have hbR : b ≠ R := fun z => by rw [z, hR3] at hb; cases hb
      refine ⟨R, _, _, rfl, rfl, s4 _ _ hR3, (by show 1 ≤ sizeLine; omega), ?_⟩
      refine ⟨_, rfl, _, rfl, (by show 2 ≤ sizeLine; omega), fun tp htp => ?_⟩
      have s5 := same_upd (o := .tup [.ref R, .ref W]) htp
      refine q tp R W [b] nn kn [[[97, 108, 108], dgI (nn : Nat), dgI (kn : Nat)]] (Wd.allW kn nn) _ (fun d o e => s5 d o ?_) upd_same hRn hWR (s5 _ _ upd_same) (.cons ⟨hbR, s5 _ _ (by rw [upd_ne hbR]; exact h4)⟩ .nil) (s5 _ _ (by rw [upd_ne hWR]; exact s4 _ _ hW3)) hz (.inl ⟨rfl, rfl⟩)
      rw [upd_ne (fun z => by rw [z, hRn] at e; cases e)]
      exact s4 _ _ (s3 _ _ (s12 _ _ e))
    · refine ⟨_, rfl, _, rfl, W, _, rfl, .inl (SqL.of hW3), a, ns, (Wd.allW kn nn).length, (by rw [List.length_map]; rfl), (s12.trans s3).seq hS, ⟨h63, (by rw [hal]; exact Nat.pow_pos hz.1.1), (by omega)⟩, fun C zs H4 s4 hC hzl => ?_⟩
      refine ⟨(by show 0 ≤ sizeLine; omega), fun L hL => ?_⟩
      have s5 := same_upd (o := .lst []) hL
      have hL5 : upd H4 L (.lst []) L = some (.lst []) := upd_same
      generalize upd H4 L (.lst []) = H5 at s5 hL5 ⊢
      refine ⟨_, rfl, W, _, rfl, .inl (SqL.of (s5 _ _ (s4 _ _ hW3))), _, rfl, (by omega), (by rw [List.length_map]; omega), ?_⟩
      rw [List.length_map, Int.toNat_natCast]
      refine for_range (fun i σ G => Same H4 G ∧ ∃ (us : List (List Nat)) (v8 : Option V), us.Sublist ((Wd.allW kn nn).take i) ∧ G L = some (.lst (us.map T)) ∧ σ = [some (.ref a), some (.int c), some (.int (nn : Nat)), some (.int (kn : Nat)), some (.ref W), some (.ref R), some (.ref C), some (.ref L), v8, none, none, none])
        ⟨s5, [], none, List.nil_sublist _, hL5, rfl⟩ ?_ ?_
      · rintro i σ G hi ⟨sG, us, v8, hsub, hLG, rfl⟩
        obtain ⟨zi, hzi⟩ : ∃ z, zs[i]? = some z := ⟨_, List.getElem?_eq_getElem (by omega)⟩
        obtain ⟨wi, hwi⟩ : ∃ x, (Wd.allW kn nn)[i]? = some x := ⟨_, List.getElem?_eq_getElem (by omega)⟩
        have hul := hsub.length_le
        rw [List.length_take] at hul
        refine ⟨_, rfl, _, rfl, C, _, _, _, rfl, rfl, SqL.of (sG _ _ hC), (by rw [Int.zero_add]; exact atI_nat (by rw [List.getElem?_map, hzi]; rfl)), zi, 23, rfl, ⟨by decide, by decide⟩, _, _, rfl, rfl, ⟨by decide, by decide⟩, _, _, rfl, rfl, (by show (0 : Int) < 3; decide), _, _, rfl, rfl, _, rfl, ?_⟩
        refine ite2 (fun h1 => ?_) (fun h1 => ?_)
        · refine ⟨_, rfl, .inl ⟨rfl, _, SqL.of hLG⟩, _, rfl, _, rfl, W, _, _, _, rfl, rfl, SqL.of (sG _ _ (s4 _ _ hW3)), (by rw [Int.zero_add]; exact atI_nat (by rw [List.getElem?_map, hwi]; rfl)), L, _, _, rfl, rfl, hLG, (by rw [List.length_map]; omega), ?_⟩
          refine ⟨fun b o e => ?_, us ++ [wi], _, ?_, ?_, rfl⟩
          · rw [upd_ne (fun z => by rw [z, hL] at e; cases e)]
            exact sG b o e
          · rw [List.take_add_one, hwi]
            exact hsub.append (List.Sublist.refl _)
          · rw [upd_same, List.map_append]
            rfl
        · refine ⟨sG, us, _, hsub.trans ?_, hLG, rfl⟩
          rw [List.take_add_one]
          exact List.sublist_append_left ..
      · rintro σ G ⟨sG, us, v8, hsub, hLG, rfl⟩
        rw [List.take_length] at hsub
        refine ⟨(by show 0 ≤ sizeLine; omega), fun M hM => ?_⟩
        have s6 := same_upd (o := .lst []) hM
        have hM6 : upd G M (.lst []) M = some (.lst []) := upd_same
        generalize upd G M (.lst []) = H6 at s6 hM6 ⊢
        have hLM := s6 _ _ hLG
        have s46 := sG.trans s6
        have hW6 := s46 _ _ (s4 _ _ hW3)
        have hR6 := s46 _ _ (s4 _ _ hR3)
        have hul := hsub.length_le
        refine ⟨_, rfl, _, rfl, _, rfl, W, _, rfl, SqL.of hW6, fun p1 hp1 => ?_⟩
        rw [show cutV ((Wd.allW kn nn).map T) none (some 1) = ((Wd.allW kn nn).take 1).map T from cutV_to (k := 1) (by rw [hal]; exact Nat.pow_pos hz.1.1)]
        have s7 := same_upd (o := .lst (((Wd.allW kn nn).take 1).map T)) hp1
        have h7 : upd H6 p1 (.lst (((Wd.allW kn nn).take 1).map T)) p1 = some (.lst (((Wd.allW kn nn).take 1).map T)) := upd_same
        generalize upd H6 p1 (.lst (((Wd.allW kn nn).take 1).map T)) = H7 at s7 h7 ⊢
        refine ⟨_, rfl, L, _, rfl, .inl (SqL.of (s7 _ _ hLM)), _, rfl, p1, _, rfl, SqL.of h7, fun p2 hp2 => ?_⟩
        rw [List.length_map, cutV_fromA]
        have s8 := same_upd (o := .lst ((((Wd.allW kn nn).take 1).drop us.length).map T)) hp2
        have h8 : upd H7 p2 (.lst ((((Wd.allW kn nn).take 1).drop us.length).map T)) p2 = some (.lst ((((Wd.allW kn nn).take 1).drop us.length).map T)) := upd_same
        generalize upd H7 p2 (.lst ((((Wd.allW kn nn).take 1).drop us.length).map T)) = H8 at s8 h8 ⊢
        have hvs : ∃ vs, us ++ ((Wd.allW kn nn).take 1).drop us.length = vs ∧ (∀ x ∈ vs, x ∈ Wd.allW kn nn) ∧ vs.Nodup ∧ vs ≠ [] ∧ vs.length ≤ 30 := by
          refine ⟨_, rfl, ?_⟩
          have hnd := all_nd (k := kn) (n := nn) hz.1.1
          cases us with
          | nil =>
            have h1 : ((Wd.allW kn nn).take 1).length = 1 := by rw [List.length_take, hal]; have := Nat.pow_pos (n := nn) hz.1.1; omega
            refine ⟨fun x hx => List.mem_of_mem_take hx, hnd.sublist (List.take_sublist ..), fun z => ?_, ?_⟩
            · rw [show [] ++ ((Wd.allW kn nn).take 1).drop ([] : List (List Nat)).length = (Wd.allW kn nn).take 1 from rfl] at z
              rw [z] at h1
              cases h1
            · show ((Wd.allW kn nn).take 1).length ≤ 30
              omega
          | cons u us =>
            rw [List.drop_eq_nil_of_le (by rw [List.length_take, List.length_cons]; omega), List.append_nil]
            exact ⟨fun x hx => hsub.subset hx, hnd.sublist hsub, fun z => (by cases z), by omega⟩
        refine ⟨L, p2, _, _, rfl, rfl, SqL.of (s8 _ _ (s7 _ _ hLM)), SqL.of h8, (by rw [List.length_map, List.length_map, List.length_drop, List.length_take]; omega), fun p3 hp3 => ?_⟩
        rw [← List.map_append]
        obtain ⟨vs, evs, hv1, hv2, hv3, hv4⟩ := hvs
        rw [evs]
        have s9 := same_upd (o := .lst (vs.map T)) hp3
        have h9 : upd H8 p3 (.lst (vs.map T)) p3 = some (.lst (vs.map T)) := upd_same
        generalize upd H8 p3 (.lst (vs.map T)) = H9 at s9 h9 ⊢
        have s69 := s7.trans (s8.trans s9)
        have hMR : M ≠ R := fun z => by rw [z, sG _ _ (s4 _ _ hR3)] at hM; cases hM
        have hMn : ∀ b o, G b = some o → b ≠ M := fun b o e z => by rw [z, hM] at e; cases e
        have hp3M : p3 ≠ M := fun z => by rw [z, s8 _ _ (s7 _ _ hM6)] at hp3; cases hp3
        refine ⟨p3, rfl, ⟨_, SqL.of h9⟩, ?_⟩
        refine for_list (K := K) (a := p3) (xs := vs.map T) (fun i σ G2 => But M H9 G2 ∧ ∃ (ms : List (List Nat)) (v10 : Option V), ms.Perm (vs.take i) ∧ G2 M = some (.lst (ms.map T)) ∧ σ = [some (.ref a), some (.int c), some (.int (nn : Nat)), some (.int (kn : Nat)), some (.ref W), some (.ref R), some (.ref C), some (.ref L), v8, some (.ref M), v10, none])
          ⟨fun b o _ e => e, [], none, List.Perm.refl _, s69 _ _ hM6, rfl⟩ (fun i σ G2 _ h => SqL.of (h.1 p3 _ hp3M h9)) ?_ ?_
        · rintro i x σ G2 hx ⟨sG2, ms, v10, hpm, hM2, rfl⟩
          rw [List.getElem?_map, Option.map_eq_some_iff] at hx
          obtain ⟨x, hx, rfl⟩ := hx
          have hi := (List.getElem?_eq_some_iff.mp hx).1
          have hml : ms.length = i := by rw [hpm.length_eq, List.length_take]; omega
          obtain ⟨m, hm, hml2⟩ := mod_nat (stirZ c (24 + (((ms.map T).length : Nat) : Int)) / 7) ((((ms.map T).length : Nat) : Int) + 1) (by omega)
          rw [List.length_map] at hml2
          refine ⟨_, rfl, .inl ⟨rfl, _, SqL.of hM2⟩, _, rfl, _, rfl, M, _, rfl, .inl (SqL.of hM2), _, _, rfl, rfl, c, _, rfl, ⟨by omega, by rw [List.length_map]; omega⟩, _, _, rfl, rfl, ⟨by decide, by decide⟩, _, rfl, M, _, rfl, .inl (SqL.of hM2), _, _, rfl, rfl, _, _, rfl, rfl, (by show (0 : Int) < (((ms.map T).length : Nat) : Int) + 1; omega), _, rfl, M, _, m, T x, rfl, (by show [V.int (stirZ c (24 + (((ms.map T).length : Nat) : Int)) / 7 % ((((ms.map T).length : Nat) : Int) + 1)), T x] = _; rw [hm]), hM2, (by rw [List.length_map]; omega), (by rw [List.length_map]; omega), ?_⟩
          refine ⟨fun b o hb e => by rw [upd_ne hb]; exact sG2 b o hb e, ms.take m ++ x :: ms.drop m, _, ?_, ?_, rfl⟩
          · rw [List.take_add_one, hx]
            refine List.perm_middle.trans ?_
            rw [List.take_append_drop]
            exact (List.Perm.cons x hpm).trans (List.perm_append_comm (l₁ := [x]))
          · rw [upd_same, List.map_append, List.map_cons, List.map_take, List.map_drop]
        · rintro σ G2 ⟨sG2, ms, v10, hpm, hM2, rfl⟩
          rw [List.length_map, List.take_length] at hpm
          have hml : ms.length ≤ 30 := by rw [hpm.length_eq]; exact hv4
          have hm1 : ∀ x ∈ ms, x ∈ Wd.allW kn nn := fun x hx => hv1 x (hpm.mem_iff.mp hx)
          have hm2 : ms.Nodup := hpm.nodup_iff.mpr hv2
          have hm3 : ms ≠ [] := fun z => hv3 (by rw [z] at hpm; exact hpm.symm.eq_nil)
          have hRM : R ≠ M := fun z => hMR z.symm
          have hR9 := sG2 R _ hRM (s69 _ _ hR6)
          have hHG : Same H G2 := fun b o e => sG2 b o (hMn b o (sG _ _ (s4 _ _ (s3 _ _ (s12 _ _ e))))) (s69 _ _ (s46 _ _ (s4 _ _ (s3 _ _ (s12 _ _ e)))))
          obtain ⟨j, ej, hj⟩ := mod_nat (c / 300) 3 (by decide)
          have hcut : c / 300 % 3 * (((ms.map T).length : Nat) : Int) / 4 = ((j * ms.length / 4 : Nat) : Int) := by rw [ej, List.length_map, ← Int.natCast_mul, Int.natCast_ediv]; rfl
          have hj2 : j * ms.length ≤ 2 * ms.length := Nat.mul_le_mul_right _ (by omega)
          have hmp : 0 < ms.length := List.length_pos_iff.mpr hm3
          refine ⟨_, rfl, _, rfl, _, _, rfl, rfl, ⟨by decide, by decide⟩, _, _, rfl, rfl, (by show (0 : Int) < 3; decide), _, rfl, M, _, rfl, .inl (SqL.of hM2), _, _, rfl, rfl, .inl ⟨by show -2 ^ 64 < c / 300 % 3; omega, by show c / 300 % 3 < 2 ^ 64; omega⟩, _, _, rfl, rfl, ⟨by decide, by decide⟩, ?_⟩
          dsimp only
          rw [hcut]
          have hcl : j * ms.length / 4 < ms.length := by omega
          generalize j * ms.length / 4 = cut at hcl ⊢
          refine ⟨_, rfl, .inl ⟨rfl, _, SqL.of hR9⟩, (by show 1 ≤ sizeLine; omega), fun p4 hp4 => ?_⟩
          have t4 := same_upd (o := .lst [T [119, 111, 114, 100, 115]]) hp4
          have h4 : upd G2 p4 (.lst [T [119, 111, 114, 100, 115]]) p4 = some (.lst [T [119, 111, 114, 100, 115]]) := upd_same
          generalize upd G2 p4 (.lst [T [119, 111, 114, 100, 115]]) = G4 at t4 h4 ⊢
          refine ⟨_, rfl, _, rfl, _, rfl, M, _, rfl, SqL.of (t4 _ _ hM2), fun p5 hp5 => ?_⟩
          rw [cutV_fromA]
          have t5 := same_upd (o := .lst ((ms.drop cut).map T)) hp5
          have h5 : upd G4 p5 (.lst ((ms.drop cut).map T)) p5 = some (.lst ((ms.drop cut).map T)) := upd_same
          generalize upd G4 p5 (.lst ((ms.drop cut).map T)) = G5 at t5 h5 ⊢
          refine ⟨p4, p5, _, _, rfl, rfl, SqL.of (t5 _ _ h4), SqL.of h5, (by rw [List.length_map, List.length_drop]; show 1 + _ ≤ sizeLine; omega), fun p6 hp6 => ?_⟩
          rw [show [T [119, 111, 114, 100, 115]] ++ (ms.drop cut).map T = ([119, 111, 114, 100, 115] :: ms.drop cut).map T from rfl]
          have t6 := same_upd (o := .lst (([119, 111, 114, 100, 115] :: ms.drop cut).map T)) hp6
          have h6 : upd G5 p6 (.lst (([119, 111, 114, 100, 115] :: ms.drop cut).map T)) p6 = some (.lst (([119, 111, 114, 100, 115] :: ms.drop cut).map T)) := upd_same
          generalize upd G5 p6 (.lst (([119, 111, 114, 100, 115] :: ms.drop cut).map T)) = G6 at t6 h6 ⊢
          have t26 := t4.trans (t5.trans t6)
          have hR7 := t26 _ _ hR9
          have h6R : p6 ≠ R := fun z => by rw [z, t5 _ _ (t4 _ _ hR9)] at hp6; cases hp6
          refine ⟨R, _, _, rfl, rfl, hR7, (by show 1 ≤ sizeLine; omega), ?_⟩
          have hRG : upd G6 R (.lst ([] ++ [.ref p6])) R = some (.lst [.ref p6]) := upd_same
          have kG : ∀ b o, b ≠ R → G6 b = some o → upd G6 R (.lst ([] ++ [.ref p6])) b = some o := fun b o hb e => by rw [upd_ne hb]; exact e
          generalize upd G6 R (.lst ([] ++ [.ref p6])) = G7 at hRG kG ⊢
          have nR : ∀ b o, H b = some o → b ≠ R := fun b o e z => by rw [z, hRn] at e; cases e
          have sH7 : Same H G7 := fun b o e => kG b o (nR b o e) (t26 _ _ (hHG _ _ e))
          have hM7 := kG M _ hMR (t26 _ _ hM2)
          have h67 := kG p6 _ h6R h6
          refine ⟨_, rfl, _, _, rfl, rfl, _, rfl, ?_⟩
          refine ite2 (fun hc0 => ?_) (fun hc0 => ?_)
          · have hc0' : 0 < cut := by have := of_decide_eq_true hc0; omega
            refine ⟨_, rfl, .inl ⟨rfl, _, SqL.of hRG⟩, (by show 1 ≤ sizeLine; omega), fun p7 hp7 => ?_⟩
            have t7 := same_upd (o := .lst [T [119, 111, 114, 100, 115]]) hp7
            have h7' : upd G7 p7 (.lst [T [119, 111, 114, 100, 115]]) p7 = some (.lst [T [119, 111, 114, 100, 115]]) := upd_same
            generalize upd G7 p7 (.lst [T [119, 111, 114, 100, 115]]) = G8 at t7 h7' ⊢
            refine ⟨_, rfl, _, rfl, _, rfl, M, _, rfl, SqL.of (t7 _ _ hM7), fun p8 hp8 => ?_⟩
            rw [show cutV (ms.map T) none (some ((cut : Nat) : Int)) = (ms.take cut).map T from cutV_to (by omega)]
            have t8 := same_upd (o := .lst ((ms.take cut).map T)) hp8
            have h8' : upd G8 p8 (.lst ((ms.take cut).map T)) p8 = some (.lst ((ms.take cut).map T)) := upd_same
            generalize upd G8 p8 (.lst ((ms.take cut).map T)) = G9 at t8 h8' ⊢
            refine ⟨p7, p8, _, _, rfl, rfl, SqL.of (t8 _ _ h7'), SqL.of h8', (by rw [List.length_map, List.length_take]; show 1 + _ ≤ sizeLine; omega), fun p9 hp9 => ?_⟩
            rw [show [T [119, 111, 114, 100, 115]] ++ (ms.take cut).map T = ([119, 111, 114, 100, 115] :: ms.take cut).map T from rfl]
            have t9 := same_upd (o := .lst (([119, 111, 114, 100, 115] :: ms.take cut).map T)) hp9
            have h9' : upd G9 p9 (.lst (([119, 111, 114, 100, 115] :: ms.take cut).map T)) p9 = some (.lst (([119, 111, 114, 100, 115] :: ms.take cut).map T)) := upd_same
            generalize upd G9 p9 (.lst (([119, 111, 114, 100, 115] :: ms.take cut).map T)) = Ga at t9 h9' ⊢
            have t7a := t7.trans (t8.trans t9)
            have h9R : p9 ≠ R := fun z => by rw [z, t8 _ _ (t7 _ _ hRG)] at hp9; cases hp9
            refine ⟨R, _, 0, .ref p9, rfl, rfl, t7a _ _ hRG, Nat.zero_le _, (by show 1 ≤ 1000; omega), ?_⟩
            refine ⟨_, rfl, _, rfl, (by show 2 ≤ sizeLine; omega), fun tp htp => ?_⟩
            have t10 := same_upd (o := .tup [.ref R, .ref M]) htp
            refine q tp R M [p9, p6] nn kn _ ms _ (fun d o e => t10 d o ?_) upd_same hRn hMR (t10 _ _ upd_same) (.cons ⟨h9R, t10 _ _ (by rw [upd_ne h9R]; exact h9')⟩ (.cons ⟨h6R, t10 _ _ (by rw [upd_ne h6R]; exact t7a _ _ h67)⟩ .nil)) (t10 _ _ (by rw [upd_ne hMR]; exact t7a _ _ hM7)) hz (.inr ⟨hm1, hm2, hm3, cut, hcl, by rw [if_pos hc0']; rfl⟩)
            rw [upd_ne (nR d o e)]
            exact t7a _ _ (sH7 _ _ e)
          · have hc0' : ¬ 0 < cut := fun z => hc0 (decide_eq_true (by omega))
            refine ⟨_, rfl, _, rfl, (by show 2 ≤ sizeLine; omega), fun tp htp => ?_⟩
            have t10 := same_upd (o := .tup [.ref R, .ref M]) htp
            exact q tp R M [p6] nn kn _ ms _ (fun d o e => t10 d o (sH7 _ _ e)) upd_same hRn hMR (t10 _ _ hRG) (.cons ⟨h6R, t10 _ _ h67⟩ .nil) (t10 _ _ hM7) hz (.inr ⟨hm1, hm2, hm3, cut, hcl, by rw [if_neg hc0']; rfl⟩)


theorem unL_join {H : Hp} {K : PySem.W.Frag} {rs : List (List (List Nat))} {bs : List Addr} (h : Dt.R2 (fun r b => H b = some (.lst (r.map T))) rs bs) : ((bs.map V.ref).map fun v => T (jnS [32] (unL H v))) = (rs.map (jnS [32])).map T := by
  induction h with
  | nil => rfl
  | cons a _ ih => rw [List.map_cons, List.map_cons, List.map_cons, List.map_cons, unL_at a, ih]
theorem r2_app {α β : Type} {R : α → β → Prop} {as as' : List α} {bs bs' : List β} (h : Dt.R2 R as bs) (h' : Dt.R2 R as' bs') : Dt.R2 R (as ++ as') (bs ++ bs') := by
  induction h with
  | nil => exact h'
  | cons a _ ih => exact .cons a ih
theorem r2_ex {R : List (List Nat) → Addr → Prop} {S : V → HO → Prop} {H' : Hp} {vs : List V} {bs : List Addr} (h : Dt.R2 (fun v b => ∃ o, H' b = some o ∧ S v o) vs bs) (e : ∀ v o, S v o → ∃ r, AskOk r ∧ o = .lst (r.map T)) : ∃ rs : List (List (List Nat)), (∀ r ∈ rs, AskOk r) ∧ Dt.R2 (fun r b => H' b = some (.lst (r.map T))) rs bs := by
  induction h with
  | nil => exact ⟨[], fun r hr => (by cases hr), .nil⟩
  | cons a _ ih =>
    obtain ⟨rs, h1, h2⟩ := ih
    obtain ⟨o, h3, h4⟩ := a
    obtain ⟨r, h5, rfl⟩ := e _ _ h4
    exact ⟨r :: rs, al_cons h5 h1, .cons h3 h2⟩
theorem alike_of {K : PySem.W.Frag} {H : Hp} {p b : Addr} {ps bs : List Addr} {rs : List (List (List Nat))} (hp : H p = some (.lst (ps.map V.ref))) (hb : H b = some (.lst (bs.map V.ref))) (h1 : Dt.R2 (fun r b => H b = some (.tup (r.map T))) rs ps) (h2 : Dt.R2 (fun r b => H b = some (.tup (r.map T))) rs bs) : AlikeX K H p b := by
  refine ⟨ps, bs, SqL.of hp, SqL.of hb, by rw [← h1.len, ← h2.len], fun i g1 g2 => ?_⟩
  clear hp hb
  induction h1 generalizing bs i with
  | nil => exact absurd g1 (Nat.not_lt_zero _)
  | cons a _ ih =>
    cases h2 with
    | cons a' h2 =>
      cases i with
      | zero => exact ⟨_, SqT.of a, SqT.of a'⟩
      | succ i => exact ih h2 i (Nat.lt_of_succ_lt_succ g1) (Nat.lt_of_succ_lt_succ g2)
theorem r2_tups {H H' : Hp} {rs : List (List (List Nat))} {as ds : List Addr} (h : Dt.R2 (fun r b => H b = some (.lst (r.map T))) rs as) : Dt.R2 (fun v b => H' b = some (.tup ((unL H v).map T))) (as.map V.ref) ds → Dt.R2 (fun r b => H' b = some (.tup (r.map T))) rs ds := by
  induction h generalizing ds with
  | nil => intro h2; cases h2; exact .nil
  | cons a _ ih =>
    intro h2
    cases h2 with
    | cons a' h2 => exact .cons (by rw [unL_at a] at a'; exact a') (ih h2)
noncomputable def spLaw (K : PySem.W.Frag) : Sp := fun vs H Q _ => ∃ (a : Addr) (ns : List Int), vs = [.ref a] ∧ SqL K H a (ns.map V.int) ∧ ns.length ≤ 63 ∧ ∀ H', Q (.bl true) H'
theorem ok_law {f : Addr} {fd : FuncData} (F : Fun K "law" "law" s_law f fd) (tt : Txt K mg ad) (C__law_page : Cal P w K mg base (CX1 P w) "_law_page" 2 ["script", "n"] (spPage K)) (C__law_barred : Cal P w K mg base (CX1 P w) "_law_barred" 2 ["rows", "words", "n"] (spBarred K)) (C__law_ask : Cal P w K mg base (CX1 P w) "_law_ask" 2 ["cell"] spAsk) (C_read_page : Cal P w K mg base (CX1 P w) "read_page" 7 ["text"] (spRead K ad.Web)) (C_page_text : Cal P w K mg base (CX1 P w) "page_text" 1 ["web", "asks"] (spPText K ad.Web)) : FnOk P w K mg base (CX1 P w) 9 f fd ["script"] (spLaw K) := by
  refine F.okX sc_law (fun vs H Q E h => ?_) (fun cdv A outer s H vs Q E hr h => ?_)
  · obtain ⟨a, ns, rfl, _⟩ := h
    rfl
  · obtain ⟨a, ns, rfl, hS, hlen, q⟩ := h
    have hs : sizeLine = 16777216 := sizeLine_eq
    have hu := Nat.lt_of_succ_lt (hu_of hr)
    refine ⟨_, (pss_cons (ps_set (i := 1) sc_law.nd rfl (Or.inl rfl) (pe_op op_mod (pe_op op_mul (pe_callB (call_sumX rfl) (by rfl) tt.b_sum PyProof.Rows.boot_sum (pa_cons (pv 0) pa_nil)) pe_int) pe_int))
      (pss_cons (ps_asg (pe_cal C__law_page hr pass1 (pa_cons (pv 0) (pa_cons (pv 1) pa_nil))) (pg_tup rfl (pgs_cons (pg_name (i := 2) sc_law.nd rfl (Or.inl rfl)) (pgs_cons (pg_name (i := 3) sc_law.nd rfl (Or.inl rfl)) pgs_nil))))
      (pss_cons (ps_set (i := 3) sc_law.nd rfl (Or.inl rfl) (pe_cal C__law_barred hr pass1 (pa_cons (pv 2) (pa_cons (pv 3) (pa_cons (pv 1) pa_nil)))))
      (pss_cons (ps_setComp (i := 4) cs_law_0 rfl (pi_list (pe_slice sl_list (pv 0) po_none (po_some pe_int))) (fun cl C s' H' fp => (pe_cal C__law_ask hr pass1 (pa_cons (pv 0) pa_nil))) sc_law.nd rfl rfl)
      (pss_cons (ps_set (i := 5) sc_law.nd rfl (Or.inl rfl) (pe_bm PySem.F.plainAttrs_str PySem.F.slot_str_join PySem.F.type_str_join mt_joinS (pe_strT [10] (by decide +kernel)) (pa_cons (pe_comp cs_law_1 rfl (pi_list (pe_op op_catL (pv 2) (pv 4))) (fun cl C s' H' fp => (pe_bmK K rfl PySem.F.plainAttrs_str PySem.F.slot_str_join PySem.F.type_str_join (mt_joinSK K rfl) (pe_strT [32] (by decide +kernel)) (pa_cons (pv 0) pa_nil)))) pa_nil)))
      (pss_cons (ps_asg (pe_cal C_read_page hr pass1 (pa_cons (pv 5) pa_nil)) (pg_tup rfl (pgs_cons (pg_name (i := 6) sc_law.nd rfl (Or.inl rfl)) (pgs_cons (pg_name (i := 7) sc_law.nd rfl (Or.inl rfl)) pgs_nil))))
      (pss_cons (ps_setComp (i := 8) cs_law_2 rfl (pi_list (pv 4)) (fun cl C s' H' fp => (pe_callTy (call_tupleK K rfl) (by rfl) tt.b_tuple (by decide +kernel) (pa_cons (pv 0) pa_nil))) sc_law.nd rfl rfl)
      (pss_cons (ps_if (PW.pt (pw_or (pt_cmpR (op_ne_TT (Nat.lt_of_succ_lt (hu_of hr))) (pe_fld (pv 6) rfl) (pe_callTy call_tuple_of (by rfl) tt.b_tuple (by decide +kernel) (pa_cons (pe_callB call_sortedT (by rfl) tt.b_sorted PyProof.Rows.boot_sorted (pa_cons (pv 3) pa_nil)) pa_nil)) (nomark _)) (pw_or (pt_not (pt_val (pe_callB call_isinst (by rfl) tt.b_isinstance PyProof.Rows.boot_isinstance (pa_cons (pv 7) (pa_cons (pe_bltn (v := .ty "list") (u := .type "list") (by rfl) tt.b_list (by decide +kernel) rfl) pa_nil))))) (pw_or1 (pt_cmpR (op_ne_LTT (hu_of hr)) (pv 7) (pv 8) (nomark _)))))) (pss_one (ps_ret pe_bl)) pss_nil)
      (pss_cons (ps_set (i := 9) sc_law.nd rfl (Or.inl rfl) (pe_cal C_page_text hr pass1 (pa_cons (pv 6) (pa_cons (pv 7) pa_nil))))
      (pss_cons (ps_if (pt_cmpR op_ne_T (pv 9) (pe_bm PySem.F.plainAttrs_str PySem.F.slot_str_join PySem.F.type_str_join mt_joinS (pe_strT [10] (by decide +kernel)) (pa_cons (pe_comp cs_law_3 rfl (pi_list (pe_op op_catL (pe_lst (pa_cons (pe_op op_catL (pe_lst (pa_cons (pe_strT [119, 111, 114, 100, 115] (by decide +kernel)) pa_nil)) (pe_callB call_sortedT (by rfl) tt.b_sorted PyProof.Rows.boot_sorted (pa_cons (pv 3) pa_nil))) pa_nil)) (pv 4))) (fun cl C s' H' fp => (pe_bmK K rfl PySem.F.plainAttrs_str PySem.F.slot_str_join PySem.F.type_str_join (mt_joinSK K rfl) (pe_strT [32] (by decide +kernel)) (pa_cons (pv 0) pa_nil)))) pa_nil)) (nomark _)) (pss_one (ps_ret pe_bl)) pss_nil)
      (pss_cons (ps_set (i := 10) sc_law.nd rfl (Or.inl rfl) (pe_cal C_read_page hr pass1 (pa_cons (pv 9) pa_nil)))
      (pss_one (ps_ret (pe_and (pe_cmpR (op_eq_TU (hu_of hr)) (pe_fld (pe_ix ix_tup (pv 10) pe_int (fun _ _ => rfl)) rfl) (pe_fld (pv 6) rfl) (nomark _)) (pe_one (pe_cmpR (op_eq_LTT (hu_of hr)) (pe_ix ix_tup (pv 10) pe_int (fun _ _ => rfl)) (pv 8) (nomark _))))))))))))))))), ?_⟩
    (try rw [cxK2]); (try rw [cxK1])
    refine ⟨_, rfl, a, ns, rfl, hS, _, _, rfl, rfl, .inr ⟨by decide, by decide⟩, _, _, rfl, rfl, (by show (0 : Int) < 2147483647; decide), ?_⟩
    dsimp only
    generalize ns.sum * 69621 % 2147483647 = z
    refine ⟨_, rfl, _, rfl, a, ns, z, rfl, hS, hlen, fun tq R W bs nn kn rs ws H1 s1 htq hRn hWR hR1 hrs hW1 hz hpg => ?_⟩
    refine ⟨tq, _, rfl, SqT.of htq, rfl, _, _, rfl, _, _, rfl, rfl, ?_⟩
    obtain ⟨w1, w2, w3⟩ := hpg.words hz
    obtain ⟨hok, h30⟩ := web_in hz w1 w2 w3
    have hrl : rs.length ≤ 2 := by
      rcases hpg with ⟨rfl, _⟩ | ⟨_, _, _, cut, hc, rfl⟩
      · exact Nat.le_succ 1
      · split
        · exact Nat.le_refl _
        · exact Nat.le_succ 1
    have hbl := hrs.len
    refine ⟨_, rfl, _, rfl, _, rfl, R, W, bs, ws, nn, z, rfl, hR1, hW1, hWR, (by omega), hok, fun W2 tb cs H2 hb2 hR2 hcs htl htb hnb hWR2 hW2 => ?_⟩
    have s2 : Same H H2 := fun b o e => hb2 b o (fun y => by rw [y, hRn] at e; cases e) (s1 b o e)
    have hrs2 : Dt.R2 (fun r b => b ≠ R ∧ H2 b = some (.lst (r.map T))) rs bs := hrs.mono fun r b _ h => ⟨h.1, hb2 b _ h.1 h.2⟩
    refine ⟨_, rfl, _, rfl, a, _, rfl, s2.seq hS, fun p1 hp1 => ?_⟩
    have hcut : ∃ ns2 : List Int, cutV (ns.map V.int) none (some 30) = ns2.map V.int ∧ ns2.length ≤ 63 := by
      unfold cutV
      rw [← List.map_drop, ← List.map_take]
      exact ⟨_, rfl, Nat.le_trans (List.length_take_le' ..) (Nat.le_trans (by rw [List.length_drop]; exact Nat.sub_le ..) hlen)⟩
    obtain ⟨ns2, ecut, hn2⟩ := hcut
    rw [ecut]
    have s3 := same_upd (o := .lst (ns2.map V.int)) hp1
    have h3 : upd H2 p1 (.lst (ns2.map V.int)) p1 = some (.lst (ns2.map V.int)) := upd_same
    generalize upd H2 p1 (.lst (ns2.map V.int)) = H3 at s3 h3 ⊢
    refine ⟨p1, rfl, ⟨_, SqL.of h3⟩, compRl (fun _ o => ∃ r, AskOk r ∧ o = .lst (r.map T)) (reads_list (SqL.of h3)) (by rw [List.length_map]; omega) (fun v G hv sG N hN => ?_) fun D as H4 hD s4 hd has => ?_⟩
    · obtain ⟨c, hc, rfl⟩ := List.mem_map.mp hv
      exact ⟨_, rfl, c, rfl, fun b r G' sG' h1 h2 h3 => hN b _ G' sG' h1 h2 ⟨r, h3, rfl⟩⟩
    have hal := has.len
    rw [List.length_map] at hal
    obtain ⟨asks, hA, has⟩ := r2_ex (R := fun _ _ => True) (has.mono fun v b _ h => h.2.2) fun v o h => h
    have hal2 : asks.length ≤ 63 := by have := has.len; omega
    obtain ⟨e1, e2, e3, e4, e5, e6, e7, e8, e9, e10, e11, e12⟩ := page_read hz hpg htb htl hnb hA hal2
    have s34 := s3.trans s4
    have hR4 := s34 _ _ hR2
    have hRS : Dt.R2 (fun r b => H4 b = some (.lst (r.map T))) (rs ++ tb.map barRow ++ asks) (bs ++ cs ++ as) := r2_app (r2_app (hrs2.mono fun r b _ h => s34 _ _ h.2) (r2_mapl (hcs.mono fun r b _ h => s34 _ _ h.2))) has
    generalize hRSe : rs ++ tb.map barRow ++ asks = RS at e1 e2 e3 e4 e5 e6 e7 e8 e10 e12 hRS
    have hbl2 := hRS.len
    have hbl3 : (bs ++ cs ++ as).length = (bs ++ cs).length + as.length := List.length_append
    refine ⟨rfl, _, rfl, _, rfl, R, D, _, _, rfl, rfl, SqL.of hR4, SqL.of hd, (by rw [List.length_map, List.length_map]; omega), fun p2 hp2 => ?_⟩
    rw [← List.map_append]
    have s5 := same_upd (o := .lst ((bs ++ cs ++ as).map V.ref)) hp2
    have h5 : upd H4 p2 (.lst ((bs ++ cs ++ as).map V.ref)) p2 = some (.lst ((bs ++ cs ++ as).map V.ref)) := upd_same
    generalize upd H4 p2 (.lst ((bs ++ cs ++ as).map V.ref)) = H5 at s5 h5 ⊢
    have hRS5 := r2_same hRS s5
    refine ⟨p2, rfl, ⟨_, SqL.of h5⟩, compG (fun v => T (jnS [32] (unL H5 v))) (reads_list (SqL.of h5)) (by rw [List.length_map]; omega) (fun v G hv sG N hN => ?_) fun D6 H6 hD6 s6 hd6 => ?_⟩
    · obtain ⟨b, r, rfl, hr1, hb⟩ := r2_mem hRS5 hv
      have := hN G (Same.refl _)
      rw [unL_at hb] at this
      have hrb := e2 r hr1
      exact ⟨rfl, _, rfl, [32], b, r, rfl, rfl, SqL.of (sG _ _ hb), (by show r.flatten.length + r.length * 1 ≤ sizeLine; have := hrb.2.2.1; omega), this⟩
    rw [unL_join (K := K) hRS5] at hd6
    refine ⟨[10], D6, _, rfl, rfl, SqL.of hd6, (by rw [List.length_map]; show _ + RS.length * 1 ≤ sizeLine; omega), ?_⟩
    generalize jnS [10] (RS.map (jnS [32])) = t at e1 e5 ⊢
    have e10' : WebOk (keptW (pageRows t) ws) nn := by rw [e1, e10]; exact e11
    refine ⟨_, rfl, t, ws, nn, rfl, e5, (by rw [e1]; exact e6), (by rw [e1]; exact e7), (by rw [e1]; exact e8), (by omega), e10', fun Rp x tp D7 as7 ms H7 s7 hRp hW7 hpm hpw hD7 has7 => ?_⟩
    rw [e1, e10] at hpm
    rw [e1, e12] at has7
    refine ⟨Rp, _, rfl, SqT.of hRp, rfl, _, _, rfl, _, _, rfl, rfl, ?_⟩
    have s47 := s5.trans (s6.trans s7)
    have hd7 := s47 _ _ hd
    have hasL := r2_same has s47
    refine ⟨_, rfl, D, rfl, ⟨_, SqL.of hd7⟩, compRl (fun v o => o = .tup ((unL H7 v).map T)) (reads_list (SqL.of hd7)) (by rw [List.length_map]; omega) (fun v G hv sG N hN => ?_) fun D8 ds H8 hD8 s8 hd8 hds => ?_⟩
    · obtain ⟨b, r, rfl, hr1, hb⟩ := r2_mem hasL hv
      refine ⟨_, rfl, b, _, rfl, SqL.of (sG _ _ hb), fun c hc => hN c _ _ (same_upd hc) hc upd_same ?_⟩
      rw [unL_at hb]
    have hds := r2_tups hasL (hds.mono fun v b _ h => by obtain ⟨o, h1, rfl⟩ := h.2.2; exact h1)
    have has8 : Dt.R2 (fun r b => H8 b = some (.tup (r.map T))) asks as7 := has7.mono fun r b _ h => s8 _ _ h
    have hW8 := hW7.on s8
    obtain ⟨⟨dx, hx8⟩, htp8⟩ := id hW8
    have s28 := s34.trans (s47.trans s8)
    have hW28 := s28 _ _ hW2
    have hnl : (noBar tb ws).length ≤ 30 := Nat.le_trans (List.length_filter_le ..) h30
    refine ⟨_, rfl, x, ad.Web, dx, _, _, rfl, hx8, tt.cl_Web, tt.na_Web_words, flds_w _ _, _, rfl, W2, _, rfl, SqL.of hW28, (by omega), fun ms2 D9 hD9 hp9 hw9 => ?_⟩
    obtain rfl : ms2 = ms := Wd.sorted_same (hp9.trans hpm.symm) hw9 hpw
    have s9 := same_upd (o := .lst (ms2.map T)) hD9
    have h9 : upd H8 D9 (.lst (ms2.map T)) D9 = some (.lst (ms2.map T)) := upd_same
    generalize upd H8 D9 (.lst (ms2.map T)) = H9 at s9 h9 ⊢
    refine ⟨D9, _, rfl, .inl ⟨SqL.of h9, fun l hl => ?_⟩⟩
    have s10 := same_upd (o := .tup (ms2.map T)) hl
    have h10 : upd H9 l (.tup (ms2.map T)) l = some (.tup (ms2.map T)) := upd_same
    generalize upd H9 l (.tup (ms2.map T)) = H10 at s10 h10 ⊢
    have s80 := s9.trans s10
    have hD7' := s80 _ _ (s8 _ _ hD7)
    have hd8' := s80 _ _ hd8
    have has10 : Dt.R2 (fun r b => H10 b = some (.tup (r.map T))) asks as7 := has8.mono fun r b _ h => s80 _ _ h
    have hds10 : Dt.R2 (fun r b => H10 b = some (.tup (r.map T))) asks ds := hds.mono fun r b _ h => s80 _ _ h
    refine ⟨tp, l, _, rfl, rfl, SqT.of (s80 _ _ htp8), SqT.of h10, _, rfl, iteF ?_⟩
    refine ⟨_, rfl, _, _, _, _, rfl, .lst hD7', kit_same _, _, rfl, iteF ?_⟩
    refine ⟨_, rfl, _, rfl, D7, D8, rfl, rfl, alike_of hD7' hd8' has10 hds10, _, rfl, iteF ?_⟩
    have hW10 := hW8.on s80
    have hml : ms2.length ≤ 30 := by rw [hpm.length_eq]; exact hnl
    have hmn : ms2 ≠ [] := fun y => hnb (by rw [y] at hpm; exact hpm.symm.eq_nil)
    have hm1 : ∀ x ∈ ms2, x ∈ Wd.allW kn nn := fun x hx => w1 x (List.mem_filter.mp (hpm.mem_iff.mp hx)).1
    have hm2 : ms2.Nodup := hpm.nodup_iff.mpr (List.Pairwise.filter _ w2)
    have hpg2 : PageOk nn kn [[119, 111, 114, 100, 115] :: ms2] ms2 := .inr ⟨hm1, hm2, hmn, 0, List.length_pos_iff.mpr hmn, rfl⟩
    obtain ⟨f1, f2, f3, f4, f5, f6, f7, f8, f9, f10, f11, f12⟩ := page_read (tb := []) hz hpg2 (fun t ht => by cases ht) (Nat.zero_le _) (by rw [noBar_nil]; exact hmn) hA hal2
    rw [noBar_nil] at f10 f11
    rw [show [[119, 111, 114, 100, 115] :: ms2] ++ ([] : List (List Nat)).map barRow ++ asks = ([119, 111, 114, 100, 115] :: ms2) :: asks from rfl] at f1 f2 f3 f4 f5 f6 f7 f8 f10 f12
    refine ⟨_, rfl, _, rfl, x, tp, D7, as7, nn, ms2, asks, rfl, hW10, SqL.of hD7', has10, hmn, (by omega), (by omega), (fun r hr => by have := (f2 r hr).2.2.1; omega), (by omega), fun H11 s11 => ?_⟩
    have hW11 := s11 _ _ (s80 _ _ hW28)
    refine ⟨_, rfl, rfl, (by show 1 ≤ sizeLine; omega), fun p4 hp4 => ?_⟩
    have s12 := same_upd (o := .lst [T [119, 111, 114, 100, 115]]) hp4
    have h12 : upd H11 p4 (.lst [T [119, 111, 114, 100, 115]]) p4 = some (.lst [T [119, 111, 114, 100, 115]]) := upd_same
    generalize upd H11 p4 (.lst [T [119, 111, 114, 100, 115]]) = H12 at s12 h12 ⊢
    refine ⟨_, rfl, W2, _, rfl, SqL.of (s12 _ _ hW11), (by omega), fun ms3 p5 hp5 hp3 hw3 => ?_⟩
    obtain rfl : ms3 = ms2 := Wd.sorted_same (hp3.trans hpm.symm) hw3 hpw
    have s13 := same_upd (o := .lst (ms3.map T)) hp5
    have h13 : upd H12 p5 (.lst (ms3.map T)) p5 = some (.lst (ms3.map T)) := upd_same
    generalize upd H12 p5 (.lst (ms3.map T)) = H13 at s13 h13 ⊢
    refine ⟨p4, p5, _, _, rfl, rfl, SqL.of (s13 _ _ h12), SqL.of h13, (by rw [List.length_map]; show 1 + _ ≤ sizeLine; omega), fun p6 hp6 => ?_⟩
    rw [show [T [119, 111, 114, 100, 115]] ++ ms3.map T = ([119, 111, 114, 100, 115] :: ms3).map T from rfl]
    have s14 := same_upd (o := .lst (([119, 111, 114, 100, 115] :: ms3).map T)) hp6
    have h14 : upd H13 p6 (.lst (([119, 111, 114, 100, 115] :: ms3).map T)) p6 = some (.lst (([119, 111, 114, 100, 115] :: ms3).map T)) := upd_same
    generalize upd H13 p6 (.lst (([119, 111, 114, 100, 115] :: ms3).map T)) = H14 at s14 h14 ⊢
    refine ⟨(by show 1 ≤ sizeLine; omega), fun p7 hp7 => ?_⟩
    have s15 := same_upd (o := .lst [.ref p6]) hp7
    have h15 : upd H14 p7 (.lst [.ref p6]) p7 = some (.lst [.ref p6]) := upd_same
    generalize upd H14 p7 (.lst [.ref p6]) = H15 at s15 h15 ⊢
    have s415 := (s8.trans s80).trans (s11.trans (s12.trans (s13.trans (s14.trans s15))))
    refine ⟨_, rfl, p7, D, _, _, rfl, rfl, SqL.of h15, SqL.of (s415 _ _ hd7), (by rw [List.length_map]; show 1 + _ ≤ sizeLine; omega), fun p8 hp8 => ?_⟩
    rw [show [V.ref p6] ++ as.map V.ref = (p6 :: as).map V.ref from rfl]
    have s16 := same_upd (o := .lst ((p6 :: as).map V.ref)) hp8
    have h16 : upd H15 p8 (.lst ((p6 :: as).map V.ref)) p8 = some (.lst ((p6 :: as).map V.ref)) := upd_same
    generalize upd H15 p8 (.lst ((p6 :: as).map V.ref)) = H16 at s16 h16 ⊢
    have hRS16 : Dt.R2 (fun r b => H16 b = some (.lst (r.map T))) (([119, 111, 114, 100, 115] :: ms3) :: asks) (p6 :: as) := .cons (s16 _ _ (s15 _ _ h14)) (r2_same hasL (s415.trans s16))
    refine ⟨p8, rfl, ⟨_, SqL.of h16⟩, compG (fun v => T (jnS [32] (unL H16 v))) (reads_list (SqL.of h16)) (by rw [List.length_map, List.length_cons]; omega) (fun v G hv sG N hN => ?_) fun D17 H17 hD17 s17 hd17 => ?_⟩
    · obtain ⟨b, r, rfl, hr1, hb⟩ := r2_mem hRS16 hv
      have := hN G (Same.refl _)
      rw [unL_at hb] at this
      have hrb := f2 r hr1
      exact ⟨rfl, _, rfl, [32], b, r, rfl, rfl, SqL.of (sG _ _ hb), (by show r.flatten.length + r.length * 1 ≤ sizeLine; have := hrb.2.2.1; omega), this⟩
    rw [unL_join (K := K) hRS16] at hd17
    refine ⟨[10], D17, _, rfl, rfl, SqL.of hd17, (by rw [List.length_map]; show _ + (asks.length + 1) * 1 ≤ sizeLine; omega), _, rfl, _, rfl, _, rfl, itN (by rw [show pageText ms3 asks = jnS [10] ((([119, 111, 114, 100, 115] :: ms3) :: asks).map (jnS [32])) from rfl]; simp) ?_⟩
    rw [show pageText ms3 asks = jnS [10] ((([119, 111, 114, 100, 115] :: ms3) :: asks).map (jnS [32])) from rfl]
    generalize jnS [10] ((([119, 111, 114, 100, 115] :: ms3) :: asks).map (jnS [32])) = t2 at f1 f5 ⊢
    have f10' : WebOk (keptW (pageRows t2) ms3) nn := by rw [f1, f10]; exact f11
    refine ⟨_, rfl, t2, ms3, nn, rfl, f5, (by rw [f1]; exact f6), (by rw [f1]; exact f7), (by rw [f1]; exact f8), (by omega), f10', fun Rq x2 tp2 D18 as18 ms4 H18 s18 hRq hW18 hpm18 hpw18 hD18 has18 => ?_⟩
    rw [f1, f10] at hpm18
    rw [f1, f12] at has18
    obtain rfl : ms4 = ms3 := Wd.sorted_same hpm18 hpw18 hpw
    have s1018 := s11.trans (s12.trans (s13.trans (s14.trans (s15.trans (s16.trans (s17.trans s18))))))
    obtain ⟨⟨dx2, hx18⟩, htp18⟩ := id hW18
    refine ⟨_, rfl, Rq, _, _, _, rfl, rfl, SqT.of hRq, rfl, x2, ad.Web, dx2, _, _, rfl, hx18, tt.cl_Web, tt.na_Web_words, flds_w _ _, _, rfl, x, ad.Web, dx, _, _, rfl, s1018 _ _ (s80 _ _ hx8), tt.cl_Web, tt.na_Web_words, flds_w _ _, tp2, tp, _, rfl, rfl, SqT.of htp18, SqT.of (s1018 _ _ (s80 _ _ htp8)), _, rfl, ?_⟩
    rw [if_pos rfl]
    exact ⟨_, rfl, Rq, _, _, _, rfl, rfl, SqT.of hRq, rfl, _, rfl, D18, D8, rfl, rfl, alike_of hD18 (s1018 _ _ hd8') has18 (hds10.mono fun r b _ h => s1018 _ _ h), q _⟩


end
noncomputable def HF (K : PySem.W.Frag) (f : Addr) (nm : Str) (st : Stmt) : Prop := ∃ (oc : Value) (od : Option Addr) (kV dc pm : Value) (an : Option Addr) (cd ct : Value) (sl : Array (Option Value)), PySem.W.nsIn K mainGlobals nm = some (some (.ref f)) ∧ K.lookup f = some ⟨oc, od, .func (PySem.W.fnOf nm nm (defArgs st) (defBody st) (defScope st) .none kV dc pm an cd ct), sl⟩ ∧ PySem.W.codeIn K cd nm = true ∧ PySem.W.keepIn K (.ref f) = true
theorem HF.go {K : PySem.W.Frag} {f : Addr} {nm : Str} {st : Stmt} (h : HF K f nm st) : ∃ fd, Fun K nm nm st f fd ∧ PySem.W.nsIn K mainGlobals nm = some (some (.ref f)) := by
  obtain ⟨oc, od, kV, dc, pm, an, cd, ct, sl, a, l, c, k⟩ := h
  exact ⟨_, fun_mk (st := st) l c k, a⟩
theorem hf_mk {K : PySem.W.Frag} {f : Addr} {nm : Str} {st : Stmt} {oc : Value} {od : Option Addr} {kV dc pm : Value} {an : Option Addr} {cd ct : Value} {sl : Array (Option Value)} (a : PySem.W.nsIn K mainGlobals nm = some (some (.ref f))) (l : K.lookup f = some ⟨oc, od, .func (PySem.W.fnOf nm nm (defArgs st) (defBody st) (defScope st) .none kV dc pm an cd ct), sl⟩) (c : PySem.W.codeIn K cd nm = true) (k : PySem.W.keepIn K (.ref f) = true) : HF K f nm st := ⟨oc, od, kV, dc, pm, an, cd, ct, sl, a, l, c, k⟩
theorem mkC (P : Program) (w : World) {K : PySem.W.Frag} {mg : Str → Option Value} {h : Heap} (base : Heap) (X : K.In h) (G : h.Ns mainGlobals mg) {nm : Str} {st : Stmt} {f : Addr} {fd : FuncData} {k : Nat} {ps : List Str} {sp : Sp} (a : PySem.W.nsIn K mainGlobals nm = some (some (.ref f))) (F : Fun K nm nm st f fd) (ok : FnOk P w K mg base (CX1 P w) k f fd ps sp) (b : Binds K fd ps []) : Cal P w K mg base (CX1 P w) nm k ps sp := ⟨⟨_, _, ok, PySem.W.mg_of X G a, F.kp, b⟩⟩
noncomputable def HM (K : PySem.W.Frag) (C f : Addr) (nm qual : Str) (st : Stmt) : Prop := ∃ (oc : Value) (od : Option Addr) (kV dc pm : Value) (an : Option Addr) (cd ct : Value) (sl : Array (Option Value)), PySem.W.findIn K (.ref C) nm = some (some (.ref f)) ∧ K.lookup f = some ⟨oc, od, .func (PySem.W.fnOf nm qual (defArgs st) (defBody st) (defScope st) .none kV dc pm an cd ct), sl⟩ ∧ PySem.W.codeIn K cd qual = true ∧ PySem.W.keepIn K (.ref f) = true ∧ PySem.W.isFn K (.ref f) = true
theorem HM.go {K : PySem.W.Frag} {C f : Addr} {nm qual : Str} {st : Stmt} (h : HM K C f nm qual st) : ∃ fd, Fun K nm qual st f fd ∧ Meth K C nm f := by
  obtain ⟨oc, od, kV, dc, pm, an, cd, ct, sl, a, l, c, k, i⟩ := h
  exact ⟨_, fun_mk (st := st) l c k, ⟨a, i, k⟩⟩
theorem hm_mk {K : PySem.W.Frag} {C f : Addr} {nm qual : Str} {st : Stmt} {oc : Value} {od : Option Addr} {kV dc pm : Value} {an : Option Addr} {cd ct : Value} {sl : Array (Option Value)} (a : PySem.W.findIn K (.ref C) nm = some (some (.ref f))) (l : K.lookup f = some ⟨oc, od, .func (PySem.W.fnOf nm qual (defArgs st) (defBody st) (defScope st) .none kV dc pm an cd ct), sl⟩) (c : PySem.W.codeIn K cd qual = true) (k : PySem.W.keepIn K (.ref f) = true) (i : PySem.W.isFn K (.ref f) = true) : HM K C f nm qual st := ⟨oc, od, kV, dc, pm, an, cd, ct, sl, a, l, c, k, i⟩
theorem bd1 {K : PySem.W.Frag} {x qual : Str} {S : Stmt} {f : Addr} {fd : FuncData} {p : Str} (F : Fun K x qual S f fd) (h : ∀ (v w z : Value) (n : Option Addr) (g i a : Value), bindArgs (PySem.W.fnOf x qual (defArgs S) (defBody S) (defScope S) .none v w z n g i) ⟨[a], []⟩ = pure (List.zip [p] [a]) := by intros; rfl) : Binds K fd [p] [] := F.binds fun v w z n g i us hl => L2.on1 (C := fun us => bindArgs _ ⟨us, []⟩ = pure (List.zip _ us)) hl (h v w z n g i)
theorem bd2 {K : PySem.W.Frag} {x qual : Str} {S : Stmt} {f : Addr} {fd : FuncData} {p q : Str} (F : Fun K x qual S f fd) (h : ∀ (v w z : Value) (n : Option Addr) (g i a b : Value), bindArgs (PySem.W.fnOf x qual (defArgs S) (defBody S) (defScope S) .none v w z n g i) ⟨[a, b], []⟩ = pure (List.zip [p, q] [a, b]) := by intros; rfl) : Binds K fd [p, q] [] := F.binds fun v w z n g i us hl => L2.on2 (C := fun us => bindArgs _ ⟨us, []⟩ = pure (List.zip _ us)) hl (h v w z n g i)
theorem bd3 {K : PySem.W.Frag} {x qual : Str} {S : Stmt} {f : Addr} {fd : FuncData} {p q r : Str} (F : Fun K x qual S f fd) (h : ∀ (v w z : Value) (n : Option Addr) (g i a b c : Value), bindArgs (PySem.W.fnOf x qual (defArgs S) (defBody S) (defScope S) .none v w z n g i) ⟨[a, b, c], []⟩ = pure (List.zip [p, q, r] [a, b, c]) := by intros; rfl) : Binds K fd [p, q, r] [] := F.binds fun v w z n g i us hl => L2.on3 (C := fun us => bindArgs _ ⟨us, []⟩ = pure (List.zip _ us)) hl (h v w z n g i)
theorem all_mk {l : PySem.W.OpenLaw} {w : World} {K : PySem.W.Frag} {h : Heap} {mg : Str → Option Value} {fa : Addr} (X : K.In h) (G : h.Ns mainGlobals mg) (hfa : mg "law" = some (.ref fa))
    {f_looked_kinds f_looked_length f_letters f_looked f_word_total f_spelled f_all_words f_looked_web f_Web_init f_looked_size f_is_made_of f_is_number f_is_text f_form_of f_kind_of f_looked_rows f_told_words f_read_page f_page_text f__law_stir f__law_folded f__law_words f__law_size f__law_ask f__law_page f__law_barred : Addr}
    {f_law : Addr} {od_law an_law : Option Addr} {sl_law : Array (Option Value)} {oc_law kV_law dc_law pm_law cd_law ct_law : Value}
    {c_BadKinds c_BadWord c_TooMany c_BadText c_Web c_ASKS c_AHEAD : Addr} {u_LETTERS u_LONGEST u_MOST_WORDS u_MOST_OF_A_WEB u_LONGEST_OF_A_WEB u_MOST_OF_A_RULE u_LONGEST_OF_A_RULE u_FIGURES u_MOST_FIGURES u_MOST_LETTERS : Value}
    (h_looked_kinds : HF K f_looked_kinds "looked_kinds" s_looked_kinds)
    (h_looked_length : HF K f_looked_length "looked_length" s_looked_length)
    (h_letters : HF K f_letters "letters" s_letters)
    (h_looked : HF K f_looked "looked" s_looked)
    (h_word_total : HF K f_word_total "word_total" s_word_total)
    (h_spelled : HF K f_spelled "spelled" s_spelled)
    (h_all_words : HF K f_all_words "all_words" s_all_words)
    (h_looked_web : HF K f_looked_web "looked_web" s_looked_web)
    (h_Web_init : HM K c_Web f_Web_init "__init__" "Web.__init__" s_Web_init)
    (h_looked_size : HF K f_looked_size "looked_size" s_looked_size)
    (h_is_made_of : HF K f_is_made_of "is_made_of" s_is_made_of)
    (h_is_number : HF K f_is_number "is_number" s_is_number)
    (h_is_text : HF K f_is_text "is_text" s_is_text)
    (h_form_of : HF K f_form_of "form_of" s_form_of)
    (h_kind_of : HF K f_kind_of "kind_of" s_kind_of)
    (h_looked_rows : HF K f_looked_rows "looked_rows" s_looked_rows)
    (h_told_words : HF K f_told_words "told_words" s_told_words)
    (h_read_page : HF K f_read_page "read_page" s_read_page)
    (h_page_text : HF K f_page_text "page_text" s_page_text)
    (h__law_stir : HF K f__law_stir "_law_stir" s__law_stir)
    (h__law_folded : HF K f__law_folded "_law_folded" s__law_folded)
    (h__law_words : HF K f__law_words "_law_words" s__law_words)
    (h__law_size : HF K f__law_size "_law_size" s__law_size)
    (h__law_ask : HF K f__law_ask "_law_ask" s__law_ask)
    (h__law_page : HF K f__law_page "_law_page" s__law_page)
    (h__law_barred : HF K f__law_barred "_law_barred" s__law_barred)
    (a_law : PySem.W.nsIn K mainGlobals "law" = some (some (.ref f_law))) (l_law : K.lookup f_law = some ⟨oc_law, od_law, .func (PySem.W.fnOf "law" "law" (defArgs s_law) (defBody s_law) (defScope s_law) .none kV_law dc_law pm_law an_law cd_law ct_law), sl_law⟩) (c_law : PySem.W.codeIn K cd_law "law" = true) (k_law : PySem.W.keepIn K (.ref f_law) = true)
    (z_all : PySem.W.nsIn K mainGlobals "all" = some none)
    (z_any : PySem.W.nsIn K mainGlobals "any" = some none)
    (z_enumerate : PySem.W.nsIn K mainGlobals "enumerate" = some none)
    (z_int : PySem.W.nsIn K mainGlobals "int" = some none)
    (z_isinstance : PySem.W.nsIn K mainGlobals "isinstance" = some none)
    (z_len : PySem.W.nsIn K mainGlobals "len" = some none)
    (z_list : PySem.W.nsIn K mainGlobals "list" = some none)
    (z_max : PySem.W.nsIn K mainGlobals "max" = some none)
    (z_range : PySem.W.nsIn K mainGlobals "range" = some none)
    (z_reversed : PySem.W.nsIn K mainGlobals "reversed" = some none)
    (z_set : PySem.W.nsIn K mainGlobals "set" = some none)
    (z_sorted : PySem.W.nsIn K mainGlobals "sorted" = some none)
    (z_str : PySem.W.nsIn K mainGlobals "str" = some none)
    (z_sum : PySem.W.nsIn K mainGlobals "sum" = some none)
    (z_tuple : PySem.W.nsIn K mainGlobals "tuple" = some none)
    (y_BadKinds : PySem.W.nsIn K mainGlobals "BadKinds" = some (some (.ref c_BadKinds)))
    (y_BadWord : PySem.W.nsIn K mainGlobals "BadWord" = some (some (.ref c_BadWord)))
    (y_TooMany : PySem.W.nsIn K mainGlobals "TooMany" = some (some (.ref c_TooMany)))
    (y_BadText : PySem.W.nsIn K mainGlobals "BadText" = some (some (.ref c_BadText)))
    (y_Web : PySem.W.nsIn K mainGlobals "Web" = some (some (.ref c_Web)))
    (y_ASKS : PySem.W.nsIn K mainGlobals "ASKS" = some (some (.ref c_ASKS)))
    (y_AHEAD : PySem.W.nsIn K mainGlobals "AHEAD" = some (some (.ref c_AHEAD)))
    (e_BadKinds : PySem.W.excIn K c_BadKinds bmVE "ValueError.__new__" = true)
    (e_BadWord : PySem.W.excIn K c_BadWord bmVE "ValueError.__new__" = true)
    (e_TooMany : PySem.W.excIn K c_TooMany bmVE "ValueError.__new__" = true)
    (g_LETTERS : PySem.W.nsIn K mainGlobals "LETTERS" = some (some u_LETTERS)) (r_LETTERS : RelV (T [97, 98, 99, 100, 101, 102]) u_LETTERS)
    (g_LONGEST : PySem.W.nsIn K mainGlobals "LONGEST" = some (some u_LONGEST)) (r_LONGEST : RelV (.int 24) u_LONGEST)
    (g_MOST_WORDS : PySem.W.nsIn K mainGlobals "MOST_WORDS" = some (some u_MOST_WORDS)) (r_MOST_WORDS : RelV (.int 4096) u_MOST_WORDS)
    (g_MOST_OF_A_WEB : PySem.W.nsIn K mainGlobals "MOST_OF_A_WEB" = some (some u_MOST_OF_A_WEB)) (r_MOST_OF_A_WEB : RelV (.int 64) u_MOST_OF_A_WEB)
    (g_LONGEST_OF_A_WEB : PySem.W.nsIn K mainGlobals "LONGEST_OF_A_WEB" = some (some u_LONGEST_OF_A_WEB)) (r_LONGEST_OF_A_WEB : RelV (.int 8) u_LONGEST_OF_A_WEB)
    (g_MOST_OF_A_RULE : PySem.W.nsIn K mainGlobals "MOST_OF_A_RULE" = some (some u_MOST_OF_A_RULE)) (r_MOST_OF_A_RULE : RelV (.int 64) u_MOST_OF_A_RULE)
    (g_LONGEST_OF_A_RULE : PySem.W.nsIn K mainGlobals "LONGEST_OF_A_RULE" = some (some u_LONGEST_OF_A_RULE)) (r_LONGEST_OF_A_RULE : RelV (.int 8) u_LONGEST_OF_A_RULE)
    (g_FIGURES : PySem.W.nsIn K mainGlobals "FIGURES" = some (some u_FIGURES)) (r_FIGURES : RelV (T [48, 49, 50, 51, 52, 53, 54, 55, 56, 57]) u_FIGURES)
    (g_MOST_FIGURES : PySem.W.nsIn K mainGlobals "MOST_FIGURES" = some (some u_MOST_FIGURES)) (r_MOST_FIGURES : RelV (.int 60) u_MOST_FIGURES)
    (g_MOST_LETTERS : PySem.W.nsIn K mainGlobals "MOST_LETTERS" = some (some u_MOST_LETTERS)) (r_MOST_LETTERS : RelV (.int 200) u_MOST_LETTERS)
    (k_asks : tabIs K c_ASKS asksD = true)
    (k_ahead : tabIs K c_AHEAD aheadD = true)
    (pg_Web : PySem.W.plainGet K c_Web Str.empty = true) (hd_Web : PySem.W.hasDictIn K c_Web = true) (po_Web : PySem.W.plainOver K c_Web = true) (sa_Web : PySem.W.findIn K (.ref c_Web) "__setattr__" = some (some (.builtin "object.__setattr__"))) (mk_Web : PySem.W.makesIn K c_Web = true) (kc_Web : PySem.W.keepIn K (.ref c_Web) = true)
    (na_Web_words : PySem.W.findIn K (.ref c_Web) "words" = some none)
    (na_Web_length : PySem.W.findIn K (.ref c_Web) "length" = some none) :
    ∃ fd : FuncData, (∀ (s : Shared) (v : Value), BindsTo s fd ⟨[v], []⟩ [("script", v)]) ∧ ∀ base : Heap, K.In base → base.Ns mainGlobals mg → FnOk l.prog w K mg base (CX1 l.prog w) 9 fa fd ["script"] (spLaw K) := by
  have e := hfa.symm.trans (PySem.W.mg_of X G a_law)
  cases e
  obtain ⟨_, F_Web_init, M_Web_init⟩ := h_Web_init.go
  have tt : Txt K mg ⟨c_BadKinds, c_BadWord, c_TooMany, c_BadText, c_Web, c_ASKS, c_AHEAD, u_LETTERS, u_LONGEST, u_MOST_WORDS, u_MOST_OF_A_WEB, u_LONGEST_OF_A_WEB, u_MOST_OF_A_RULE, u_LONGEST_OF_A_RULE, u_FIGURES, u_MOST_FIGURES, u_MOST_LETTERS⟩ := ⟨PySem.W.mg_none_of X G z_all, PySem.W.mg_none_of X G z_any, PySem.W.mg_none_of X G z_enumerate, PySem.W.mg_none_of X G z_int, PySem.W.mg_none_of X G z_isinstance, PySem.W.mg_none_of X G z_len, PySem.W.mg_none_of X G z_list, PySem.W.mg_none_of X G z_max, PySem.W.mg_none_of X G z_range, PySem.W.mg_none_of X G z_reversed, PySem.W.mg_none_of X G z_set, PySem.W.mg_none_of X G z_sorted, PySem.W.mg_none_of X G z_str, PySem.W.mg_none_of X G z_sum, PySem.W.mg_none_of X G z_tuple, PySem.W.mg_of X G y_BadKinds, PySem.W.mg_of X G y_BadWord, PySem.W.mg_of X G y_TooMany, PySem.W.mg_of X G y_BadText, PySem.W.mg_of X G y_Web, PySem.W.mg_of X G y_ASKS, PySem.W.mg_of X G y_AHEAD, ⟨PySem.W.mg_of X G y_BadKinds, e_BadKinds⟩, ⟨PySem.W.mg_of X G y_BadWord, e_BadWord⟩, ⟨PySem.W.mg_of X G y_TooMany, e_TooMany⟩, PySem.W.mg_of X G g_LETTERS, r_LETTERS, PySem.W.mg_of X G g_LONGEST, r_LONGEST, PySem.W.mg_of X G g_MOST_WORDS, r_MOST_WORDS, PySem.W.mg_of X G g_MOST_OF_A_WEB, r_MOST_OF_A_WEB, PySem.W.mg_of X G g_LONGEST_OF_A_WEB, r_LONGEST_OF_A_WEB, PySem.W.mg_of X G g_MOST_OF_A_RULE, r_MOST_OF_A_RULE, PySem.W.mg_of X G g_LONGEST_OF_A_RULE, r_LONGEST_OF_A_RULE, PySem.W.mg_of X G g_FIGURES, r_FIGURES, PySem.W.mg_of X G g_MOST_FIGURES, r_MOST_FIGURES, PySem.W.mg_of X G g_MOST_LETTERS, r_MOST_LETTERS, k_asks, k_ahead, ⟨pg_Web, hd_Web, po_Web, sa_Web⟩, na_Web_words, na_Web_length⟩
  obtain ⟨_, F_looked_kinds, a_looked_kinds⟩ := h_looked_kinds.go
  obtain ⟨_, F_looked_length, a_looked_length⟩ := h_looked_length.go
  obtain ⟨_, F_letters, a_letters⟩ := h_letters.go
  obtain ⟨_, F_looked, a_looked⟩ := h_looked.go
  obtain ⟨_, F_word_total, a_word_total⟩ := h_word_total.go
  obtain ⟨_, F_spelled, a_spelled⟩ := h_spelled.go
  obtain ⟨_, F_all_words, a_all_words⟩ := h_all_words.go
  obtain ⟨_, F_looked_web, a_looked_web⟩ := h_looked_web.go
  obtain ⟨_, F_looked_size, a_looked_size⟩ := h_looked_size.go
  obtain ⟨_, F_is_made_of, a_is_made_of⟩ := h_is_made_of.go
  obtain ⟨_, F_is_number, a_is_number⟩ := h_is_number.go
  obtain ⟨_, F_is_text, a_is_text⟩ := h_is_text.go
  obtain ⟨_, F_form_of, a_form_of⟩ := h_form_of.go
  obtain ⟨_, F_kind_of, a_kind_of⟩ := h_kind_of.go
  obtain ⟨_, F_looked_rows, a_looked_rows⟩ := h_looked_rows.go
  obtain ⟨_, F_told_words, a_told_words⟩ := h_told_words.go
  obtain ⟨_, F_read_page, a_read_page⟩ := h_read_page.go
  obtain ⟨_, F_page_text, a_page_text⟩ := h_page_text.go
  obtain ⟨_, F__law_stir, a__law_stir⟩ := h__law_stir.go
  obtain ⟨_, F__law_folded, a__law_folded⟩ := h__law_folded.go
  obtain ⟨_, F__law_words, a__law_words⟩ := h__law_words.go
  obtain ⟨_, F__law_size, a__law_size⟩ := h__law_size.go
  obtain ⟨_, F__law_ask, a__law_ask⟩ := h__law_ask.go
  obtain ⟨_, F__law_page, a__law_page⟩ := h__law_page.go
  obtain ⟨_, F__law_barred, a__law_barred⟩ := h__law_barred.go
  have F_law := fun_mk (st := s_law) l_law c_law k_law
  refine ⟨PySem.W.fnOf "law" "law" (defArgs s_law) (defBody s_law) (defScope s_law) .none kV_law dc_law pm_law an_law cd_law ct_law, fun s v => .of_eq rfl, fun base _ _ => ?_⟩
  have C_looked_kinds := mkC l.prog w base X G a_looked_kinds F_looked_kinds (ok_looked_kinds F_looked_kinds tt) (bd1 F_looked_kinds)
  have C_looked_length := mkC l.prog w base X G a_looked_length F_looked_length (ok_looked_length F_looked_length tt C_looked_kinds) (bd2 F_looked_length)
  have C_letters := mkC l.prog w base X G a_letters F_letters (ok_letters F_letters tt C_looked_kinds) (bd1 F_letters)
  have C_looked := mkC l.prog w base X G a_looked F_looked (ok_looked F_looked tt C_looked_length C_letters) (bd2 F_looked)
  have C_word_total := mkC l.prog w base X G a_word_total F_word_total (ok_word_total F_word_total tt) (bd2 F_word_total)
  have C_spelled := mkC l.prog w base X G a_spelled F_spelled (ok_spelled F_spelled tt) (bd3 F_spelled)
  have C_all_words := mkC l.prog w base X G a_all_words F_all_words (ok_all_words F_all_words tt C_looked_length C_word_total C_spelled) (bd2 F_all_words)
  have C_looked_web := mkC l.prog w base X G a_looked_web F_looked_web (ok_looked_web F_looked_web tt C_looked) (bd1 F_looked_web)
  have C_Web_init : Cam l.prog w K mg base (CX1 l.prog w) "Web" c_Web 5 ["self", "words"] (spWebI K _) := ⟨⟨_, _, ok_Web_init F_Web_init tt C_looked_web, ⟨mk_Web, M_Web_init.at_, M_Web_init.fn, kc_Web⟩, PySem.W.mg_of X G y_Web, (bd2 F_Web_init)⟩⟩
  have C_looked_size := mkC l.prog w base X G a_looked_size F_looked_size (ok_looked_size F_looked_size tt C_looked_kinds C_word_total) (bd2 F_looked_size)
  have C_is_made_of := mkC l.prog w base X G a_is_made_of F_is_made_of (ok_is_made_of F_is_made_of tt) (bd3 F_is_made_of)
  have C_is_number := mkC l.prog w base X G a_is_number F_is_number (ok_is_number F_is_number tt C_is_made_of) (bd1 F_is_number)
  have C_is_text := mkC l.prog w base X G a_is_text F_is_text (ok_is_text F_is_text tt C_is_made_of) (bd1 F_is_text)
  have C_form_of := mkC l.prog w base X G a_form_of F_form_of (ok_form_of F_form_of tt C_is_number C_is_text) (bd1 F_form_of)
  have C_kind_of := mkC l.prog w base X G a_kind_of F_kind_of (ok_kind_of F_kind_of tt C_form_of) (bd1 F_kind_of)
  have C_looked_rows := mkC l.prog w base X G a_looked_rows F_looked_rows (ok_looked_rows F_looked_rows tt C_kind_of) (bd1 F_looked_rows)
  have C_told_words := mkC l.prog w base X G a_told_words F_told_words (ok_told_words F_told_words tt C_looked_size C_all_words) (bd1 F_told_words)
  have C_read_page := mkC l.prog w base X G a_read_page F_read_page (ok_read_page F_read_page tt C_looked_rows C_told_words C_Web_init) (bd1 F_read_page)
  have C_page_text := mkC l.prog w base X G a_page_text F_page_text (ok_page_text F_page_text tt) (bd2 F_page_text)
  have C__law_stir := mkC l.prog w base X G a__law_stir F__law_stir (ok__law_stir F__law_stir tt) (bd2 F__law_stir)
  have C__law_folded := mkC l.prog w base X G a__law_folded F__law_folded (ok__law_folded F__law_folded tt) (bd2 F__law_folded)
  have C__law_words := mkC l.prog w base X G a__law_words F__law_words (ok__law_words F__law_words tt) (bd2 F__law_words)
  have C__law_size := mkC l.prog w base X G a__law_size F__law_size (ok__law_size F__law_size tt) (bd1 F__law_size)
  have C__law_ask := mkC l.prog w base X G a__law_ask F__law_ask (ok__law_ask F__law_ask tt C__law_stir) (bd1 F__law_ask)
  have C__law_page := mkC l.prog w base X G a__law_page F__law_page (ok__law_page F__law_page tt C__law_stir C__law_size C__law_words C__law_folded) (bd2 F__law_page)
  have C__law_barred := mkC l.prog w base X G a__law_barred F__law_barred (ok__law_barred F__law_barred tt C__law_stir) (bd3 F__law_barred)
  exact ok_law F_law tt C__law_page C__law_barred C__law_ask C_read_page C_page_text
theorem walk {l : PySem.W.OpenLaw} {q : Program} {loose : List Str} {XP : (Str → Option Value) → Heap → Prop} {YP : World → Heap → Prop} {d : DefRec} {K : Params → PySem.W.Frag} (hn : l.most = some 63) (hdf : d.params.defaults = [])
    (hY : ∀ (w : World) (h : Heap), YP w h → (K w.params).In h)
    (F : ∀ (w : World) (mg : Str → Option Value) (fa : Addr) (h : Heap), (K w.params).In h → h.Ns mainGlobals mg → mg d.name = some (.ref fa) →
      ∃ fd : FuncData, (∀ (s : Shared) (u : Value), BindsTo s fd ⟨[u], []⟩ [("script", u)]) ∧ ∀ base : Heap, (K w.params).In base → base.Ns mainGlobals mg → FnOk l.prog w (K w.params) mg base (CX1 l.prog w) 9 fa fd ["script"] (spLaw (K w.params))) :
    PySem.W.WalkO q loose XP YP l.row.toRowW d [] (fun f vs => PySem.call f vs) :=
  L2.walk_of (n := 63) (k := 9) (x := "script") (CX := fun w => CX1 l.prog w) (sp := fun w => spLaw (K w.params)) hn (by decide) hdf ⟨rfl, by decide, by decide⟩ hY F (fun _ _ a ns hl _ hS => ⟨a, ns, rfl, hS, hl, fun _ => rfl⟩) fun _ _ _ _ _ ⟨_, _, _, _, _, z⟩ => z
end K77
theorem PySem.W.Fast.tw3546601123630058944 : True := trivial
theorem PySem.W.Fast.tw588991169821598144 : True := trivial
theorem PySem.W.Fast.tw1759555714476294688 : True := trivial
theorem PySem.W.Fast.tw1051441357737884320 : True := trivial
theorem PySem.W.Fast.tw6382046609128956832 : True := trivial
theorem PySem.W.Fast.tw9788877926367605664 : True := trivial
theorem PySem.W.Fast.tw5655294383952084896 : True := trivial
theorem PySem.W.Fast.tw4634957118420641089 : True := trivial
theorem PySem.W.Fast.tw8074127862926934529 : True := trivial
theorem PySem.W.Fast.tw8661683241572814657 : True := trivial
theorem PySem.W.Fast.tw8636446436694387553 : True := trivial
theorem PySem.W.Fast.tw2657881431720220706 : True := trivial
theorem PySem.W.Fast.tw7660188849181686818 : True := trivial
theorem PySem.W.Fast.tw14303508806025474274 : True := trivial
theorem PySem.W.Fast.tw10446823564519603906 : True := trivial
theorem PySem.W.Fast.tw7009260780661451714 : True := trivial
theorem PySem.W.Fast.tw8259347821801540963 : True := trivial
theorem PySem.W.Fast.tw7868419412600012387 : True := trivial
theorem PySem.W.Fast.tw932980414515512035 : True := trivial
theorem PySem.W.Fast.tw4025399244683588387 : True := trivial
theorem PySem.W.Fast.tw4295096725172396068 : True := trivial
theorem PySem.W.Fast.tw13338132292541235588 : True := trivial
theorem PySem.W.Fast.tw2545232529828408868 : True := trivial
theorem PySem.W.Fast.tw17601416199595785796 : True := trivial
theorem PySem.W.Fast.tw9370554132312248100 : True := trivial
theorem PySem.W.Fast.tw17448517462966042629 : True := trivial
theorem PySem.W.Fast.tw3727802232150815909 : True := trivial
theorem PySem.W.Fast.tw5720189722507466981 : True := trivial
theorem PySem.W.Fast.tw12615855155218364165 : True := trivial
theorem PySem.W.Fast.tw5261225951464129542 : True := trivial
theorem PySem.W.Fast.tw7542401257125451014 : True := trivial
theorem PySem.W.Fast.tw14703760188030759174 : True := trivial
theorem PySem.W.Fast.tw14644732780800533798 : True := trivial
theorem PySem.W.Fast.tw5676555920793703750 : True := trivial
theorem PySem.W.Fast.tw936804527422069190 : True := trivial
theorem PySem.W.Fast.tw9605174394748407302 : True := trivial
theorem PySem.W.Fast.tw15529805331211035302 : True := trivial
theorem PySem.W.Fast.tw5105114905318167270 : True := trivial
theorem PySem.W.Fast.tw17513726384105289510 : True := trivial
theorem PySem.W.Fast.tw14162152503931373446 : True := trivial
theorem PySem.W.Fast.tw8614764860041188326 : True := trivial
theorem PySem.W.Fast.te13460686038800616455 : True := trivial
theorem PySem.W.Fast.tw17444043375058999367 : True := trivial
theorem PySem.W.Fast.tw4681622772602241127 : True := trivial
theorem PySem.W.Fast.tw17581312877834433831 : True := trivial
theorem PySem.W.Fast.tw9027281290963954311 : True := trivial
theorem PySem.W.Fast.tw6039296716889258951 : True := trivial
theorem PySem.W.Fast.tw15541957563284521512 : True := trivial
theorem PySem.W.Fast.tw4393718262941777672 : True := trivial
theorem PySem.W.Fast.tw4438634027313188009 : True := trivial
theorem PySem.W.Fast.tw3946248774741325001 : True := trivial
theorem PySem.W.Fast.tw1418832878769871465 : True := trivial
theorem PySem.W.Fast.tw1709262389221770857 : True := trivial
theorem PySem.W.Fast.tw4766622590149018505 : True := trivial
theorem PySem.W.Fast.tw11553595514824154122 : True := trivial
theorem PySem.W.Fast.tw11810934678861291658 : True := trivial
theorem PySem.W.Fast.tw16460568252962140490 : True := trivial
theorem PySem.W.Fast.tw849141021444665866 : True := trivial
theorem PySem.W.Fast.tw6847214043047218411 : True := trivial
theorem PySem.W.Fast.tw439336046995168555 : True := trivial
theorem PySem.W.Fast.tw2834092530211842379 : True := trivial
theorem PySem.W.Fast.tw4425562155714998763 : True := trivial
theorem PySem.W.Fast.tw6872342960749416107 : True := trivial
theorem PySem.W.Fast.tw15625319716561547019 : True := trivial
theorem PySem.W.Fast.tw18409402550524653355 : True := trivial
theorem PySem.W.Fast.tw10029643015699054475 : True := trivial
theorem PySem.W.Fast.tw15560856047501526124 : True := trivial
theorem PySem.W.Fast.tw2861044665929088140 : True := trivial
theorem PySem.W.Fast.tw2992812351377558828 : True := trivial
theorem PySem.W.Fast.tw4723933738704302604 : True := trivial
theorem PySem.W.Fast.tw18290821663438489132 : True := trivial
theorem PySem.W.Fast.tw569174168327542316 : True := trivial
theorem PySem.W.Fast.tw15441330734792082124 : True := trivial
theorem PySem.W.Fast.tw9495294275527189356 : True := trivial
theorem PySem.W.Fast.tw1428423525893626764 : True := trivial
theorem PySem.W.Fast.tw6284759277351906220 : True := trivial
theorem PySem.W.Fast.tw14596984988668622221 : True := trivial
theorem PySem.W.Fast.tw11255492960613531469 : True := trivial
theorem PySem.W.Fast.tw1308744800372492590 : True := trivial
theorem PySem.W.Fast.tw6260063933596053870 : True := trivial
theorem PySem.W.Fast.tw6007387041717795246 : True := trivial
theorem PySem.W.Fast.tw185466650072120623 : True := trivial
theorem PySem.W.Fast.tw8957444749057477999 : True := trivial
theorem PySem.W.Fast.tw9548020511451399567 : True := trivial
theorem PySem.W.Fast.tw11017476173970759311 : True := trivial
theorem PySem.W.Fast.tw7280338354733816687 : True := trivial
theorem PySem.W.Fast.tw12239317383106236560 : True := trivial
theorem PySem.W.Fast.tw17640116537692923216 : True := trivial
theorem PySem.W.Fast.tw2501904555877169712 : True := trivial
theorem PySem.W.Fast.tw11854683110659511984 : True := trivial
theorem PySem.W.Fast.tw11019907686015487728 : True := trivial
theorem PySem.W.Fast.tw11463991161919599408 : True := trivial
theorem PySem.W.Fast.tw5982343627475095440 : True := trivial
theorem PySem.W.Fast.tw9615671437352079280 : True := trivial
theorem PySem.W.Fast.tw10446216942084468688 : True := trivial
theorem PySem.W.Fast.tw17674576280026493904 : True := trivial
theorem PySem.W.Fast.tw1543650698564407409 : True := trivial
theorem PySem.W.Fast.tw357132401421792465 : True := trivial
theorem PySem.W.Fast.tw12133986220894443793 : True := trivial
theorem PySem.W.Fast.tw8174761104320811313 : True := trivial
theorem PySem.W.Fast.tw9498536948526392689 : True := trivial
theorem PySem.W.Fast.tw6400973326145977233 : True := trivial
theorem PySem.W.Fast.tw15323497559899483154 : True := trivial
theorem PySem.W.Fast.tw6402632880720390258 : True := trivial
theorem PySem.W.Fast.tw3827763683121984626 : True := trivial
theorem PySem.W.Fast.tw1033247292823601746 : True := trivial
theorem PySem.W.Fast.tw7271717480922683090 : True := trivial
theorem PySem.W.Fast.tw12689997325279388434 : True := trivial
theorem PySem.W.Fast.tw6151482279052868370 : True := trivial
theorem PySem.W.Fast.tw16836094071367419059 : True := trivial
theorem PySem.W.Fast.tw11599414392775703955 : True := trivial
theorem PySem.W.Fast.tw12162206051993751091 : True := trivial
theorem PySem.W.Fast.tw7499306384977035987 : True := trivial
theorem PySem.W.Fast.tw9284419615808946995 : True := trivial
theorem PySem.W.Fast.tw18125689277221119859 : True := trivial
theorem PySem.W.Fast.tw7289800409816132595 : True := trivial
theorem PySem.W.Fast.tw14107988162680658036 : True := trivial
theorem PySem.W.Fast.tw2871747494681660724 : True := trivial
theorem PySem.W.Fast.tw15504400805489511156 : True := trivial
theorem PySem.W.Fast.tw11760981760684664789 : True := trivial
theorem PySem.W.Fast.tw16313710979415535638 : True := trivial
theorem PySem.W.Fast.tw11636042849054455958 : True := trivial
theorem PySem.W.Fast.tw10664474949171840278 : True := trivial
theorem PySem.W.Fast.tw8607225194266212567 : True := trivial
theorem PySem.W.Fast.tw16250685040016897271 : True := trivial
theorem PySem.W.Fast.tw4452233307517931319 : True := trivial
theorem PySem.W.Fast.tw13302686776618293175 : True := trivial
theorem PySem.W.Fast.tw1282449160632935383 : True := trivial
theorem PySem.W.Fast.tw16837098819475425400 : True := trivial
theorem PySem.W.Fast.tw13206805968736240824 : True := trivial
theorem PySem.W.Fast.tw16864315056662247640 : True := trivial
theorem PySem.W.Fast.tw14794445366873057624 : True := trivial
theorem PySem.W.Fast.tw16371417773322530232 : True := trivial
theorem PySem.W.Fast.tw12105047492652510200 : True := trivial
theorem PySem.W.Fast.tw5223618031725477913 : True := trivial
theorem PySem.W.Fast.tw8595655522543454585 : True := trivial
theorem PySem.W.Fast.tw17090963399297075737 : True := trivial
theorem PySem.W.Fast.tw7957766762672100921 : True := trivial
theorem PySem.W.Fast.tw13920447951498951321 : True := trivial
theorem PySem.W.Fast.tw8374183511998534489 : True := trivial
theorem PySem.W.Fast.tw8779061317730302969 : True := trivial
theorem PySem.W.Fast.tw1503472682405182554 : True := trivial
theorem PySem.W.Fast.tw9840663103062967418 : True := trivial
theorem PySem.W.Fast.tw10562493513507458362 : True := trivial
theorem PySem.W.Fast.tw6642948267063479802 : True := trivial
theorem PySem.W.Fast.tw12623115923808524826 : True := trivial
theorem PySem.W.Fast.tw17353335087220120346 : True := trivial
theorem PySem.W.Fast.tw6589161507375028026 : True := trivial
theorem PySem.W.Fast.tw16939199036972268603 : True := trivial
theorem PySem.W.Fast.tw1266953733102359099 : True := trivial
theorem PySem.W.Fast.tw15952076904495383163 : True := trivial
theorem PySem.W.Fast.tw6389910163338692571 : True := trivial
theorem PySem.W.Fast.tw9257853428999338396 : True := trivial
theorem PySem.W.Fast.tw1562562661587037660 : True := trivial
theorem PySem.W.Fast.tw298597974931543612 : True := trivial
theorem PySem.W.Fast.tw16387248615451641628 : True := trivial
theorem PySem.W.Fast.tw6007258755338654524 : True := trivial
theorem PySem.W.Fast.tw15039641649036497949 : True := trivial
theorem PySem.W.Fast.tw14630390460718684541 : True := trivial
theorem PySem.W.Fast.tw17477761816837676445 : True := trivial
theorem PySem.W.Fast.tw17069603053359877565 : True := trivial
theorem PySem.W.Fast.tw9619440399863221917 : True := trivial
theorem PySem.W.Fast.tw10161212535812614941 : True := trivial
theorem PySem.W.Fast.tw13501956402009399966 : True := trivial
theorem PySem.W.Fast.tw16284012323591310367 : True := trivial
theorem PySem.W.Fast.tw1023026352331490623 : True := trivial
theorem PySem.W.Fast.tw1623042125891008895 : True := trivial
theorem PySem.W.Fast.tw2418762703527591359 : True := trivial
theorem PySem.W.Fast.tw9701821487484419679 : True := trivial
theorem PySem.W.Fast.tw15443359725543666655 : True := trivial
def PySem.W.Fast.tw2458608729712535131 := PySem.Challenge.pw_onceround_k77_pages_read
theorem PySem.W.Fast.te2458608729712535131 : PySem.Challenge.pw_onceround_k77_pages_read = PySem.W.Fast.tw2458608729712535131 := rfl
open PySem PySem.W PyProof.Rows
set_option maxRecDepth 100000 in
set_option maxHeartbeats 0 in
theorem PySem.Challenge.cw_onceround_k77_pages_read_holds : PySem.Challenge.rw_onceround_k77_pages_read.Holds := by
  w_on; o_law; k_head; (case hw => w_witness2)
  k_fill
  refine K77.walk (l := PySem.Challenge.rw_onceround_k77_pages_read) rfl rfl (fun w h Y => PySem.W.kIn_of Y) ?F
  case F =>
    intro w mg fa h KX G hmg
    refine' K77.all_mk KX G hmg ?h_looked_kinds ?h_looked_length ?h_letters ?h_looked ?h_word_total ?h_spelled ?h_all_words ?h_looked_web ?h_Web_init ?h_looked_size ?h_is_made_of ?h_is_number ?h_is_text ?h_form_of ?h_kind_of ?h_looked_rows ?h_told_words ?h_read_page ?h_page_text ?h__law_stir ?h__law_folded ?h__law_words ?h__law_size ?h__law_ask ?h__law_page ?h__law_barred ?a_law ?l_law ?c_law ?k_law ?z_all ?z_any ?z_enumerate ?z_int ?z_isinstance ?z_len ?z_list ?z_max ?z_range ?z_reversed ?z_set ?z_sorted ?z_str ?z_sum ?z_tuple ?y_BadKinds ?y_BadWord ?y_TooMany ?y_BadText ?y_Web ?y_ASKS ?y_AHEAD ?e_BadKinds ?e_BadWord ?e_TooMany ?g_LETTERS ?r_LETTERS ?g_LONGEST ?r_LONGEST ?g_MOST_WORDS ?r_MOST_WORDS ?g_MOST_OF_A_WEB ?r_MOST_OF_A_WEB ?g_LONGEST_OF_A_WEB ?r_LONGEST_OF_A_WEB ?g_MOST_OF_A_RULE ?r_MOST_OF_A_RULE ?g_LONGEST_OF_A_RULE ?r_LONGEST_OF_A_RULE ?g_FIGURES ?r_FIGURES ?g_MOST_FIGURES ?r_MOST_FIGURES ?g_MOST_LETTERS ?r_MOST_LETTERS ?k_asks ?k_ahead ?pg_Web ?hd_Web ?po_Web ?sa_Web ?mk_Web ?kc_Web ?na_Web_words ?na_Web_length
    (case y_Web => k_is)
    (all_goals try (apply K77.hf_mk <;> k_is))
    (case h_Web_init => apply K77.hm_mk <;> k_is)
    (case a_law => k_is)
    (case l_law => k_is)
    (case c_law => k_is)
    (case k_law => k_is)
    (case z_all => k_is)
    (case z_any => k_is)
    (case z_enumerate => k_is)
    (case z_int => k_is)
    (case z_isinstance => k_is)
    (case z_len => k_is)
    (case z_list => k_is)
    (case z_max => k_is)
    (case z_range => k_is)
    (case z_reversed => k_is)
    (case z_set => k_is)
    (case z_sorted => k_is)
    (case z_str => k_is)
    (case z_sum => k_is)
    (case z_tuple => k_is)
    (case y_BadKinds => k_is)
    (case y_BadWord => k_is)
    (case y_TooMany => k_is)
    (case y_BadText => k_is)
    (case y_ASKS => k_is)
    (case y_AHEAD => k_is)
    (case e_BadKinds => kernel_rfl)
    (case e_BadWord => kernel_rfl)
    (case e_TooMany => kernel_rfl)
    (case g_LETTERS => k_is)
    (case r_LETTERS => exact ⟨_, rfl⟩)
    (case g_LONGEST => k_is)
    (case r_LONGEST => exact ⟨_, rfl⟩)
    (case g_MOST_WORDS => k_is)
    (case r_MOST_WORDS => exact ⟨_, rfl⟩)
    (case g_MOST_OF_A_WEB => k_is)
    (case r_MOST_OF_A_WEB => exact ⟨_, rfl⟩)
    (case g_LONGEST_OF_A_WEB => k_is)
    (case r_LONGEST_OF_A_WEB => exact ⟨_, rfl⟩)
    (case g_MOST_OF_A_RULE => k_is)
    (case r_MOST_OF_A_RULE => exact ⟨_, rfl⟩)
    (case g_LONGEST_OF_A_RULE => k_is)
    (case r_LONGEST_OF_A_RULE => exact ⟨_, rfl⟩)
    (case g_FIGURES => k_is)
    (case r_FIGURES => exact ⟨_, rfl⟩)
    (case g_MOST_FIGURES => k_is)
    (case r_MOST_FIGURES => exact ⟨_, rfl⟩)
    (case g_MOST_LETTERS => k_is)
    (case r_MOST_LETTERS => exact ⟨_, rfl⟩)
    (case k_asks => kernel_rfl)
    (case k_ahead => kernel_rfl)
    (case pg_Web => k_is)
    (case hd_Web => k_is)
    (case po_Web => k_is)
    (case sa_Web => k_is)
    (case mk_Web => k_is)
    (case kc_Web => k_is)
    (case na_Web_words => k_is)
    (case na_Web_length => k_is)
#print axioms PySem.Challenge.cw_onceround_k77_pages_read_holds
