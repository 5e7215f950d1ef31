import PyProof.Rows.All
import Wide.All
import OpenK.AllK
import Wide.FinOn
import Lean
import PyProof.EqAt
import PyProof.EqKinds
import PyProof.TupleCall
import PySem.Challenge.RW_onceround_k63_far_refused
set_option genSizeOfSpec false
set_option bootstrap.genMatcherCode false
-- CHANGE: your row's module here, as the last of these rows
set_option Elab.async false
set_option linter.all false
set_option maxRecDepth 100000
namespace L2
open PySem PySem.Spec PyProof.Rows

noncomputable abbrev Key := Sum Int Str
noncomputable def keyIs : Key → Value → Bool
  | .inl k, v => Value.isInt k v
  | .inr x, v => Value.isStrOf x v
noncomputable def keyH (w : World) : Key → Int
  | .inl k => hashInt k
  | .inr x => hashStr w x
theorem keyIs_shape : ∀ {k : Key} {v : Value}, keyIs k v = true → (∃ i t, k = Sum.inl i ∧ v = Value.int i t) ∨ (∃ x t, k = Sum.inr x ∧ v = Value.str x t)
  | .inl i, v, h => by
    obtain ⟨t, e⟩ := Value.isInt_shape (k := i) (v := v) h
    exact .inl ⟨i, t, rfl, e⟩
  | .inr x, v, h => by
    obtain ⟨t, e⟩ := Value.isStrOf_shape (x := x) (v := v) h
    exact .inr ⟨x, t, rfl, e⟩
theorem key_ll (a b : Int) : decide ((Sum.inl a : Key) = Sum.inl b) = (a == b) := by
  by_cases e : a = b
  · subst e; simp
  · have h : ¬ (Sum.inl a : Key) = Sum.inl b := fun q => e (Sum.inl.inj q)
    rw [decide_eq_false h]
    exact (beq_eq_false_iff_ne.mpr e).symm
theorem key_rr (a b : Str) : decide ((Sum.inr a : Key) = Sum.inr b) = decide (a = b) := by
  by_cases e : a = b
  · subst e; simp
  · have h : ¬ (Sum.inr a : Key) = Sum.inr b := fun q => e (Sum.inr.inj q)
    rw [decide_eq_false h, decide_eq_false e]
theorem key_lr (a : Int) (b : Str) : decide ((Sum.inl a : Key) = Sum.inr b) = false := decide_eq_false (fun q => nomatch q)
theorem key_rl (a : Str) (b : Int) : decide ((Sum.inr a : Key) = Sum.inl b) = false := decide_eq_false (fun q => nomatch q)

noncomputable def mixKind (prog : Program) (w : World) : PySem.KeyKind prog w Key where
  is := keyIs
  hash := keyH w
  inj := fun v a b ha hb => by
    rcases keyIs_shape ha with ⟨i, t, rfl, rfl⟩ | ⟨x, t, rfl, rfl⟩
    · rcases keyIs_shape hb with ⟨j, u, rfl, e⟩ | ⟨y, u, rfl, e⟩
      · injection e with e1 _; rw [e1]
      · exact nomatch e
    · rcases keyIs_shape hb with ⟨j, u, rfl, e⟩ | ⟨y, u, rfl, e⟩
      · exact nomatch e
      · injection e with e1 _; rw [e1]
  byValue := fun k v h => by
    rcases keyIs_shape h with ⟨i, t, rfl, rfl⟩ | ⟨x, t, rfl, rfl⟩ <;> rfl
  pyHash := fun hv h => by
    rcases keyIs_shape hv with ⟨i, t, rfl, rfl⟩ | ⟨x, t, rfl, rfl⟩
    · exact wpAny_pyHash_int h
    · exact wpAny_pyHash_str h
  eqBool := fun hu hv h => by
    rcases keyIs_shape hu with ⟨i, t, rfl, rfl⟩ | ⟨x, t, rfl, rfl⟩
    · rcases keyIs_shape hv with ⟨j, u, rfl, rfl⟩ | ⟨y, u, rfl, rfl⟩
      · rw [key_ll] at h; exact wpAny_eqBool_int h
      · rw [key_lr] at h; exact SeqAt.EqAt.int_str i t y u _ _ _ _ h
    · rcases keyIs_shape hv with ⟨j, u, rfl, rfl⟩ | ⟨y, u, rfl, rfl⟩
      · rw [key_rl] at h; exact SeqAt.EqAt.str_int x t j u _ _ _ _ h
      · rw [key_rr] at h; exact wpAny_eqBool_str h
  «strs» := fun k x t v h => by
    rcases keyIs_shape h with ⟨i, u, rfl, e⟩ | ⟨y, u, rfl, e⟩
    · exact nomatch e
    · injection e with e1 _
      subst e1
      cases v <;> rfl

end L2

namespace L2
open PySem PySem.Spec PyProof.Rows

inductive V where
  | non | bl (b : Bool) | int (i : Int) | str (x : Str) | byt (b : Array UInt8) | flt (b : UInt64) | ref (a : Addr) | ty (n : String)
  deriving DecidableEq

noncomputable def RelV : V → Value → Prop
  | .non, u => u = Value.none
  | .bl b, u => u = Value.bool b
  | .int i, u => ∃ t, u = Value.int i t
  | .str x, u => ∃ t, u = Value.str x t
  | .byt b, u => ∃ t, u = Value.bytes b t
  | .flt b, u => ∃ t, u = Value.float b t
  | .ref a, u => u = Value.ref a
  | .ty n, u => u = Value.type n

noncomputable abbrev Vals : List V → List Value → Prop := Paired RelV
theorem Vals.length {xs : List V} {us : List Value} (r : Vals xs us) : xs.length = us.length := Paired.length r
theorem Vals.get : ∀ {xs : List V} {us : List Value} {i : Nat} {x : V}, Vals xs us → xs[i]? = some x → ∃ u, us[i]? = some u ∧ RelV x u
  | _, _, _, _, .nil, e => by simp at e
  | _, _, 0, _, .cons r _, e => by simp at e; subst e; exact ⟨_, rfl, r⟩
  | _, _, i + 1, x, .cons _ t, e => by
    obtain ⟨u, h1, h2⟩ := Vals.get (i := i) (x := x) t (by simpa using e)
    exact ⟨u, by simpa using h1, h2⟩
theorem Vals.append : ∀ {xs ys : List V} {us ws : List Value}, Vals xs us → Vals ys ws → Vals (xs ++ ys) (us ++ ws)
  | _, _, _, _, .nil, s => s
  | _, _, _, _, .cons r t, s => .cons r (Vals.append t s)
theorem Vals.take : ∀ {xs : List V} {us : List Value} (n : Nat), Vals xs us → Vals (xs.take n) (us.take n)
  | _, _, 0, _ => .nil
  | _, _, _ + 1, .nil => .nil
  | _, _, n + 1, .cons r t => .cons r (Vals.take n t)
theorem Vals.drop : ∀ {xs : List V} {us : List Value} (n : Nat), Vals xs us → Vals (xs.drop n) (us.drop n)
  | _, _, 0, r => r
  | _, _, _ + 1, .nil => .nil
  | _, _, n + 1, .cons _ t => Vals.drop n t
noncomputable def RelO : Option V → Option Value → Prop
  | some v, some u => RelV v u
  | none, none => True
  | _, _ => False
noncomputable def KV {κ : Type} : List (κ × V) → List (κ × Value) → Prop := Paired fun (p : κ × V) (q : κ × Value) => p.1 = q.1 ∧ RelV p.2 q.2

noncomputable def kV : Key → V
  | .inl i => .int i
  | .inr x => .str x

inductive HO where
    | lst (xs : List V)
    | tup (xs : List V)
    | dK (kvs : List (Key × V)) | dT (kvs : List (List Key × V))
    | set (S : Int → Bool) (n : Nat)
    | ins (C dx : Addr) (fs : List (Str × V))
    | own (x : Addr)
    | xd (fs : List (Str × V))
    | met (f x : Addr)
    | rng (lo hi : Int)
    | frz (o : Obj) (u : HO)
    | tbl (ps : Array Value)
    | ext (φ : Heap → Prop)

noncomputable abbrev Hp := Addr → Option HO
noncomputable def upd (H : Hp) (a : Addr) (o : HO) : Hp := fun b => if b = a then some o else H b
theorem upd_same {H : Hp} {a : Addr} {o : HO} : upd H a o a = some o := by unfold upd; rw [if_pos rfl]
theorem upd_ne {H : Hp} {a b : Addr} {o : HO} (h : b ≠ a) : upd H a o b = H b := by unfold upd; rw [if_neg h]
theorem ne_of_none {H : Hp} {a b : Addr} {o : HO} (h : H a = some o) (h' : H b = none) : a ≠ b := by
  intro e; subst e; rw [h] at h'; cases h'

section
variable (P : Program) (w : World)
noncomputable def ObjOk (H : Hp) (h : Heap) (a : Addr) : HO → Prop
  | .lst xs => xs.length ≤ sizeLine ∧ ∃ (its : List Value) (n : Nat), Vals xs its ∧ h.get? a = some { cls := .type "list", data := .seq its.toArray n }
  | .tup xs => xs.length ≤ sizeLine ∧ ∃ its : List Value, Vals xs its ∧ IsTup h a its.toArray
  | .dK kvs => kvs.length ≤ sizeLine ∧ (a == sysModules) = false ∧ ∃ vs, KV kvs vs ∧ h.DictOf (mixKind P w) a vs
  | .dT kvs => kvs.length ≤ sizeLine ∧ (a == sysModules) = false ∧ ∃ xs : List (List Key × Addr × Value),
      Paired (fun (p : List Key × V) (q : List Key × Addr × Value) => p.1 = q.1 ∧ H q.2.1 = some (.tup (p.1.map kV)) ∧ RelV p.2 q.2.2) kvs xs ∧
      ∃ o es ep, h.get? a = some o ∧ o.ExactDict ∧ o.data = .dict es ep ∧ es.toList = xs.map (entryOfKey (tupleKind (mixKind P w))) ∧ (xs.map (·.1)).Nodup
  | .set S n => h.SetOf (intKind P w) a S n
  | .ins C dx fs => H dx = some (.own a) ∧ fs.length ≤ 1000 ∧ dx ≠ a ∧ h.get? a = some (PySem.W.instObj C dx) ∧
      ∃ mA, h.Ns1 dx mA ∧ (∀ f, RelO (fs.lookup f) (mA f)) ∧ PySem.Within mA (fs.map (·.1))
  | .own _ => ∃ o, h.get? a = some o
  | .xd fs => ∃ mA, h.Ns1 a mA ∧ ∀ f, RelO (fs.lookup f) (mA f)
  | .rng lo hi => ∃ t u v, h.get? a = some { cls := .type "range", data := .fields #[.int lo t, .int hi u, .int 1 v] }
  | .frz o u => h.get? a = some o ∧ ObjOk H h a u
  | .tbl ps => h.get? a = some { cls := .none, data := .fields ps }
  | .met f x => h.get? a = some (PySem.W.methodObj (.ref f) (.ref x))
  | .ext φ => φ h ∧ (∃ o, h.get? a = some o) ∧ ∀ h1 h2 : Heap, φ h1 → (∀ o, h1.get? a = some o → h2.get? a = some o) → φ h2
noncomputable def HOk (H : Hp) (h : Heap) : Prop := ∀ a o, H a = some o → ObjOk P w H h a o
end

section
variable {P : Program} {w : World} {H H' : Hp} {h h' : Heap} {a : Addr} {o : HO}
theorem ObjOk.lt (x : ObjOk P w H h a o) : a < h.objs.size := by
  cases o with
  | lst xs => obtain ⟨_, _, _, _, e⟩ := x; exact Heap.lt_size e
  | tup xs => obtain ⟨_, _, _, p⟩ := x; exact p.lt
  | dK kvs => obtain ⟨_, _, _, _, o, _, _, e, _⟩ := x; exact Heap.lt_size e
  | dT kvs => obtain ⟨_, _, _, _, o, _, _, e, _⟩ := x; exact Heap.lt_size e
  | set S n => obtain ⟨o, _, _, _, e, _⟩ := x; exact Heap.lt_size e
  | ins C dx fs => obtain ⟨_, _, _, e, _⟩ := x; exact Heap.lt_size e
  | own y => obtain ⟨_, e⟩ := x; exact Heap.lt_size e
  | xd fs => obtain ⟨_, ⟨_, _, _, e, _⟩, _⟩ := x; exact Heap.lt_size e
  | rng lo hi => obtain ⟨_, _, _, e⟩ := x; exact Heap.lt_size e
  | frz ob u => obtain ⟨e, _⟩ := x; exact Heap.lt_size e
  | tbl ps => exact Heap.lt_size (show h.get? a = some _ from x)
  | met f y => exact Heap.lt_size (show h.get? a = some _ from x)
  | ext φ => obtain ⟨_, ⟨_, e⟩, _⟩ := x; exact Heap.lt_size e
theorem Paired.mapP {α β : Type} {F G : α → β → Prop} : ∀ {l₁ : List α} {l₂ : List β}, Paired F l₁ l₂ → (∀ a b, F a b → G a b) → Paired G l₁ l₂
  | _, _, .nil, _ => .nil
  | _, _, .cons r t, f => .cons (f _ _ r) (Paired.mapP t f)
theorem ObjOk.stay (x : ObjOk P w H h a o) (k : ∀ b u, (b = a ∨ H b = some (.own a)) → h.get? b = some u → h'.get? b = some u)
    (ho : ∀ b, H b = some (.own a) → H' b = some (.own a)) (ht : ∀ b xs, H b = some (.tup xs) → H' b = some (.tup xs)) : ObjOk P w H' h' a o := by
  induction o with
  | lst xs => obtain ⟨z, its, n, r, e⟩ := x; exact ⟨z, its, n, r, k _ _ (.inl rfl) e⟩
  | tup xs => obtain ⟨z, its, r, ob, e, c⟩ := x; exact ⟨z, its, r, ob, k _ _ (.inl rfl) e, c⟩
  | dK kvs => obtain ⟨z, y, vs, r, ob, es, ep, e, c⟩ := x; exact ⟨z, y, vs, r, ob, es, ep, k _ _ (.inl rfl) e, c⟩
  | dT kvs =>
    obtain ⟨z, y, xs, r, ob, es, ep, e, c⟩ := x
    exact ⟨z, y, xs, Paired.mapP r fun p q z => ⟨z.1, ht _ _ z.2.1, z.2.2⟩, ob, es, ep, k _ _ (.inl rfl) e, c⟩
  | set S n => obtain ⟨ob, es, ep, t, e, c⟩ := x; exact ⟨ob, es, ep, t, k _ _ (.inl rfl) e, c⟩
  | ins C dx fs =>
    obtain ⟨d, z, ne, e, mA, ⟨od, es, ep, e2, c⟩, r⟩ := x
    exact ⟨ho _ d, z, ne, k _ _ (.inl rfl) e, mA, ⟨od, es, ep, k _ _ (.inr d) e2, c⟩, r⟩
  | own y => obtain ⟨ob, e⟩ := x; exact ⟨ob, k _ _ (.inl rfl) e⟩
  | xd fs => obtain ⟨mA, ⟨od, es, ep, e, c⟩, r⟩ := x; exact ⟨mA, ⟨od, es, ep, k _ _ (.inl rfl) e, c⟩, r⟩
  | rng lo hi => obtain ⟨t, u, v, e⟩ := x; exact ⟨t, u, v, k _ _ (.inl rfl) e⟩
  | frz ob u ih => obtain ⟨e, q⟩ := x; exact ⟨k _ _ (.inl rfl) e, ih q⟩
  | tbl ps =>
    have e : h.get? a = some { cls := .none, data := .fields ps } := x
    show h'.get? a = some { cls := .none, data := .fields ps }
    exact k a _ (.inl rfl) e
  | met f y =>
    have e : h.get? a = some (PySem.W.methodObj (.ref f) (.ref y)) := x
    show h'.get? a = some (PySem.W.methodObj (.ref f) (.ref y))
    exact k a _ (.inl rfl) e
  | ext φ => obtain ⟨p, ⟨o, e⟩, st⟩ := x; exact ⟨st _ _ p fun o q => k _ _ (.inl rfl) q, ⟨o, k _ _ (.inl rfl) e⟩, st⟩
theorem HOk.lt (x : HOk P w H h) (e : H a = some o) : a < h.objs.size := (x a o e).lt
theorem HOk.fresh (x : HOk P w H h) (e : h.objs.size ≤ a) : H a = none := by
  cases q : H a with
  | none => rfl
  | some u => exact absurd (Nat.lt_of_lt_of_le (x.lt q) e) (Nat.lt_irrefl _)
theorem HOk.kept (x : HOk P w H h) (k : ∀ b u, h.get? b = some u → h'.get? b = some u) : HOk P w H h' := fun a o e =>
  (x a o e).stay (fun b u _ q => k b u q) (fun _ q => q) fun _ _ q => q
theorem HOk.laid (x : HOk P w H h) (k : ∀ b u, h.get? b = some u → h'.get? b = some u) (hp : h.objs.size ≤ a) (new : ObjOk P w (upd H a o) h' a o) : HOk P w (upd H a o) h' := fun b u e => by
  have hn := x.fresh hp
  by_cases hb : b = a
  · subst hb; rw [upd_same] at e; cases e; exact new
  · rw [upd_ne hb] at e
    exact (x b u e).stay (fun c v _ q => k c v q) (fun c q => by rw [upd_ne (ne_of_none q hn)]; exact q) fun c xs q => by rw [upd_ne (ne_of_none q hn)]; exact q
end

noncomputable def Rd (H : Hp) (a : Addr) (u : HO) : Prop := H a = some u ∨ ∃ o, H a = some (.frz o u)
theorem Rd.ok {P : Program} {w : World} {H : Hp} {h : Heap} {a : Addr} {u : HO} (r : Rd H a u) (x : HOk P w H h) : ObjOk P w H h a u := by
  rcases r with r | ⟨o, r⟩
  · exact x a u r
  · obtain ⟨_, q⟩ := x a _ r
    exact q
noncomputable def Mut : Option HO → Prop
  | some (.lst _) => True
  | some (.dK _) => True
  | some (.dT _) => True
  | some (.set _ _) => True
  | some (.ins _ _ _) => True
  | some (.ext _) => True
  | _ => False
section
variable {P : Program} {w : World} {H : Hp} {h h' : Heap} {x e : Addr} {o' : HO}
theorem HOk.write (ok : HOk P w H h) (mu : Mut (H x)) (he : e = x ∨ H e = some (.own x)) (k : ∀ b u, b ≠ e → h.get? b = some u → h'.get? b = some u) (heo : ∃ u, h'.get? e = some u)
    (new : ObjOk P w (upd H x o') h' x o') : HOk P w (upd H x o') h' := fun b u q => by
  have nown : ∀ c y, H c = some (.own y) → c ≠ x := fun c y r z => by subst z; rw [r] at mu; exact mu
  have ntup : ∀ c xs, H c = some (.tup xs) → c ≠ x := fun c xs r z => by subst z; rw [r] at mu; exact mu
  by_cases hb : b = x
  · subst hb; rw [upd_same] at q; cases q; exact new
  · rw [upd_ne hb] at q
    by_cases hbe : b = e
    · have q' : H b = some (.own x) := by
        rcases he with z | z
        · exact absurd (hbe.trans z) hb
        · rw [hbe]; exact z
      rw [q] at q'; cases q'
      obtain ⟨v, hv⟩ := heo
      exact ⟨v, by rw [hbe]; exact hv⟩
    · refine (ok b u q).stay (fun c v hc r => k c v ?_ r) (fun c r => by rw [upd_ne (nown c b r)]; exact r) fun c xs r => by rw [upd_ne (ntup c xs r)]; exact r
      rcases hc with rfl | hc
      · exact hbe
      · rintro rfl
        rcases he with z | z
        · exact nown c b hc z
        · rw [hc] at z; cases z; exact hb rfl
end

set_option genInjectivity false in
structure Un (fs ex : List Addr) (H H' : Hp) (h h' : Heap) : Prop where
  keep : ∀ b o, h.get? b = some o → H b = none → b ∉ fs → b ∉ ex → h'.get? b = some o
  slot : ∀ b o, h.get? b = some o → H b = none → b ∈ fs → b ∉ ex → ∃ sl, h'.get? b = some { o with slots := sl }
  free : ∀ b o, h.get? b = some o → H b = none → b ∉ ex → H' b = none
  there : ∀ b o, h.get? b = some o → b ∉ ex → ∃ o', h'.get? b = some o'
  tups : ∀ b xs, H b = some (.tup xs) → H' b = some (.tup xs)
  frzs : ∀ b o u, H b = some (.frz o u) → H' b = some (.frz o u)
  tbls : ∀ b ps, H b = some (.tbl ps) → ∃ more, H' b = some (.tbl (ps ++ more))
section
variable {fs fs' ex ex' : List Addr} {H H1 H2 : Hp} {h h1 h2 h' : Heap} {a x e : Addr} {o : HO}
theorem Un.any (u : Un fs ex H H1 h h1) {b : Addr} {ob : Obj} (q : h.get? b = some ob) (n : H b = none) (hx : b ∉ ex) : ∃ sl, h1.get? b = some { ob with slots := sl } := by
  by_cases hb : b ∈ fs
  · exact u.slot b ob q n hb hx
  · exact ⟨ob.slots, u.keep b ob q n hb hx⟩
theorem Un.kept (k : ∀ b u, h.get? b = some u → h'.get? b = some u) : Un fs ex H H h h' :=
  ⟨fun b ob q _ _ _ => k b ob q, fun b ob q _ _ _ => ⟨ob.slots, k b ob q⟩, fun _ _ _ n _ => n, fun b ob q _ => ⟨ob, k b ob q⟩, fun _ _ q => q, fun _ _ _ q => q, fun _ ps q => ⟨#[], by rw [q]; simp⟩⟩
theorem Un.refl : Un fs ex H H h h := Un.kept fun _ _ q => q
theorem Un.laid (k : ∀ b u, h.get? b = some u → h'.get? b = some u) (hp : h.objs.size ≤ a) (hn : H a = none) : Un fs ex H (upd H a o) h h' where
  keep := fun b u q _ _ _ => k b u q
  slot := fun b u q _ _ _ => ⟨u.slots, k b u q⟩
  free := fun b u q n _ => by rw [upd_ne (Nat.ne_of_lt (Nat.lt_of_lt_of_le (Heap.lt_size q) hp))]; exact n
  there := fun b u q _ => ⟨u, k b u q⟩
  tups := fun b xs q => by rw [upd_ne (ne_of_none q hn)]; exact q
  frzs := fun b u xs q => by rw [upd_ne (ne_of_none q hn)]; exact q
  tbls := fun b ps q => ⟨#[], by rw [upd_ne (ne_of_none q hn), q]; simp⟩
theorem Un.write (mu : Mut (H x)) (he : e = x ∨ H e = some (.own x)) (k : ∀ b u, b ≠ e → h.get? b = some u → h'.get? b = some u) (heo : ∃ u, h'.get? e = some u) : Un fs ex H (upd H x o) h h' := by
  have hx : ∀ b, H b = none → b ≠ x := fun b n z => by subst z; rw [n] at mu; exact mu
  have hb : ∀ b, H b = none → b ≠ e := fun b n z => by
    subst z
    rcases he with r | r
    · exact hx b n r
    · rw [n] at r; cases r
  have hm : ∀ b u, H b = some u → ¬ Mut (some u) → b ≠ x := fun b u q nm z => by subst z; rw [q] at mu; exact nm mu
  refine ⟨fun b u q n _ _ => k b u (hb b n) q, fun b u q n _ _ => ⟨u.slots, k b u (hb b n) q⟩, fun b u q n _ => by rw [upd_ne (hx b n)]; exact n, fun b u q _ => ?_,
    fun b xs q => by rw [upd_ne (hm b _ q fun z => z)]; exact q, fun b u xs q => by rw [upd_ne (hm b _ q fun z => z)]; exact q, fun b ps q => ⟨#[], by rw [upd_ne (hm b _ q fun z => z), q]; simp⟩⟩
  by_cases hbe : b = e
  · subst hbe; exact heo
  · exact ⟨u, k b u hbe q⟩
end

noncomputable def trk (h : Heap) (H : Hp) : List Addr := (List.range h.objs.size).filter fun a => (H a).isSome
noncomputable def hidT (h : Heap) (H : Hp) : Heap := PySem.W.hideAll h (trk h H)
theorem hidT_size (h : Heap) (H : Hp) : (hidT h H).objs.size = h.objs.size := PySem.W.hideAll_size _ _
theorem hidT_get {h : Heap} {H : Hp} {b : Addr} {o : Obj} (e : h.get? b = some o) (n : H b = none) : (hidT h H).get? b = some o :=
  PySem.W.hideAll_get _ e fun hm => by
    have q : (H b).isSome = true := (List.mem_filter.mp hm).2
    rw [n] at q; simp at q
theorem of_hidT {h : Heap} {H : Hp} {b : Addr} {o : Obj} (e : (hidT h H).get? b = some o) : h.get? b = some o ∧ H b = none := by
  have e' : h.get? b = some o := PySem.W.of_hideAll (trk h H) e
  refine ⟨e', ?_⟩
  cases q : H b with
  | none => rfl
  | some x =>
    have hm : b ∈ trk h H := List.mem_filter.mpr ⟨List.mem_range.mpr (Heap.lt_size e'), by simp [q]⟩
    have z : (hidT h H).get? b = none := PySem.W.hideAll_none (trk h H) hm
    rw [z] at e; cases e

noncomputable def allNews (g h : Heap) (L : Addr) : List (Addr × Obj) := (List.range h.objs.size).filterMap fun a => if a = L ∨ (g.get? a).isSome = true then none else (h.get? a).map fun o => (a, o)
noncomputable def rest (g h : Heap) (L d : Addr) : List (Addr × Obj) := (allNews g h L).filter fun p => decide (p.1 ≠ d)
end L2

namespace L2
open PySem PySem.Spec PyProof.Rows

set_option genInjectivity false in
structure Mod (K : PySem.W.Frag) (mg : Str → Option Value) (base : Heap) : Prop where
  kin : K.In base
  glob : base.Ns mainGlobals mg
  blt : ∃ mb, base.Ns builtinsNs mb ∧ ∀ x : Str, x ≠ "__name__" → mb x = bootBuiltins x
  nolimit : base.NoLimit

set_option genInjectivity false in
structure Cx where
  prog : Program
  w : World
  K : PySem.W.Frag
  mg : Str → Option Value
  base : Heap
  A : Around
  N : List Str
  s₀ : Shared
  H₀ : Hp
  env : Env
  outer : List Env
  stack : List Env
  ex : List Addr
  fn : Str → Bool
  calm : Bool
  pn : List (Addr × Obj)
  xe : Value → Shared → Prop
noncomputable def frs (l : List Env) : List Addr := l.filterMap (·.frame)
noncomputable abbrev Cx.fs (X : Cx) : List Addr := frs X.outer

noncomputable def Vis (sc : Scope) (x : Str) : Prop := sc.names.lookup x = some .local ∨ sc.names.lookup x = some .cell ∨ sc.names.lookup x = some .free
noncomputable def Loc (sc : Scope) (x : Str) : Prop := sc.names.lookup x = some .local ∨ sc.names.lookup x = some .cell
noncomputable def Look (env : Env) (h : Heap) (m : Str → Option Value) (x : Str) (u : Value) : Prop :=
  (env.kindOf x = some .local ∧ m x = some u) ∨ ((env.kindOf x = some .cell ∨ env.kindOf x = some .free) ∧ ∃ c, env.cells.lookup x = some c ∧ h.IsCell c (some u))

set_option genInjectivity false in
structure Cx.Ok (X : Cx) : Prop where
  mod : Mod X.K X.mg X.base
  kind : X.env.scope.kind = .function
  glob : X.env.globals = mainGlobals
  blt : X.env.builtins = builtinsNs
  above : X.s₀.heap.objs.size ≤ X.env.locals
  inj : ∀ x y c, X.env.cells.lookup x = some c → X.env.cells.lookup y = some c → x = y
  has : ∀ x, (X.env.kindOf x = some .cell ∨ X.env.kindOf x = some .free) → ∃ c, X.env.cells.lookup x = some c
  cab : ∀ x c, X.fn x = true → X.env.cells.lookup x = some c → X.s₀.heap.objs.size ≤ c
  hd : X.calm = true → X.A.handled = none
  frames : X.A.frames = some X.stack
  stk : X.stack = X.outer ∨ (X.stack = X.env :: X.outer ∧ X.env.frame = some X.env.locals)
  exf : ∀ b ∈ X.ex, b ≠ X.env.locals ∧ ∀ x c, X.env.cells.lookup x = some c → c ≠ b
  bs : ∀ b o, X.base.get? b = some o → X.s₀.heap.get? b = some o ∧ X.H₀ b = none
  bsz : X.base.objs.size ≤ X.s₀.heap.objs.size
  noex : ∀ b o, X.base.get? b = some o → b ∉ X.ex
  exfs : ∀ b ∈ X.ex, b ∉ X.fs
  funs : X.s₀.heap.FunFrames X.base X.outer
  frf : ∀ b ∈ X.fs, X.H₀ b = none

set_option genInjectivity false in
structure Inv (X : Cx) (pins : List (Addr × Obj)) (σ : List (Option V)) (H : Hp) (s : Shared) : Prop where
  ok : X.Ok
  os : s.os = X.s₀.os
  bare : AllBare s.gens
  base : Un X.fs X.ex X.H₀ H X.s₀.heap s.heap
  loc : ∃ m, s.heap.Ns X.env.locals m ∧ ∀ (i : Nat) (x : Str) (v : V), X.N[i]? = some x → σ[i]? = some (some v) → Vis X.env.scope x → ∃ u, RelV v u ∧ Look X.env s.heap m x u
  cell : ∀ x c, X.env.cells.lookup x = some c → ∃ v, s.heap.IsCell c v
  free : H X.env.locals = none
  freeC : ∀ x c, X.env.cells.lookup x = some c → H c = none
  pin : ∀ p ∈ X.pn ++ pins, s.heap.get? p.1 = some p.2 ∧ H p.1 = none ∧ p.1 ≠ X.env.locals ∧ p.1 ∉ X.fs ∧ ∀ v, p.2.data ≠ .cell v
  hok : HOk X.prog X.w H s.heap
  len : σ.length = X.N.length

section
variable {X : Cx} {pins : List (Addr × Obj)} {σ : List (Option V)} {H H' : Hp} {s : Shared} {h' : Heap}

theorem Cx.Ok.nofr (ok : X.Ok) {b : Addr} {o : Obj} (e : X.base.get? b = some o) : b ∉ X.fs := fun hb => by
  have := (ok.funs.mem hb).1
  rw [e] at this; cases this
theorem Inv.bs (I : Inv X pins σ H s) : ∀ b o, X.base.get? b = some o → s.heap.get? b = some o ∧ H b = none := fun b o e =>
  ⟨I.base.keep b o (I.ok.bs b o e).1 (I.ok.bs b o e).2 (I.ok.nofr e) (I.ok.noex b o e), I.base.free b o (I.ok.bs b o e).1 (I.ok.bs b o e).2 (I.ok.noex b o e)⟩
theorem Inv.bk (I : Inv X pins σ H s) : ∀ b o, X.base.get? b = some o → s.heap.get? b = some o := fun b o e => (I.bs b o e).1
theorem Inv.mod (I : Inv X pins σ H s) : Mod X.K X.mg X.base := I.ok.mod
theorem Inv.kIn (I : Inv X pins σ H s) : X.K.In s.heap := I.ok.mod.kin.keeps I.bk
theorem Inv.lt (I : Inv X pins σ H s) : X.env.locals < s.heap.objs.size := let ⟨_, hn, _⟩ := I.loc; hn.lt
theorem Inv.sz (I : Inv X pins σ H s) : X.s₀.heap.objs.size ≤ s.heap.objs.size := Nat.le_trans I.ok.above (Nat.le_of_lt I.lt)
theorem Inv.nofs (I : Inv X pins σ H s) {a : Addr} (h : s.heap.objs.size ≤ a) : a ∉ X.fs := fun hb => by
  obtain ⟨_, o, ho, _⟩ := I.ok.funs.mem hb
  exact absurd (Nat.lt_of_lt_of_le (Heap.lt_size ho) (Nat.le_trans I.sz h)) (Nat.lt_irrefl _)
theorem Inv.cne (I : Inv X pins σ H s) : ∀ x c, X.env.cells.lookup x = some c → c ≠ X.env.locals := fun x c e z => by
  obtain ⟨v, o, ho, hd⟩ := I.cell x c e
  obtain ⟨m, ⟨o', es, ep, ho', hd', _⟩, _⟩ := I.loc
  rw [z, ho'] at ho; cases ho; rw [hd'] at hd; cases hd
theorem Inv.funs (I : Inv X pins σ H s) : s.heap.FunFrames X.base X.outer := by
  have all : ∀ (l : List Env), (∀ b ∈ frs l, b ∈ X.fs) → X.s₀.heap.FunFrames X.base l → s.heap.FunFrames X.base l := by
    intro l
    induction l with
    | nil => intro _ _; trivial
    | cons env r ih =>
      intro hs hl
      obtain ⟨hk, ⟨L, o, hf, hn, ho, hd⟩, hr⟩ := hl
      have hL : L ∈ X.fs := hs L (by unfold frs; rw [List.filterMap_cons, hf]; exact List.mem_cons_self)
      obtain ⟨sl, e⟩ := I.base.slot L o ho (I.ok.frf L hL) hL fun z => I.ok.exfs L z hL
      exact ⟨hk, ⟨L, _, hf, hn, e, hd⟩, ih (fun b hb => hs b (by unfold frs; rw [List.filterMap_cons, hf]; exact List.mem_cons_of_mem _ hb)) hr⟩
  exact all X.outer (fun _ hb => hb) I.ok.funs

theorem Inv.stack (I : Inv X pins σ H s) : s.heap.FunFrames X.base X.stack := by
  rcases I.ok.stk with e | ⟨e, hf⟩
  · rw [e]; exact I.funs
  · rw [e]
    obtain ⟨m, hn, _⟩ := I.loc
    refine .cons (by rw [I.ok.kind]; decide) hf hn ?_ I.funs
    exact Heap.get?_none_of_le (Nat.le_trans I.ok.bsz I.ok.above)
theorem Inv.stkSub (I : Inv X pins σ H s) : ∀ b ∈ frs X.stack, b ∈ X.env.locals :: X.fs := fun b hb => by
  rcases I.ok.stk with e | ⟨e, hf⟩
  · rw [e] at hb; exact List.mem_cons_of_mem _ hb
  · rw [e] at hb
    unfold frs at hb
    rw [List.filterMap_cons, hf] at hb
    exact hb
theorem Inv.stkFree (I : Inv X pins σ H s) : ∀ b ∈ frs X.stack, H b = none := fun b hb => by
  rcases List.mem_cons.mp (I.stkSub b hb) with e | hb
  · rw [e]; exact I.free
  · obtain ⟨_, o, ho, _⟩ := I.ok.funs.mem hb
    exact I.base.free b o ho (I.ok.frf b hb) fun z => I.ok.exfs b z hb

theorem Inv.step {g' : Array GenState} {t' : Nat} {d' : Drawn} {ch : List Addr} (I : Inv X pins σ H s)
    (hch : ∀ b ∈ ch, (b ∈ X.ex ∨ X.s₀.heap.objs.size ≤ b) ∧ b ≠ X.env.locals ∧ (∀ x c, X.env.cells.lookup x = some c → c ≠ b) ∧ ∀ p ∈ X.pn ++ pins, p.1 ≠ b)
    (keep : ∀ b o, b ≠ X.env.locals → b ∉ X.fs → b ∉ ch → s.heap.get? b = some o → H b = none → h'.get? b = some o)
    (slot : ∀ b o, b ≠ X.env.locals → b ∈ X.fs → b ∉ ch → s.heap.get? b = some o → H b = none → ∃ sl, h'.get? b = some { o with slots := sl }) (free : ∀ b o, b ∉ ch → s.heap.get? b = some o → H b = none → H' b = none)
    (there : ∀ b o, b ∉ ch → s.heap.get? b = some o → ∃ o', h'.get? b = some o')
    (tups : ∀ b xs, H b = some (.tup xs) → H' b = some (.tup xs)) (frzs : ∀ b o u, H b = some (.frz o u) → H' b = some (.frz o u)) (tbls : ∀ b ps, H b = some (.tbl ps) → ∃ more, H' b = some (.tbl (ps ++ more)))
    (ns : ∀ m, s.heap.Ns X.env.locals m → h'.Ns X.env.locals m) (hok : HOk X.prog X.w H' h') (hg : AllBare g') :
    Inv X pins σ H' { s with heap := h', gens := g', drawn := d', toks := t' } := by
  have neL : ∀ b o, X.s₀.heap.get? b = some o → b ≠ X.env.locals := fun b o e => Nat.ne_of_lt (Nat.lt_of_lt_of_le (Heap.lt_size e) I.ok.above)
  have neC : ∀ b o, X.s₀.heap.get? b = some o → b ∉ X.ex → b ∉ ch := fun b o e hx hb => by
    rcases (hch b hb).1 with z | z
    · exact hx z
    · exact absurd (Nat.lt_of_lt_of_le (Heap.lt_size e) z) (Nat.lt_irrefl _)
  have cellK : ∀ x c, X.env.cells.lookup x = some c → ∀ v, s.heap.IsCell c v → h'.IsCell c v := fun x c e v ⟨o, ho, hd⟩ => by
    have nch : c ∉ ch := fun z => (hch c z).2.2.1 x c e rfl
    by_cases hc : c ∈ X.fs
    · obtain ⟨sl, q⟩ := slot c o (I.cne x c e) hc nch ho (I.freeC x c e)
      exact ⟨_, q, hd⟩
    · exact ⟨o, keep c o (I.cne x c e) hc nch ho (I.freeC x c e), hd⟩
  refine ⟨I.ok, I.os, hg, ⟨fun b o e n hb hx => ?_, fun b o e n hb hx => ?_, fun b o e n hx => ?_, fun b o e hx => ?_, fun b xs e => tups b xs (I.base.tups b xs e), fun b o xs e => frzs b o xs (I.base.frzs b o xs e), fun b ps e => ?_⟩, ?_, fun x c e => ?_, ?_, fun x c e => ?_, fun p hp => ?_, hok, I.len⟩
  · exact keep b o (neL b o e) hb (neC b o e hx) (I.base.keep b o e n hb hx) (I.base.free b o e n hx)
  · obtain ⟨sl, e1⟩ := I.base.slot b o e n hb hx
    obtain ⟨sl', e2⟩ := slot b _ (neL b o e) hb (neC b o e hx) e1 (I.base.free b o e n hx)
    exact ⟨sl', e2⟩
  · obtain ⟨o', e1⟩ := I.base.there b o e hx
    exact free b o' (neC b o e hx) e1 (I.base.free b o e n hx)
  · obtain ⟨o', e1⟩ := I.base.there b o e hx
    exact there b o' (neC b o e hx) e1
  · obtain ⟨m1, e1⟩ := I.base.tbls b ps e
    obtain ⟨m2, e2⟩ := tbls b _ e1
    exact ⟨m1 ++ m2, by rw [e2, Array.append_assoc]⟩
  · obtain ⟨m, hn, hl⟩ := I.loc
    refine ⟨m, ns m hn, fun i x v e1 e2 e3 => ?_⟩
    obtain ⟨u, r, l⟩ := hl i x v e1 e2 e3
    refine ⟨u, r, ?_⟩
    rcases l with l | ⟨k, c, e, z⟩
    · exact .inl l
    · exact .inr ⟨k, c, e, cellK x c e _ z⟩
  · obtain ⟨v, z⟩ := I.cell x c e
    exact ⟨v, cellK x c e v z⟩
  · obtain ⟨m, ⟨o, _, _, ho, _⟩, _⟩ := I.loc
    exact free _ o (fun z => (hch _ z).2.1 rfl) ho I.free
  · obtain ⟨v, o, ho, hd⟩ := I.cell x c e
    exact free c o (fun z => (hch c z).2.2.1 x c e rfl) ho (I.freeC x c e)
  · obtain ⟨e, n, ne, nf, d⟩ := I.pin p hp
    have nch : p.1 ∉ ch := fun z => (hch p.1 z).2.2.2 p hp rfl
    exact ⟨keep p.1 p.2 ne nf nch e n, free p.1 p.2 nch e n, ne, nf, d⟩
theorem Inv.un {t' : Nat} (I : Inv X pins σ H s) (u : Un X.fs [] H H' s.heap h') (hok : HOk X.prog X.w H' h') : Inv X pins σ H' { s with heap := h', toks := t' } := by
  obtain ⟨m, ⟨o, es, ep, ho, r⟩, _⟩ := id I.loc
  obtain ⟨sl, hL⟩ := u.any ho I.free (by simp)
  exact I.step (g' := s.gens) (d' := s.drawn) (ch := []) (fun _ z => nomatch z) (fun b o _ hb _ e n => u.keep b o e n hb (by simp)) (fun b o _ hb _ e n => u.slot b o e n hb (by simp)) (fun b o _ e n => u.free b o e n (by simp)) (fun b o _ e => u.there b o e (by simp)) u.tups u.frzs u.tbls (fun m' hm => by
    obtain ⟨o', es', ep', ho', r'⟩ := hm
    rw [ho] at ho'; cases ho'
    exact ⟨_, es', ep', hL, r'⟩) hok I.bare
theorem Inv.call {g' : Array GenState} {t' : Nat} {d' : Drawn} {ch : List Addr} (I : Inv X pins σ H s) (u : Un (frs X.stack) ch H H' s.heap h') (hok : HOk X.prog X.w H' h') (hg : AllBare g')
    (hch : ∀ b ∈ ch, (b ∈ X.ex ∨ X.s₀.heap.objs.size ≤ b) ∧ b ≠ X.env.locals ∧ (∀ x c, X.env.cells.lookup x = some c → c ≠ b) ∧ ∀ p ∈ X.pn ++ pins, p.1 ≠ b) :
    Inv X pins σ H' { s with heap := h', gens := g', drawn := d', toks := t' } := by
  obtain ⟨m, ⟨o, es, ep, ho, r⟩, _⟩ := id I.loc
  obtain ⟨sl, hL⟩ := u.any ho I.free fun z => (hch _ z).2.1 rfl
  exact I.step (ch := ch) hch (fun b o hL hb hc e n => u.keep b o e n (fun z => (List.mem_cons.mp (I.stkSub b z)).elim hL hb) hc) (fun b o _ _ hc e n => u.any e n hc) (fun b o hc e n => u.free b o e n hc) (fun b o hc e => u.there b o e hc) u.tups u.frzs u.tbls (fun m' hm => by
    obtain ⟨o', es', ep', ho', r'⟩ := hm
    rw [ho] at ho'; cases ho'
    exact ⟨_, es', ep', hL, r'⟩) hok hg
theorem Inv.turned {t' : Nat} {it : Addr} (I : Inv X pins σ H s) (k : ∀ b o, b ≠ it → s.heap.get? b = some o → h'.get? b = some o) (hn : H it = none) (hL : it ≠ X.env.locals)
    (h1 : it ∈ X.ex ∨ X.s₀.heap.objs.size ≤ it) (h2 : ∀ x c, X.env.cells.lookup x = some c → c ≠ it) (h3 : ∀ p ∈ X.pn ++ pins, p.1 ≠ it) : Inv X pins σ H { s with heap := h', toks := t' } := by
  have nit : ∀ b u, H b = some u → b ≠ it := fun b u e z => by rw [z, hn] at e; cases e
  refine I.step (g' := s.gens) (d' := s.drawn) (ch := [it]) (fun b hb => ?_) (fun b o _ _ hc e _ => k b o (fun z => hc (by simp [z])) e) (fun b o _ _ hc e _ => ⟨o.slots, k b o (fun z => hc (by simp [z])) e⟩) (fun _ _ _ _ n => n)
    (fun b o hc e => ⟨o, k b o (fun z => hc (by simp [z])) e⟩) (fun _ _ e => e) (fun _ _ _ e => e) (fun b ps e => ⟨#[], by rw [e]; simp⟩) (fun m hm => ?_) (fun b u e => ?_) I.bare
  · have e : b = it := by simpa using hb
    subst e
    exact ⟨h1, hL, h2, h3⟩
  · obtain ⟨o, es, ep, ho, r⟩ := hm
    exact ⟨o, es, ep, k _ o (Ne.symm hL) ho, r⟩
  · refine (I.hok b u e).stay (fun c v hc q => k c v ?_ q) (fun _ q => q) fun _ _ q => q
    rcases hc with z | z
    · rw [z]; exact nit b u e
    · exact nit c _ z
theorem Inv.tok (I : Inv X pins σ H s) (t : Nat) : Inv X pins σ H { s with toks := t } := I.un (h' := s.heap) (t' := t) Un.refl I.hok
theorem Inv.kept {t' : Nat} (I : Inv X pins σ H s) (k : ∀ b u, s.heap.get? b = some u → h'.get? b = some u) : Inv X pins σ H { s with heap := h', toks := t' } := I.un (Un.kept k) (I.hok.kept k)
theorem Inv.laid {a : Addr} {o : HO} {t' : Nat} (I : Inv X pins σ H s) (k : ∀ b u, s.heap.get? b = some u → h'.get? b = some u) (hp : s.heap.objs.size ≤ a) (new : ObjOk X.prog X.w (upd H a o) h' a o) :
    Inv X pins σ (upd H a o) { s with heap := h', toks := t' } := I.un (Un.laid k hp (I.hok.fresh hp)) (I.hok.laid k hp new)
theorem Inv.write {x e : Addr} {o : HO} {t' : Nat} (I : Inv X pins σ H s) (mu : Mut (H x)) (he : e = x ∨ H e = some (.own x)) (k : ∀ b u, b ≠ e → s.heap.get? b = some u → h'.get? b = some u) (heo : ∃ u, h'.get? e = some u)
    (new : ObjOk X.prog X.w (upd H x o) h' x o) : Inv X pins σ (upd H x o) { s with heap := h', toks := t' } := I.un (Un.write mu he k heo) (I.hok.write mu he k heo new)
theorem Inv.pins_of {pins' : List (Addr × Obj)} (I : Inv X pins σ H s) (h : ∀ p ∈ pins', s.heap.get? p.1 = some p.2 ∧ H p.1 = none ∧ p.1 ≠ X.env.locals ∧ p.1 ∉ X.fs ∧ ∀ v, p.2.data ≠ .cell v) : Inv X pins' σ H s :=
  ⟨I.ok, I.os, I.bare, I.base, I.loc, I.cell, I.free, I.freeC, fun p hp => (List.mem_append.mp hp).elim (fun z => I.pin p (List.mem_append_left _ z)) (h p), I.hok, I.len⟩

theorem nodup_ix {N : List Str} (hN : N.Nodup) {i j : Nat} {x : Str} (a : N[i]? = some x) (b : N[j]? = some x) : i = j := by
  obtain ⟨h1, e1⟩ := List.getElem?_eq_some_iff.mp a
  obtain ⟨h2, e2⟩ := List.getElem?_eq_some_iff.mp b
  exact (List.getElem_inj hN).mp (e1.trans e2.symm)

theorem store_ok2 {M : Model} {A : Around} {E : Value → Shared → Prop} {i : Nat} {x : Str} {v : V} {u : Value} {Q : Unit → Shared → Prop} (I : Inv X pins σ H s) (hN : X.N.Nodup) (hi : X.N[i]? = some x) (hx : Loc X.env.scope x) (r : RelV v u)
    (h : ∀ s', Inv X pins (σ.set i (some v)) H s' → (∃ a, Heap.SameBut a s.heap s'.heap ∧ (a = X.env.locals ∨ X.env.cells.lookup x = some a)) → Q () s') (hf : X.fn x = true ∨ X.env.scope.names.lookup x = some .local := by first | exact .inl rfl | exact .inr rfl | assumption) : wpAny M A (storeName X.env x u) Q E s := by
  obtain ⟨m, hn, hl⟩ := id I.loc
  have hcls : (X.env.scope.kind == .class || (X.env.scope.kind == .module && X.env.locals != X.env.globals)) = false := by rw [I.ok.kind]; rfl
  have hiσ : i < σ.length := by rw [I.len]; exact (List.getElem?_eq_some_iff.mp hi).1
  have cne := I.cne
  have tracked : ∀ {a : Addr} {h' : Heap}, (∃ o, s.heap.get? a = some o ∧ H a = none) → Heap.SameBut a s.heap h' → HOk X.prog X.w H h' := fun {a h'} ha hs b ob e => by
    obtain ⟨_, _, hfree⟩ := ha
    refine (I.hok b ob e).stay (fun c w' hc q => (hs.2 c ?_).trans q) (fun _ q => q) fun _ _ q => q
    rintro rfl
    rcases hc with rfl | hc
    · rw [hfree] at e; cases e
    · rw [hfree] at hc; cases hc
  rcases hx with hk | hk
  · refine wpAny_storeName_local hk hn (fun h' hn' hs => ?_) hcls
    obtain ⟨oL, _, _, hoL, _⟩ := id hn
    refine h _ ⟨I.ok, I.os, I.bare, ⟨fun b o e n hb hx => ?_, fun b o e n hb hx => ?_, I.base.free, fun b o e hx => ?_, I.base.tups, I.base.frzs, I.base.tbls⟩, ⟨_, hn', fun j y v' e1 e2 e3 => ?_⟩, fun y c e => ?_, I.free, I.freeC, fun p hp => ?_, tracked ⟨oL, hoL, I.free⟩ hs, by simpa using I.len⟩ ⟨_, hs, .inl rfl⟩
    · exact (hs.2 b (Nat.ne_of_lt (Nat.lt_of_lt_of_le (Heap.lt_size e) I.ok.above))).trans (I.base.keep b o e n hb hx)
    · obtain ⟨sl, e1⟩ := I.base.slot b o e n hb hx
      exact ⟨sl, (hs.2 b (Nat.ne_of_lt (Nat.lt_of_lt_of_le (Heap.lt_size e) I.ok.above))).trans e1⟩
    · obtain ⟨o', e1⟩ := I.base.there b o e hx
      exact ⟨o', (hs.2 b (Nat.ne_of_lt (Nat.lt_of_lt_of_le (Heap.lt_size e) I.ok.above))).trans e1⟩
    · by_cases hj : j = i
      · subst hj
        rw [hi] at e1; cases e1
        rw [List.getElem?_set_self hiσ] at e2
        cases e2
        exact ⟨u, r, .inl ⟨hk, by simp⟩⟩
      · rw [List.getElem?_set_ne (Ne.symm hj)] at e2
        obtain ⟨u', r', q⟩ := hl j y v' e1 e2 e3
        refine ⟨u', r', ?_⟩
        rcases q with ⟨k, e⟩ | ⟨k, c, e, z⟩
        · refine .inl ⟨k, ?_⟩
          have : y ≠ x := fun e => hj (nodup_ix hN e1 (e ▸ hi))
          simp [this, e]
        · exact .inr ⟨k, c, e, z.sameBut hs (cne y c e)⟩
    · obtain ⟨w', z⟩ := I.cell y c e
      exact ⟨w', z.sameBut hs (cne y c e)⟩
    · obtain ⟨e, n, ne, nf, d⟩ := I.pin p hp
      exact ⟨(hs.2 p.1 ne).trans e, n, ne, nf, d⟩
  · have hfn : X.fn x = true := by
      rcases hf with z | z
      · exact z
      · rw [z] at hk; cases hk
    obtain ⟨c, hc⟩ := I.ok.has x (.inl hk)
    obtain ⟨w', z⟩ := I.cell x c hc
    refine wpAny_storeName_cell I.ok.kind hk hc z (fun h' hc' hs => ?_)
    obtain ⟨oc, hoc, hocd⟩ := id z
    refine h { s with heap := h' } ⟨I.ok, I.os, I.bare, ⟨fun b o e n hb hx => ?_, fun b o e n hb hx => ?_, I.base.free, fun b o e hx => ?_, I.base.tups, I.base.frzs, I.base.tbls⟩, ⟨m, hn.sameBut hs (Ne.symm (cne x c hc)), fun j y v' e1 e2 e3 => ?_⟩, fun y c' e => ?_, I.free, I.freeC, fun p hp => ?_, tracked ⟨oc, hoc, I.freeC x c hc⟩ hs, by simpa using I.len⟩ ⟨c, hs, .inr hc⟩
    · exact (hs.2 b (Nat.ne_of_lt (Nat.lt_of_lt_of_le (Heap.lt_size e) (I.ok.cab x c hfn hc)))).trans (I.base.keep b o e n hb hx)
    · obtain ⟨sl, e1⟩ := I.base.slot b o e n hb hx
      exact ⟨sl, (hs.2 b (Nat.ne_of_lt (Nat.lt_of_lt_of_le (Heap.lt_size e) (I.ok.cab x c hfn hc)))).trans e1⟩
    · obtain ⟨o', e1⟩ := I.base.there b o e hx
      exact ⟨o', (hs.2 b (Nat.ne_of_lt (Nat.lt_of_lt_of_le (Heap.lt_size e) (I.ok.cab x c hfn hc)))).trans e1⟩
    · by_cases hj : j = i
      · subst hj
        rw [hi] at e1; cases e1
        rw [List.getElem?_set_self hiσ] at e2
        cases e2
        exact ⟨u, r, .inr ⟨.inl hk, c, hc, hc'⟩⟩
      · rw [List.getElem?_set_ne (Ne.symm hj)] at e2
        obtain ⟨u', r', q⟩ := hl j y v' e1 e2 e3
        refine ⟨u', r', ?_⟩
        rcases q with q | ⟨k, c', e, z'⟩
        · exact .inl q
        · refine .inr ⟨k, c', e, z'.sameBut hs ?_⟩
          rintro rfl
          exact hj (nodup_ix hN e1 (I.ok.inj _ _ _ e hc ▸ hi))
    · by_cases hcc : c' = c
      · subst hcc; exact ⟨_, hc'⟩
      · obtain ⟨w2, z2⟩ := I.cell y c' e
        exact ⟨w2, z2.sameBut hs hcc⟩
    · obtain ⟨e, n, ne, nf, d⟩ := I.pin p hp
      refine ⟨(hs.2 p.1 ?_).trans e, n, ne, nf, d⟩
      intro q
      rw [q, hoc] at e
      have q' : oc = p.2 := Option.some.inj e
      exact d w' (by rw [← q']; exact hocd)
theorem store_ok {M : Model} {A : Around} {E : Value → Shared → Prop} {i : Nat} {x : Str} {v : V} {u : Value} {Q : Unit → Shared → Prop} (I : Inv X pins σ H s) (hN : X.N.Nodup) (hi : X.N[i]? = some x) (hx : Loc X.env.scope x) (r : RelV v u)
    (h : ∀ s', Inv X pins (σ.set i (some v)) H s' → Q () s') (hf : X.fn x = true ∨ X.env.scope.names.lookup x = some .local := by first | exact .inl rfl | exact .inr rfl | assumption) : wpAny M A (storeName X.env x u) Q E s :=
  store_ok2 I hN hi hx r (fun s' I' _ => h s' I') hf
theorem Inv.call' {s' : Shared} {ch : List Addr} (I : Inv X pins σ H s) (ho : s'.os = s.os) (u : Un (frs X.stack) ch H H' s.heap s'.heap) (hok : HOk X.prog X.w H' s'.heap) (hg : AllBare s'.gens)
    (hch : ∀ b ∈ ch, (b ∈ X.ex ∨ X.s₀.heap.objs.size ≤ b) ∧ b ≠ X.env.locals ∧ (∀ x c, X.env.cells.lookup x = some c → c ≠ b) ∧ ∀ p ∈ X.pn ++ pins, p.1 ≠ b) : Inv X pins σ H' s' := by
  obtain ⟨h', g', d', t', o'⟩ := s'
  have e : o' = s.os := ho
  subst e
  exact I.call (g' := g') (t' := t') (d' := d') u hok hg hch
end

noncomputable abbrev XK := Value → Option Addr → Hp → Prop
noncomputable abbrev St := List (Option V)
noncomputable abbrev VK := V → Hp → Prop
noncomputable abbrev TE := St → Hp → VK → Prop
noncomputable abbrev TT := St → Hp → (Bool → Hp → Prop) → Prop
noncomputable abbrev TA := St → Hp → (List V → Hp → Prop) → Prop
set_option genInjectivity false in
structure Ends where
  nx : St → Hp → Prop
  rt : VK
  bk : St → Hp → Prop := fun _ _ => False
  ct : St → Hp → Prop := fun _ _ => False
noncomputable abbrev TS := Ends → St → Hp → Prop

noncomputable def EP (X : Cx) (pins : List (Addr × Obj)) (σ : St) (Q : VK) (u : Value) (s' : Shared) : Prop := ∃ v H', Inv X pins σ H' s' ∧ RelV v u ∧ Q v H'
noncomputable def TP (X : Cx) (pins : List (Addr × Obj)) (σ : St) (Q : Bool → Hp → Prop) (b : Bool) (s' : Shared) : Prop := ∃ H', Inv X pins σ H' s' ∧ Q b H'
noncomputable def AP (X : Cx) (pins : List (Addr × Obj)) (σ : St) (Q : List V → Hp → Prop) (us : List Value) (s' : Shared) : Prop := ∃ vs H', Inv X pins σ H' s' ∧ Vals vs us ∧ Q vs H'
noncomputable def SP (X : Cx) (pins : List (Addr × Obj)) (D : Ends) (f : Flow) (s' : Shared) : Prop :=
  match f with
  | .next => ∃ σ' H', Inv X pins σ' H' s' ∧ D.nx σ' H'
  | .brk => ∃ σ' H', Inv X pins σ' H' s' ∧ D.bk σ' H'
  | .cont => ∃ σ' H', Inv X pins σ' H' s' ∧ D.ct σ' H'
  | .ret u => ∃ v σ' H', Inv X pins σ' H' s' ∧ RelV v u ∧ D.rt v H'

noncomputable def PE (X : Cx) (e : Expr) (t : TE) : Prop :=
  ∀ (pins : List (Addr × Obj)) (s : Shared) (σ : St) (H : Hp) (Q : VK), Inv X pins σ H s → t σ H Q → wpAny (model X.prog X.w) X.A (eval e X.env) (EP X pins σ Q) X.xe s
noncomputable def PT (X : Cx) (e : Expr) (t : TT) : Prop :=
  ∀ (pins : List (Addr × Obj)) (s : Shared) (σ : St) (H : Hp) (Q : Bool → Hp → Prop), Inv X pins σ H s → t σ H Q → wpAny (model X.prog X.w) X.A (isTrue e X.env (eval e X.env)) (TP X pins σ Q) X.xe s
noncomputable def PW (X : Cx) (e : Expr) (t : TT) : Prop :=
  ∀ (whole : Sem Value) (pins : List (Addr × Obj)) (s : Shared) (σ : St) (H : Hp) (Q : Bool → Hp → Prop), Inv X pins σ H s → t σ H Q → wpAny (model X.prog X.w) X.A (isTrue e X.env whole) (TP X pins σ Q) X.xe s
theorem PW.pt {X : Cx} {e : Expr} {t : TT} (h : PW X e t) : PT X e t := h _
noncomputable def PA (X : Cx) (es : List Expr) (t : TA) : Prop :=
  ∀ (pos : Pos) (pins : List (Addr × Obj)) (s : Shared) (σ : St) (H : Hp) (Q : List V → Hp → Prop), Inv X pins σ H s → t σ H Q → wpAny (model X.prog X.w) X.A (spliced (backTo pos (starEach es X.env))) (AP X pins σ Q) X.xe s
noncomputable def PS (X : Cx) (st : Stmt) (t : TS) : Prop :=
  ∀ (pins : List (Addr × Obj)) (s : Shared) (σ : St) (H : Hp) (D : Ends), Inv X pins σ H s → t D σ H → wpAny (model X.prog X.w) X.A (exec st X.env) (SP X pins D) X.xe s
noncomputable def PSs (X : Cx) (st : List Stmt) (t : TS) : Prop :=
  ∀ (pins : List (Addr × Obj)) (s : Shared) (σ : St) (H : Hp) (D : Ends), Inv X pins σ H s → t D σ H → wpAny (model X.prog X.w) X.A (execs st X.env) (SP X pins D) X.xe s
theorem thn {α : Type} {t : Sem α} {Q Q' : α → Shared → Prop} {M : Model} {A : Around} {E : Value → Shared → Prop} {s : Shared} (h : wpAny M A t Q E s) (hQ : ∀ a s, Q a s → Q' a s) : wpAny M A t Q' E s := wpAny_mono h hQ fun _ _ x => x
end L2

namespace L2
open PySem PySem.Spec PyProof.Rows
section
variable {X : Cx}

noncomputable def tVar (i : Nat) : TE := fun σ H Q => ∃ v, σ[i]? = some (some v) ∧ Q v H
noncomputable def tC (v : V) : TE := fun _ H Q => Q v H
theorem pe_var {i : Nat} {x : Str} {pos : Pos} (hN : X.N[i]? = some x) (hv : Vis X.env.scope x) (hd : (x == ("__debug__" : Str)) = false := by decide) (hcd : (x == ("__classdict__" : Str)) = false := by decide) : PE X (.Name x pos) (tVar i) := by
  intro pins s σ H Q I h
  obtain ⟨v, e, h⟩ := h
  obtain ⟨m, hn, hl⟩ := I.loc
  obtain ⟨u, r, l⟩ := hl i x v hN e hv
  have fin : EP X pins σ Q u s := ⟨v, H, I, r, h⟩
  rcases l with ⟨hk, hm⟩ | ⟨hk, c, hc, hcell⟩
  · exact wpAny_Name (wpAny_loadName_local I.ok.kind hk hn hm fin) hd
  · rcases hk with hk | hk
    · exact wpAny_Name (wpAny_loadName_cell I.ok.kind hk hc hcell fin) hd
    · exact wpAny_Name (wpAny_loadName_free I.ok.kind hk hc hcell fin hcd) hd
theorem pe_int {i j pos} : PE X (.Constant (.int i) j pos) (tC (.int i)) := fun _ _ _ H _ I h => wpAny_Constant_int ⟨.int i, H, I.tok _, ⟨_, rfl⟩, h⟩
theorem pe_bl {b j pos} : PE X (.Constant (.bool b) j pos) (tC (.bl b)) := fun _ _ _ H _ I h => Constant_bool ⟨.bl b, H, I, rfl, h⟩
theorem pe_non {j pos} : PE X (.Constant .none j pos) (tC .non) := fun _ _ _ H _ I h => Constant_none ⟨.non, H, I, rfl, h⟩
theorem pe_str {x j pos} : PE X (.Constant (.str x) j pos) (tC (.str x)) := fun _ _ _ H _ I h => Calls.Constant_str ⟨.str x, H, I.tok _, ⟨_, rfl⟩, h⟩

noncomputable def Gl (X : Cx) (x : Str) : Prop := X.env.kindOf x = some .globalImplicit
theorem ld_glob {E : Value → Shared → Prop} {pins : List (Addr × Obj)} {s : Shared} {σ : St} {H : Hp} {x : Str} {u : Value} {pos : Pos} {Q : Value → Shared → Prop} (I : Inv X pins σ H s) (hg : Gl X x) (hm : X.mg x = some u) (h : Q u s)
    (hd : (x == ("__debug__" : Str)) = false := by decide) : wpAny (model X.prog X.w) X.A (eval (.Name x pos) X.env) Q E s :=
  Calls.Name_function_global I.ok.kind hg (Calls.loadGlobal_global (by rw [I.ok.glob]; exact I.mod.glob.keeps I.bk) hm h) hd
theorem ld_blt {E : Value → Shared → Prop} {pins : List (Addr × Obj)} {s : Shared} {σ : St} {H : Hp} {x : Str} {u : Value} {pos : Pos} {Q : Value → Shared → Prop} (I : Inv X pins σ H s) (hg : Gl X x) (hm : X.mg x = none) (hv : bootBuiltins x = some u) (h : Q u s)
    (hn : x ≠ "__name__" := by decide) (hd : (x == ("__debug__" : Str)) = false := by decide) : wpAny (model X.prog X.w) X.A (eval (.Name x pos) X.env) Q E s := by
  obtain ⟨mb, h1, h2⟩ := I.mod.blt
  exact Calls.Name_function_global I.ok.kind hg (Calls.loadGlobal_builtin (by rw [I.ok.glob]; exact I.mod.glob.keeps I.bk) hm (by rw [I.ok.blt]; exact h1.keeps I.bk) ((h2 x hn).trans hv) h) hd
theorem pe_glob {x : Str} {v : V} {u : Value} {pos : Pos} (hg : Gl X x) (hm : X.mg x = some u) (r : RelV v u) (hd : (x == ("__debug__" : Str)) = false := by decide) : PE X (.Name x pos) (tC v) :=
  fun _ _ _ H _ I h => ld_glob I hg hm ⟨v, H, I, r, h⟩ hd
theorem pe_bltn {x : Str} {v : V} {u : Value} {pos : Pos} (hg : Gl X x) (hm : X.mg x = none) (hv : bootBuiltins x = some u) (r : RelV v u) (hn : x ≠ "__name__" := by decide) (hd : (x == ("__debug__" : Str)) = false := by decide) : PE X (.Name x pos) (tC v) :=
  fun _ _ _ H _ I h => ld_blt I hg hm hv ⟨v, H, I, r, h⟩ hn hd

variable {a b : Expr} {ta tb : TE} {pos : Pos}
noncomputable def PC (X : Cx) (op : CmpOp) (a b : Expr) (t : TE) : Prop :=
  ∀ (pins : List (Addr × Obj)) (s : Shared) (σ : St) (H : Hp) (Q : VK), Inv X pins σ H s → t σ H Q →
    wpAny (model X.prog X.w) X.A (eval a X.env) (fun v s₁ => wpAny (model X.prog X.w) X.A (eval b X.env) (fun u s₂ => wpAny (model X.prog X.w) X.A (compareOp op v u) (EP X pins σ Q) X.xe s₂) X.xe s₁) X.xe s
theorem nobehind (b : Expr) {op : CmpOp} (h : op ≠ .In) (h2 : op ≠ .NotIn) : behindInMarks op b = false := by
  have e1 : (op == CmpOp.In) = false := by cases op <;> first | rfl | exact absurd rfl h
  have e2 : (op == CmpOp.NotIn) = false := by cases op <;> first | rfl | exact absurd rfl h2
  cases b <;> simp [behindInMarks, e1, e2]
noncomputable def tIsN (ta : TE) : TE := fun σ H Q => ta σ H fun x H1 => Q (.bl (decide (x = .non))) H1
theorem RelV.none_iff {x : V} {v : Value} (r : RelV x v) : (v == Value.none) = decide (x = .non) := by
  cases x with
  | non => cases r; rfl
  | bl _ => cases r; rfl
  | int _ => obtain ⟨t, rfl⟩ := r; rfl
  | str _ => obtain ⟨t, rfl⟩ := r; rfl
  | byt _ => obtain ⟨t, rfl⟩ := r; rfl
  | flt _ => obtain ⟨t, rfl⟩ := r; rfl
  | ref _ => cases r; rfl
  | ty _ => cases r; rfl
theorem pc_isN {j pos'} (ha : PE X a ta) : PC X .Is a (.Constant .none j pos') (tIsN ta) := by
  intro pins s σ H Q I h
  refine thn (ha pins s σ H _ I h) fun v s1 ⟨x, H1, I1, r1, q1⟩ => ?_
  exact Constant_none (is_none_gen ⟨.bl _, H1, I1, by rw [r1.none_iff]; rfl, q1⟩)
noncomputable def tB (t : TE) : TT := fun σ H Q => t σ H fun x H1 => ∃ c, x = .bl c ∧ Q c H1
theorem pt_cmp {op : CmpOp} {t : TE} (h : PC X op a b t) (h1 : behindInMarks op b = false := by first | exact nobehind _ (by decide) (by decide) | rfl) : PT X (.Compare a [op] [b] pos) (tB t) := by
  intro pins s σ H Q I hw
  refine wpAny_isTrue_Compare1 (thn (h pins s σ H _ I hw) fun v s1 h1 => thn h1 fun u s2 h2 => thn h2 fun c s3 ⟨x, H1, I1, r1, q1⟩ => ?_) h1
  obtain ⟨d, rfl, q⟩ := q1
  cases r1
  exact wpAny_truthy_bool ⟨H1, I1, q⟩
theorem pt_val {e : Expr} {t : TE} (h : PE X e t) (he : ∀ whole, isTrue e X.env whole = (do let v ← whole; standAt e.pos; holding [v] (truthy v)) := by intro _; rfl) : PT X e (tB t) := by
  intro pins s σ H Q I hw
  refine isTrue_plain (thn (h pins s σ H _ I hw) fun v s1 ⟨x, H1, I1, r1, q1⟩ => ?_) (he _)
  obtain ⟨d, rfl, q⟩ := q1
  cases r1
  exact wpAny_truthy_bool ⟨H1, I1, q⟩

variable {tA tB' : TT} {rest : List Expr}
noncomputable def tAnd (t u : TT) : TT := fun σ H Q => t σ H fun c H1 => if c = true then u σ H1 Q else Q false H1
noncomputable def tOr (t u : TT) : TT := fun σ H Q => t σ H fun c H1 => if c = true then Q true H1 else u σ H1 Q
noncomputable def tNot (t : TT) : TT := fun σ H Q => t σ H fun c H1 => Q (!c) H1
theorem pw_and1 (ha : PT X a tA) : PW X (.BoolOp .And [a] pos) tA := by
  intro wh pins s σ H Q I h
  refine isTrue_and (thn (ha pins s σ H Q I h) fun c s1 e => ?_)
  cases c with
  | true => exact isTrue_and_nil e
  | false => exact e
theorem pw_or1 (ha : PT X a tA) : PW X (.BoolOp .Or [a] pos) tA := by
  intro wh pins s σ H Q I h
  refine isTrue_or (thn (ha pins s σ H Q I h) fun c s1 e => ?_)
  cases c with
  | false => exact isTrue_or_nil e
  | true => exact e
theorem pw_and (ha : PT X a tA) (hb : PW X (.BoolOp .And (b :: rest) pos) tB') : PW X (.BoolOp .And (a :: b :: rest) pos) (tAnd tA tB') := by
  intro wh pins s σ H Q I h
  refine isTrue_and (thn (ha pins s σ H _ I h) fun c s1 ⟨H1, I1, q1⟩ => ?_)
  cases c with
  | true => exact hb wh pins s1 σ H1 Q I1 q1
  | false => exact ⟨H1, I1, q1⟩
theorem pw_or (ha : PT X a tA) (hb : PW X (.BoolOp .Or (b :: rest) pos) tB') : PW X (.BoolOp .Or (a :: b :: rest) pos) (tOr tA tB') := by
  intro wh pins s σ H Q I h
  refine isTrue_or (thn (ha pins s σ H _ I h) fun c s1 ⟨H1, I1, q1⟩ => ?_)
  cases c with
  | true => exact ⟨H1, I1, q1⟩
  | false => exact hb wh pins s1 σ H1 Q I1 q1
theorem pt_not (ha : PT X a tA) : PT X (.UnaryOp .Not a pos) (tNot tA) := by
  intro pins s σ H Q I h
  exact isTrue_not (ha pins s σ H (fun c H1 => Q (!c) H1) I h)
noncomputable def tAndV (ta tb : TE) : TE := fun σ H Q => ta σ H fun x H1 => ∃ c, x = .bl c ∧ if c = true then tb σ H1 Q else Q (.bl false) H1
theorem pe_one {op} {t : TE} (h : PE X a t) : PE X (.BoolOp op [a] pos) t := fun pins s σ H Q I hw => BoolOp_one (h pins s σ H Q I hw)
theorem pe_and (ha : PE X a ta) (hb : PE X (.BoolOp .And (b :: rest) pos) tb) : PE X (.BoolOp .And (a :: b :: rest) pos) (tAndV ta tb) := by
  intro pins s σ H Q I h
  refine BoolOp_and (thn (ha pins s σ H _ I h) fun v s1 ⟨x, H1, I1, r1, q1⟩ => ?_)
  obtain ⟨c, rfl, q1⟩ := q1
  cases r1
  refine wpAny_truthy_bool ?_
  cases c with
  | true => exact hb pins s1 σ H1 Q I1 q1
  | false => exact ⟨.bl false, H1, I1, rfl, q1⟩
noncomputable def tIf (t : TT) (ta tb : TE) : TE := fun σ H Q => t σ H fun c H1 => if c = true then ta σ H1 Q else tb σ H1 Q
theorem pe_ifExp {c : Expr} (hc : PT X c tA) (ha : PE X a ta) (hb : PE X b tb) : PE X (.IfExp c a b pos) (tIf tA ta tb) := by
  intro pins s σ H Q I h
  refine wpAny_IfExp (thn (hc pins s σ H _ I h) fun d s1 ⟨H1, I1, q1⟩ => ?_)
  cases d with
  | true => exact ha pins s1 σ H1 Q I1 q1
  | false => exact hb pins s1 σ H1 Q I1 q1
end
end L2

namespace L2
open PySem PySem.Spec PyProof.Rows

noncomputable def SqL (K : PySem.W.Frag) (H : Hp) (a : Addr) (xs : List V) : Prop :=
  Rd H a (.lst xs) ∨
    ∃ (o : Obj) (its : Array Value) (n : Nat), K.lookup a = some o ∧ o.cls = .type "list" ∧ o.dict = none ∧ o.data = .seq its n ∧ its.size ≤ sizeLine ∧ Vals xs its.toList
noncomputable def SqT (K : PySem.W.Frag) (H : Hp) (a : Addr) (xs : List V) : Prop :=
  Rd H a (.tup xs) ∨
    ∃ (o : Obj) (its : Array Value) (n : Nat), K.lookup a = some o ∧ o.cls = .type "tuple" ∧ o.data = .seq its n ∧ its.size ≤ sizeLine ∧ Vals xs its.toList
noncomputable def absV : Value → Option V
  | .none => some .non
  | .bool b => some (.bl b)
  | .int i _ => some (.int i)
  | .str x _ => some (.str x)
  | .bytes b _ => some (.byt b)
  | .float b _ => some (.flt b)
  | .ref a => some (.ref a)
  | .type n => some (.ty n)
  | _ => none
theorem RelV.abs {x : V} {u : Value} (r : RelV x u) : absV u = some x := by
  cases x with
  | non => cases r; rfl
  | bl _ => cases r; rfl
  | int _ => obtain ⟨t, rfl⟩ := r; rfl
  | str _ => obtain ⟨t, rfl⟩ := r; rfl
  | byt _ => obtain ⟨t, rfl⟩ := r; rfl
  | flt _ => obtain ⟨t, rfl⟩ := r; rfl
  | ref _ => cases r; rfl
  | ty _ => cases r; rfl
theorem RelV.inj {x y : V} {u : Value} (r : RelV x u) (q : RelV y u) : x = y := Option.some.inj (r.abs.symm.trans q.abs)
theorem Vals.inj : ∀ {xs ys : List V} {us : List Value}, Vals xs us → Vals ys us → xs = ys
  | _, _, _, .nil, .nil => rfl
  | _, _, _, .cons r t, .cons r' t' => by rw [r.inj r', Vals.inj t t']
section
variable {X : Cx} {pins : List (Addr × Obj)} {σ : St} {H : Hp} {s : Shared} {a : Addr} {xs ys : List V}
theorem SqL.of {K : PySem.W.Frag} (h : H a = some (.lst xs)) : SqL K H a xs := .inl (.inl h)
theorem SqT.of {K : PySem.W.Frag} (h : H a = some (.tup xs)) : SqT K H a xs := .inl (.inl h)
theorem Inv.list (I : Inv X pins σ H s) (h : SqL X.K H a xs) : ∃ its : List Value, Vals xs its ∧ PlainL s.heap a its.toArray ∧ xs.length ≤ sizeLine := by
  rcases h with h | ⟨o, its, n, hk, hc, hd, hs, hz, r⟩
  · obtain ⟨z, its, n, r, e⟩ := h.ok I.hok
    exact ⟨its, r, ⟨_, n, e, rfl, rfl, rfl⟩, z⟩
  · refine ⟨its.toList, r, ⟨o, n, I.kIn a o hk, hc, hd, by simpa using hs⟩, ?_⟩
    have e := r.length
    simp only [Array.length_toList] at e
    (first | lia | omega)
theorem Inv.tuple (I : Inv X pins σ H s) (h : SqT X.K H a xs) : ∃ its : List Value, Vals xs its ∧ IsTup s.heap a its.toArray ∧ xs.length ≤ sizeLine := by
  rcases h with h | ⟨o, its, n, hk, hc, hs, hz, r⟩
  · obtain ⟨z, its, r, p⟩ := h.ok I.hok
    exact ⟨its, r, p, z⟩
  · refine ⟨its.toList, r, ⟨o, I.kIn a o hk, hc, n, by simpa using hs⟩, ?_⟩
    have e := r.length
    simp only [Array.length_toList] at e
    (first | lia | omega)
theorem Inv.list_inj (I : Inv X pins σ H s) (h : SqL X.K H a xs) (h' : SqL X.K H a ys) : xs = ys := by
  obtain ⟨its, r, ⟨o, n, e, _, _, d⟩, _⟩ := I.list h
  obtain ⟨its', r', ⟨o', n', e', _, _, d'⟩, _⟩ := I.list h'
  rw [e] at e'; cases e'
  rw [d] at d'
  injection d' with d1 _
  have : its = its' := by simpa using congrArg Array.toList d1
  subst this
  exact r.inj r'
end

noncomputable abbrev Cx.wish (X : Cx) (E : Value → Shared → Prop) : Cx := { X with xe := E }
noncomputable abbrev Cx.nox (X : Cx) : Cx := X.wish fun _ _ => False
theorem Cx.Ok.wish {X : Cx} (ok : X.Ok) (E : Value → Shared → Prop) : (X.wish E).Ok :=
  ⟨ok.mod, ok.kind, ok.glob, ok.blt, ok.above, ok.inj, ok.has, ok.cab, ok.hd, ok.frames, ok.stk, ok.exf, ok.bs, ok.bsz, ok.noex, ok.exfs, ok.funs, ok.frf⟩
theorem Cx.Ok.unwish {X : Cx} {E : Value → Shared → Prop} (ok : (X.wish E).Ok) : X.Ok :=
  ⟨ok.mod, ok.kind, ok.glob, ok.blt, ok.above, ok.inj, ok.has, ok.cab, ok.hd, ok.frames, ok.stk, ok.exf, ok.bs, ok.bsz, ok.noex, ok.exfs, ok.funs, ok.frf⟩
section
variable {X : Cx} {pins : List (Addr × Obj)} {σ : St} {H : Hp} {s : Shared} {E : Value → Shared → Prop}
theorem Inv.wish (I : Inv X pins σ H s) (E : Value → Shared → Prop) : Inv (X.wish E) pins σ H s := ⟨I.ok.wish E, I.os, I.bare, I.base, I.loc, I.cell, I.free, I.freeC, I.pin, I.hok, I.len⟩
theorem Inv.unwish (I : Inv (X.wish E) pins σ H s) : Inv X pins σ H s := ⟨I.ok.unwish, I.os, I.bare, I.base, I.loc, I.cell, I.free, I.freeC, I.pin, I.hok, I.len⟩
theorem SP.unwish {D : Ends} {f : Flow} {s' : Shared} (h : SP (X.wish E) pins D f s') : SP X pins D f s' := by
  cases f with
  | next => obtain ⟨σ', H', I, q⟩ := h; exact ⟨σ', H', I.unwish, q⟩
  | brk => obtain ⟨σ', H', I, q⟩ := h; exact ⟨σ', H', I.unwish, q⟩
  | cont => obtain ⟨σ', H', I, q⟩ := h; exact ⟨σ', H', I.unwish, q⟩
  | ret u => obtain ⟨v, σ', H', I, r, q⟩ := h; exact ⟨v, σ', H', I.unwish, r, q⟩
theorem PSs.nox {st : List Stmt} {t : TS} (h : PSs X.nox st t) : PSs X st t := fun pins s σ H D I hw =>
  wpAny_mono (h pins s σ H D (I.wish _) hw) (fun _ _ q => q.unwish) fun _ _ z => False.elim z
end

section
variable {X : Cx} {st : Stmt} {rest : List Stmt} {t u : TS} {e : Expr} {te : TE} {pos : Pos}
noncomputable def tNext : TS := fun D σ H => D.nx σ H
noncomputable def tSeq (t u : TS) : TS := fun D σ H => t { D with nx := u D } σ H
theorem pss_nil : PSs X [] tNext := fun _ _ σ H _ I h => wpAny_execs_nil ⟨σ, H, I, h⟩
theorem pss_cons (h1 : PS X st t) (h2 : PSs X rest u) : PSs X (st :: rest) (tSeq t u) := by
  intro pins s σ H D I h
  refine wpAny_execs_cons (thn (h1 pins s σ H { D with nx := u D } I h) fun f s1 q => ?_)
  cases f with
  | next =>
    obtain ⟨σ', H', I', q⟩ := q
    exact h2 pins s1 σ' H' D I' q
  | ret v => exact q
  | brk => exact q
  | cont => exact q
theorem pss_one (h1 : PS X st t) : PSs X [st] t := by
  intro pins s σ H D I h
  refine wpAny_execs_cons (thn (h1 pins s σ H D I h) fun f s1 q => ?_)
  cases f with
  | next => exact wpAny_execs_nil q
  | ret v => exact q
  | brk => exact q
  | cont => exact q
theorem Inv.quiet {pins : List (Addr × Obj)} {σ : St} {H : Hp} {s : Shared} (I : Inv X pins σ H s) : interactive X.env = false := by simp [interactive, I.ok.kind]
noncomputable def tDrop (te : TE) : TS := fun D σ H => te σ H fun _ H1 => D.nx σ H1
theorem ps_expr (he : PE X e te) (hs : swapsWith e none pos.line X.env = pure false := by rfl) : PS X (.Expr e pos) (tDrop te) := by
  intro pins s σ H D I h
  exact wpAny_Expr_any (thn (he pins s σ H _ I h) fun v s1 ⟨x, H1, I1, r1, q1⟩ => ⟨σ, H1, I1, q1⟩) I.quiet hs
noncomputable def tRet (te : TE) : TS := fun D σ H => te σ H D.rt
theorem ps_ret (he : PE X e te) : PS X (.Return (some e) pos) (tRet te) := by
  intro pins s σ H D I h
  exact wpAny_Return_some (thn (he pins s σ H _ I h) fun v s1 ⟨x, H1, I1, r1, q1⟩ => ⟨x, σ, H1, I1, r1, q1⟩)
noncomputable def tIfS (c : TT) (t u : TS) : TS := fun D σ H => c σ H fun b H1 => if b = true then t D σ H1 else u D σ H1
theorem ps_if {c : Expr} {a b : List Stmt} {tc : TT} (hc : PT X c tc) (ha : PSs X a t) (hb : PSs X b u) : PS X (.If c a b pos) (tIfS tc t u) := by
  intro pins s σ H D I h
  refine wpAny_If (thn (hc pins s σ H _ I h) fun d s1 ⟨H1, I1, q1⟩ => ?_)
  cases d with
  | true => exact ha pins s1 σ H1 D I1 q1
  | false => exact hb pins s1 σ H1 D I1 q1
end

noncomputable abbrev TG := V → St → Hp → (St → Hp → Prop) → Prop
noncomputable abbrev TGs := List V → St → Hp → (St → Hp → Prop) → Prop
noncomputable def PG (X : Cx) (target : Expr) (t : TG) : Prop :=
  ∀ (pins : List (Addr × Obj)) (s : Shared) (σ : St) (H : Hp) (v : V) (u : Value) (Q : St → Hp → Prop), Inv X pins σ H s → RelV v u → t v σ H Q →
    wpAny (model X.prog X.w) X.A (assign target X.env u) (fun _ s' => ∃ σ' H', Inv X pins σ' H' s' ∧ Q σ' H') X.xe s
noncomputable def PGs (X : Cx) (ts : List Expr) (t : TGs) : Prop :=
  ∀ (pins : List (Addr × Obj)) (s : Shared) (σ : St) (H : Hp) (vs : List V) (us : List Value) (Q : St → Hp → Prop), Inv X pins σ H s → Vals vs us → t vs σ H Q →
    wpAny (model X.prog X.w) X.A (assignInOrder ((assignEach ts X.env).map (·.2)) us) (fun _ s' => ∃ σ' H', Inv X pins σ' H' s' ∧ Q σ' H') X.xe s
noncomputable abbrev TSet := V → V → V → Hp → (Hp → Prop) → Prop
noncomputable def PSet (X : Cx) (t : TSet) : Prop :=
  ∀ (pins : List (Addr × Obj)) (s : Shared) (σ : St) (H : Hp) (o i v : V) (ov iv u : Value) (Q : Hp → Prop), Inv X pins σ H s → RelV o ov → RelV i iv → RelV v u → t o i v H Q →
    wpAny (model X.prog X.w) X.A (setItem ov iv u) (fun _ s' => ∃ H', Inv X pins σ H' s' ∧ Q H') X.xe s
section
variable {X : Cx} {pos : Pos}
noncomputable def gName (i : Nat) : TG := fun v σ H Q => Q (σ.set i (some v)) H
theorem pg_name {i : Nat} {x : Str} (hN : X.N.Nodup) (hi : X.N[i]? = some x) (hx : Loc X.env.scope x) (hf : X.fn x = true ∨ X.env.scope.names.lookup x = some .local := by first | exact .inl rfl | exact .inr rfl | assumption) : PG X (.Name x pos) (gName i) := by
  intro pins s σ H v u Q I r h
  exact wpAny_assign_Name (store_ok I hN hi hx r (fun s' I' => ⟨_, H, I', h⟩) hf)
noncomputable def gNil : TGs := fun vs σ H Q => vs = [] ∧ Q σ H
noncomputable def gCons (t : TG) (u : TGs) : TGs := fun vs σ H Q => ∃ v r, vs = v :: r ∧ t v σ H fun σ' H' => u r σ' H' Q
theorem pgs_nil : PGs X [] gNil := by
  intro pins s σ H vs us Q I r h
  obtain ⟨e, h⟩ := h
  subst e
  cases r
  exact assignInOrder_nil ⟨σ, H, I, h⟩
theorem pgs_cons {e : Expr} {es : List Expr} {t : TG} {u : TGs} (h1 : PG X e t) (h2 : PGs X es u)
    (hs : (assignEach (e :: es) X.env).map (·.2) = assign e X.env :: (assignEach es X.env).map (·.2) := by rfl) : PGs X (e :: es) (gCons t u) := by
  intro pins s σ H vs us Q I r h
  obtain ⟨v, vr, e1, h⟩ := h
  subst e1
  cases r with
  | cons r rr =>
    rw [hs]
    refine assignInOrder_cons (thn (h1 pins s σ H _ _ _ I r h) fun _ s1 ⟨σ1, H1, I1, q1⟩ => ?_)
    exact h2 pins s1 σ1 H1 _ _ Q I1 rr q1
noncomputable def gTup (K : PySem.W.Frag) (n : Nat) (t : TGs) : TG := fun v σ H Q => ∃ a xs, v = .ref a ∧ SqT K H a xs ∧ xs.length = n ∧ t xs σ H Q
theorem pg_tup {es : List Expr} {k : Nat} {t : TGs} {n : Nat} (hc : X.calm = true) (h : PGs X es t)
    (hn : (assignEach es X.env).length = n := by rfl) (hst : (assignEach es X.env).findIdx? (·.1) = none := by rfl) : PG X (.Tuple es k pos) (gTup X.K n t) := by
  intro pins s σ H v u Q I r hw
  obtain ⟨a, xs, e1, hq, hl, hw⟩ := hw
  subst e1
  cases r
  obtain ⟨its, rv, ht, hz⟩ := I.tuple hq
  refine assign_Tuple_tuple (I.ok.hd hc) ht (by simp [hn, ← hl, rv.length]) hst fun h' hx => ?_
  have I1 : Inv X pins σ H { s with heap := h' } := I.kept (t' := s.toks) fun b o e => hx b o (Nat.ne_of_lt (Heap.lt_size e)) e
  exact h pins _ σ H xs _ Q I1 (by simpa using rv) hw
noncomputable def tAsg (te : TE) (g : TG) : TS := fun D σ H => te σ H fun x H1 => g x σ H1 D.nx
theorem ps_asg {tg e : Expr} {te : TE} {g : TG} (he : PE X e te) (hg : PG X tg g) (hs : swapsWithSole [tg] e pos.line X.env = pure false := by rfl) (hw : swappedStores [tg] e X.env = pure none := by rfl)
    (h1 : (assignEach [tg] X.env).map (·.2) = [assign tg X.env] := by rfl) : PS X (.Assign [tg] e pos) (tAsg te g) := by
  intro pins s σ H D I h
  refine wpAny_Assign_stores (thn (he pins s σ H _ I h) fun v s1 ⟨x, H1, I1, r1, q1⟩ => ?_) hs hw
  rw [h1]
  exact thn (hg pins s1 σ H1 x v _ I1 r1 q1) fun _ s2 q => q
theorem ps_set {i : Nat} {x : Str} {e : Expr} {te : TE} {pos' : Pos} (hN : X.N.Nodup) (hi : X.N[i]? = some x) (hx : Loc X.env.scope x) (he : PE X e te) (hs : swapsWith e (some (.Name x pos')) pos.line X.env = pure false := by rfl) (hf : X.fn x = true ∨ X.env.scope.names.lookup x = some .local := by first | exact .inl rfl | exact .inr rfl | assumption) :
    PS X (.Assign [.Name x pos'] e pos) (tAsg te (gName i)) := by
  intro pins s σ H D I h
  refine wpAny_Assign_Name (thn (he pins s σ H _ I h) fun v s1 ⟨y, H1, I1, r1, q1⟩ => ?_) hs
  exact store_ok I1 hN hi hx r1 (fun s2 I2 => ⟨_, H1, I2, q1⟩) hf
end

section
variable {X : Cx} {pos : Pos}
noncomputable def tWhile (c : TT) (tb : TS) : TS := fun D σ H => ∃ W : Nat → St → Hp → Prop, (∃ m, W m σ H) ∧ ∀ m σ H, W m σ H →
  c σ H fun b H1 => if b = true then ∃ N : St → Hp → Prop, (∀ σ' H', N σ' H' → ∃ m', m' < m ∧ W m' σ' H') ∧ tb { D with nx := N, ct := N, bk := D.nx } σ H1 else D.nx σ H1
theorem ps_while {c : Expr} {body : List Stmt} {tc : TT} {tb : TS} (hp : PassesOwn (model X.prog X.w) X.A X.env X.xe) (hc : PT X c tc) (hb : PSs X body tb) : PS X (.While c body [] pos) (tWhile tc tb) := by
  intro pins s σ H D I h
  obtain ⟨W, ⟨m0, w0⟩, turn⟩ := h
  refine wpAny_While (codeAny_whileLoop (fun n s' => ∃ σ' H', Inv X pins σ' H' s' ∧ W n σ' H') ?_ m0 ⟨σ, H, I, w0⟩)
  rintro n s1 ⟨σ1, H1, I1, w1⟩
  refine wpAny_passesOwn hp (thn (hc pins s1 σ1 H1 _ I1 (turn n σ1 H1 w1)) fun b s2 ⟨H2, I2, q2⟩ => ?_)
  cases b with
  | true =>
    obtain ⟨N, hN, q2⟩ := q2
    rw [if_pos rfl]
    refine wpAny_passesOwn hp (thn (hb pins s2 σ1 H2 _ I2 q2) fun f s3 q3 => ?_)
    cases f with
    | next =>
      obtain ⟨σ3, H3, I3, n3⟩ := q3
      obtain ⟨m', hm, w3⟩ := hN σ3 H3 n3
      exact ⟨m', hm, σ3, H3, I3, w3⟩
    | cont =>
      obtain ⟨σ3, H3, I3, n3⟩ := q3
      obtain ⟨m', hm, w3⟩ := hN σ3 H3 n3
      exact ⟨m', hm, σ3, H3, I3, w3⟩
    | brk => exact q3
    | ret v => exact q3
  | false =>
    rw [if_neg Bool.false_ne_true]
    exact wpAny_execs_nil ⟨σ1, H2, I2, q2⟩
end

set_option genInjectivity false in
structure It where
  go : Nat → Hp → Prop
  yld : Nat → Hp → V → Hp → Prop
  stop : Nat → Hp → Prop
noncomputable def FpOk (X : Cx) (pins : List (Addr × Obj)) (H : Hp) (b : Addr) : Prop :=
  H b = none ∧ b ≠ X.env.locals ∧ b ∉ X.fs ∧ (b ∈ X.ex ∨ X.s₀.heap.objs.size ≤ b) ∧ (∀ x c, X.env.cells.lookup x = some c → c ≠ b) ∧ ∀ p ∈ X.pn ++ pins, p.1 ≠ b
theorem Inv.fpOk {X : Cx} {pins : List (Addr × Obj)} {σ : St} {H H' : Hp} {s : Shared} {b : Addr} (I : Inv X pins σ H s) (hb : s.heap.objs.size ≤ b) (hn : H' b = none) : FpOk X pins H' b := by
  refine ⟨hn, Nat.ne_of_gt (Nat.lt_of_lt_of_le I.lt hb), I.nofs hb, .inr (Nat.le_trans I.sz hb), fun x c e z => ?_, fun p hp z => ?_⟩
  · obtain ⟨v, q⟩ := I.cell x c e
    exact absurd (Nat.lt_of_lt_of_le q.lt (by rw [z]; exact hb)) (Nat.lt_irrefl _)
  · exact absurd (Nat.lt_of_lt_of_le (Heap.lt_size (I.pin p hp).1) (by rw [z]; exact hb)) (Nat.lt_irrefl _)
set_option genInjectivity false in
structure Turn (P : Program) (w : World) (K : PySem.W.Frag) (tg : Expr) (J : It) (fp : List Addr) (it : Addr) (tn : Nat → Heap → Prop) : Prop where
  mem : it ∈ fp
  obj : ∀ i h, tn i h → ∀ b ∈ fp, ∃ o, h.get? b = some o ∧ ∀ v, o.data ≠ .cell v
  keep : ∀ i h h', tn i h → (∀ b ∈ fp, ∀ o, h.get? b = some o → h'.get? b = some o) → tn i h'
  item : ∀ (X : Cx), X.prog = P → X.w = w → X.K = K → X.calm = true → ∀ (i : Nat) (pins : List (Addr × Obj)) (s : Shared) (σ : St) (H : Hp) (E : Value → Shared → Prop), Inv X pins σ H s → (∀ b ∈ fp, FpOk X pins H b) → tn i s.heap → J.go i H →
    wpAny (model P w) X.A (pyNext (.ref it)) (fun r s1 => ∃ u, r = some u ∧
      wpAny (model P w) X.A (letOwnedTupleGo tg (.ref it) u) (fun _ s2 => ∃ x H', Inv X pins σ H' s2 ∧ RelV x u ∧ J.yld i H x H' ∧ tn (i + 1) s2.heap ∧ ∀ b ∈ fp, H' b = none) E s1) E s
  done : ∀ (X : Cx), X.prog = P → X.w = w → X.K = K → X.calm = true → ∀ (i : Nat) (pins : List (Addr × Obj)) (s : Shared) (σ : St) (H : Hp) (E : Value → Shared → Prop), Inv X pins σ H s → (∀ b ∈ fp, FpOk X pins H b) → tn i s.heap → J.stop i H →
    wpAny (model P w) X.A (pyNext (.ref it)) (fun r s1 => r = none ∧ Inv X pins σ H s1) E s
  self : ∀ (A : Around) (i : Nat) (s : Shared) (Q : Value → Shared → Prop) (E : Value → Shared → Prop), tn i s.heap → Q (.ref it) s → wpAny (model P w) A (pyIter (.ref it)) Q E s
noncomputable abbrev TI := St → Hp → (It → Hp → Prop) → Prop
noncomputable def PIE (X : Cx) (pins : List (Addr × Obj)) (σ : St) (tg : Expr) (R : It → Hp → Prop) (itv : Value) (s2 : Shared) : Prop :=
  ∃ (it : Addr) (fp : List Addr) (tn : Nat → Heap → Prop) (J : It) (H' : Hp), itv = .ref it ∧ Inv X pins σ H' s2 ∧ Turn X.prog X.w X.K tg J fp it tn ∧ tn 0 s2.heap ∧ (∀ b ∈ fp, FpOk X pins H' b) ∧ R J H'
noncomputable def PI (X : Cx) (tg iter : Expr) (wi : TI) : Prop :=
  ∀ (pins : List (Addr × Obj)) (s : Shared) (σ : St) (H : Hp) (R : It → Hp → Prop), Inv X pins σ H s → wi σ H R →
    wpAny (model X.prog X.w) X.A (eval iter X.env) (fun v s1 => wpAny (model X.prog X.w) X.A (pyIter v) (PIE X pins σ tg R) X.xe s1) X.xe s

theorem go_of {M : Model} {A : Around} {E : Value → Shared → Prop} {s : Shared} {tg : Expr} {it : Addr} {u : Value} {o : Obj} {n : String} {vs : Array Value} {Q : Unit → Shared → Prop} (ho : s.heap.get? it = some o) (hc : o.cls = .type n) (hd : o.data = .fields vs)
    (hn : ["enumerate", "zip", "dict_itemiterator", "dict_reverseitemiterator", "odict_iterator", "itertools.zip_longest", "itertools.pairwise"].contains n = false) (hQ : Q () s) : wpAny M A (letOwnedTupleGo tg (.ref it) u) Q E s := by
  unfold letOwnedTupleGo
  cases tg <;> first
    | exact wpAny_pure hQ
    | (cases u <;> first
        | exact wpAny_pure hQ
        | (refine wpAny_bind (wpAny_load ho ?_)
           rw [hc, hd]
           show wpAny M A (if (["enumerate", "zip", "dict_itemiterator", "dict_reverseitemiterator", "odict_iterator", "itertools.zip_longest", "itertools.pairwise"].contains n && vs[0]? == some (rawInt _)) = true then _ else _) Q E s
           rw [if_neg (by intro h; rw [hn, Bool.false_and] at h; cases h)]
           exact wpAny_pure hQ))

noncomputable def Itl (K : PySem.W.Frag) (a : Addr) : It :=
  ⟨fun i H => ∃ xs x, SqL K H a xs ∧ xs[i]? = some x, fun i H x H' => H' = H ∧ ∀ xs, SqL K H a xs → xs[i]? = some x, fun i H => ∃ xs, SqL K H a xs ∧ xs.length ≤ i⟩
noncomputable def Itr (lo : Int) (n : Nat) : It := ⟨fun i _ => i < n, fun i H x H' => H' = H ∧ x = .int (lo + i), fun i _ => n ≤ i⟩
theorem turn_list {P : Program} {w : World} {K : PySem.W.Frag} {tg : Expr} (a it : Addr) : Turn P w K tg (Itl K a) [it] it (fun i h => h.IsListIter it a i) where
  mem := by simp
  obj := fun i h st b hb => by
    have e : b = it := by simpa using hb
    subst e
    obtain ⟨o, e, c, d⟩ := st
    exact ⟨o, e, fun v z => by rw [d] at z; cases z⟩
  keep := fun i h h' st k => st.at fun o e => k it (by simp) o e
  item := by
    intro X hP hw hK hc i pins s σ H E I hf st hg
    subst hP hw hK
    obtain ⟨xs, x, hq, hx⟩ := hg
    obtain ⟨its, rv, p, hz⟩ := I.list hq
    obtain ⟨u, hu, ru⟩ := rv.get hx
    obtain ⟨f0, f1, f2, f3, f4, f5⟩ := hf it (by simp)
    refine wpAny_pyNext_list_item st p.isList (x := u) (by simpa using hu) fun h' st' sb => ?_
    have I1 : Inv X pins σ H { s with heap := h' } := I.turned (t' := s.toks) (fun b o hb e => (sb.2 b hb).trans e) f0 f1 f3 f4 f5
    obtain ⟨o, e, c, d⟩ := id st'
    exact ⟨u, rfl, go_of (s := { s with heap := h' }) e c d (by decide) ⟨x, H, I1, ru, ⟨rfl, fun ys hy => by rw [I.list_inj hy hq]; exact hx⟩, st', fun b hb => (hf b hb).1⟩⟩
  done := by
    intro X hP hw hK hc i pins s σ H E I hf st hg
    subst hP hw hK
    obtain ⟨xs, hq, hx⟩ := hg
    obtain ⟨its, rv, p, hz⟩ := I.list hq
    obtain ⟨f0, f1, f2, f3, f4, f5⟩ := hf it (by simp)
    have hl := rv.length
    exact wpAny_pyNext_list_end (I.ok.hd hc) st p.isList (by simp; (first | lia | omega)) fun h' eb => ⟨rfl, I.turned (t' := s.toks) (fun b o hb e => eb b o hb e) f0 f1 f3 f4 f5⟩
  self := fun _ _ _ _ _ st h => wpAny_pyIter_listiter st h
theorem turn_range {P : Program} {w : World} {K : PySem.W.Frag} {tg : Expr} (it : Addr) (lo : Int) (n : Nat) : Turn P w K tg (Itr lo n) [it] it (fun i h => IsRangeIter h it (lo + (i : Nat) * 1) ((n : Int) - (i : Nat)) 1) where
  mem := by simp
  obj := fun i h st b hb => by
    have e : b = it := by simpa using hb
    subst e
    exact ⟨_, st, fun v z => by
      have z' : Data.fields _ = Data.cell v := z
      cases z'⟩
  keep := fun i h h' st k => k it (by simp) _ st
  item := by
    intro X hP hw hK hc i pins s σ H E I hf st hg
    subst hP hw hK
    obtain ⟨f0, f1, f2, f3, f4, f5⟩ := hf it (by simp)
    have W := Walks.range (prog := X.prog) (w := X.w) (I.ok.hd hc) it lo 1 n
    refine W.item i s _ _ hg st fun v h' tk hv st' kk => ?_
    obtain ⟨t, rfl⟩ := hv
    have I1 : Inv X pins σ H { s with heap := h', toks := tk } := I.turned (fun b o hb e => kk b o (by simpa using hb) e) f0 f1 f3 f4 f5
    refine ⟨_, rfl, go_of (s := { s with heap := h', toks := tk }) (n := "range_iterator") st' rfl rfl (by decide) ⟨.int (lo + i), H, I1, ⟨t, ?_⟩, ⟨rfl, rfl⟩, st', fun b hb => (hf b hb).1⟩⟩
    rw [Int.mul_one]
  done := by
    intro X hP hw hK hc i pins s σ H E I hf st hg
    subst hP hw hK
    obtain ⟨f0, f1, f2, f3, f4, f5⟩ := hf it (by simp)
    exact wpAny_pyNext_range_end (I.ok.hd hc) st (by have : n ≤ i := hg; (first | lia | omega)) fun h' eb => ⟨rfl, I.turned (t' := s.toks) (fun b o hb e => eb b o hb e) f0 f1 f3 f4 f5⟩
  self := fun _ _ _ _ _ st h => wpAny_pyIter_rangeiter st h
end L2

namespace L2
open PySem PySem.Spec PyProof.Rows
section
variable {X : Cx} {tg : Expr}
noncomputable def iList (K : PySem.W.Frag) (tl : TE) : TI := fun σ H R => tl σ H fun x H1 => ∃ a, x = .ref a ∧ (∃ xs, SqL K H1 a xs) ∧ R (Itl K a) H1
theorem pi_list {l : Expr} {tl : TE} (hl : PE X l tl) : PI X tg l (iList X.K tl) := by
  intro pins s σ H R I h
  refine thn (hl pins s σ H _ I h) fun v s1 ⟨x, H1, I1, r1, q1⟩ => ?_
  obtain ⟨a, e, ⟨xs, hq⟩, q⟩ := q1
  subst e
  cases r1
  obtain ⟨its, rv, p, hz⟩ := I1.list hq
  refine wpAny_pyIter_list p.isList ?_
  refine ⟨s1.heap.objs.size, [s1.heap.objs.size], _, _, H1, rfl, I1.kept (t' := s1.toks) fun b o e => Heap.get?_push_of_some _ e, turn_list a _, ⟨_, Heap.get?_push_size _ rfl, rfl, rfl⟩, fun b hb => ?_, q⟩
  have e : b = s1.heap.objs.size := by simpa using hb
  subst e
  exact I1.fpOk (Nat.le_refl _) (I1.hok.fresh (Nat.le_refl _))
theorem range_it {pins : List (Addr × Obj)} {σ : St} {H : Hp} {s : Shared} {R : It → Hp → Prop} {E : Value → Shared → Prop} {lo hi : Int} {t u v : Tok} {tk : Nat} (I : Inv X pins σ H s) (h1 : -(2 ^ 62) ≤ lo) (h2 : lo < 2 ^ 62) (h3 : -(2 ^ 62) ≤ hi) (h4 : hi < 2 ^ 62)
    (q : R (Itr lo (hi - lo).toNat) H) : wpAny (model X.prog X.w) X.A (pyIter (.ref s.heap.objs.size)) (PIE X pins σ tg R) E { s with heap := s.heap.push { cls := .type "range", data := .fields #[.int lo t, .int hi u, .int 1 v] }, toks := tk } := by
  refine wpAny_pyIter_range (IsRange.new ..) (small_one h1 h2 h3 h4) ?_
  have I1 : Inv X pins σ H { s with heap := s.heap.push { cls := .type "range", data := .fields #[.int lo t, .int hi u, .int 1 v] }, toks := tk } := I.kept fun b o e => Heap.get?_push_of_some _ e
  refine ⟨(s.heap.push { cls := .type "range", data := .fields #[.int lo t, .int hi u, .int 1 v] }).objs.size, [(s.heap.push { cls := .type "range", data := .fields #[.int lo t, .int hi u, .int 1 v] }).objs.size], _, _, H, rfl,
    I1.kept (t' := tk) fun b o e => Heap.get?_push_of_some _ e, turn_range _ lo (hi - lo).toNat, ?_, fun b hb => ?_, q⟩
  · have e1 : lo + ((0 : Nat) : Int) * 1 = lo := by simp
    have e2 : (((hi - lo).toNat : Nat) : Int) - ((0 : Nat) : Int) = Builtin.Range.rangeSize lo hi 1 := by rw [rangeSize_one]; split <;> (first | lia | omega)
    show IsRangeIter _ _ (lo + ((0 : Nat) : Int) * 1) ((((hi - lo).toNat : Nat) : Int) - ((0 : Nat) : Int)) 1
    rw [e1, e2]
    exact Heap.get?_push_size _ rfl
  · have e : b = (s.heap.push { cls := .type "range", data := .fields #[.int lo t, .int hi u, .int 1 v] }).objs.size := by simpa using hb
    subst e
    exact I1.fpOk (Nat.le_refl _) (I1.hok.fresh (Nat.le_refl _))
noncomputable def iRng1 (ta : TA) : TI := fun σ H R => ta σ H fun vs H1 => ∃ j : Int, vs = [.int j] ∧ -(2 ^ 62) ≤ j ∧ j < 2 ^ 62 ∧ R (Itr 0 j.toNat) H1
noncomputable def iRng2 (ta : TA) : TI := fun σ H R => ta σ H fun vs H1 => ∃ i j : Int, vs = [.int i, .int j] ∧ (-(2 ^ 62) ≤ i ∧ i < 2 ^ 62 ∧ -(2 ^ 62) ≤ j ∧ j < 2 ^ 62) ∧ R (Itr i (j - i).toNat) H1
theorem pi_range1 {a : Expr} {ta : TA} {p pos : Pos} (hg : Gl X "range") (hm : X.mg "range" = none) (ha : PA X [a] ta) (hs : starEach [a] X.env = [(false, eval a X.env)] := by rfl) : PI X tg (.Call (.Name "range" p) [a] [] pos) (iRng1 ta) := by
  intro pins s σ H R I h
  refine Call_ (ld_blt I hg hm boot_range (PyProof.Rows.callWith_type1 (thn (ha pos pins s σ H _ I h) fun us s1 ⟨vs, H1, I1, r1, q1⟩ => ?_) hs rfl))
  obtain ⟨j, e, q1, q2, q⟩ := q1
  subst e
  cases r1 with
  | cons r rr =>
    cases rr
    obtain ⟨t, rfl⟩ := r
    exact call_range_1 (range_it I1 (by (first | lia | omega)) (by (first | lia | omega)) q1 q2 (by simpa using q))
theorem pi_range2 {a b : Expr} {ta : TA} {p pos : Pos} (hg : Gl X "range") (hm : X.mg "range" = none) (ha : PA X [a, b] ta) (hs : starEach [a, b] X.env = [(false, eval a X.env), (false, eval b X.env)] := by rfl) (hs2 : starEach [b] X.env = [(false, eval b X.env)] := by rfl) :
    PI X tg (.Call (.Name "range" p) [a, b] [] pos) (iRng2 ta) := by
  intro pins s σ H R I h
  refine Call_ (ld_blt I hg hm boot_range (PyProof.Rows.callWith_type1 (thn (ha pos pins s σ H _ I h) fun us s1 ⟨vs, H1, I1, r1, q1⟩ => ?_) (by rw [hs, hs2]) (by rw [hs2]; rfl)))
  obtain ⟨i, j, e, ⟨q1, q2, q3, q4⟩, q⟩ := q1
  subst e
  cases r1 with
  | cons r rr =>
    cases rr with
    | cons r' rr =>
      cases rr
      obtain ⟨t, rfl⟩ := r
      obtain ⟨t', rfl⟩ := r'
      exact call_range_2 (range_it I1 q1 q2 q3 q4 q)

noncomputable def tFor (wi : TI) (g : TG) (tb : TS) : TS := fun D σ H => wi σ H fun J H1 => ∃ W : Nat → Nat → St → Hp → Prop, (∃ m, W 0 m σ H1) ∧ ∀ i m σ H, W i m σ H →
  (J.stop i H ∧ D.nx σ H) ∨ (J.go i H ∧ ∃ N : St → Hp → Prop, (∀ σ' H', N σ' H' → ∃ m', m' < m ∧ W (i + 1) m' σ' H') ∧ ∀ x H', J.yld i H x H' → g x σ H' fun σ2 H2 => tb { D with nx := N, ct := N, bk := D.nx } σ2 H2)
noncomputable def pinsAt (fp : List Addr) (h : Heap) : List (Addr × Obj) := fp.filterMap fun b => (h.get? b).map fun o => (b, o)
theorem mem_pinsAt {fp : List Addr} {h : Heap} {b : Addr} {o : Obj} (hb : b ∈ fp) (e : h.get? b = some o) : (b, o) ∈ pinsAt fp h := List.mem_filterMap.mpr ⟨b, hb, by rw [e]; rfl⟩
theorem of_pinsAt {fp : List Addr} {h : Heap} {p : Addr × Obj} (hp : p ∈ pinsAt fp h) : p.1 ∈ fp ∧ h.get? p.1 = some p.2 := by
  obtain ⟨b, hb, e⟩ := List.mem_filterMap.mp hp
  cases q : h.get? b with
  | none => rw [q] at e; cases e
  | some o =>
    rw [q] at e
    have e' : (b, o) = p := Option.some.inj e
    subst e'
    exact ⟨hb, q⟩
theorem Inv.pinned {pins : List (Addr × Obj)} {σ : St} {H : Hp} {s : Shared} {fp : List Addr} (I : Inv X pins σ H s) (hf : ∀ b ∈ fp, FpOk X pins H b) (ho : ∀ b ∈ fp, ∃ o, s.heap.get? b = some o ∧ ∀ v, o.data ≠ .cell v) : Inv X (pins ++ pinsAt fp s.heap) σ H s :=
  I.pins_of fun p hp => (List.mem_append.mp hp).elim (fun z => I.pin p (List.mem_append_right _ z)) fun z => by
    obtain ⟨hb, e⟩ := of_pinsAt z
    obtain ⟨f0, f1, f2, _⟩ := hf p.1 hb
    obtain ⟨o, e', d⟩ := ho p.1 hb
    rw [e] at e'; cases e'
    exact ⟨e, f0, f1, f2, d⟩
theorem Inv.unpinned {pins pl : List (Addr × Obj)} {σ : St} {H : Hp} {s : Shared} (I : Inv X (pins ++ pl) σ H s) : Inv X pins σ H s := I.pins_of fun p hp => I.pin p (List.mem_append_right _ (List.mem_append_left _ hp))
theorem ps_for {iter : Expr} {body : List Stmt} {wi : TI} {g : TG} {tb : TS} {pos : Pos} (hp : PassesOwn (model X.prog X.w) X.A X.env X.xe) (hc : X.calm = true) (hi : PI X tg iter wi) (hg : PG X tg g) (hb : PSs X body tb)
    (hs : ∀ x, foldedSetIterable iter X.env x = pure x := by intro _; rfl) : PS X (.For tg iter body [] pos) (tFor wi g tb) := by
  intro pins s σ H D I h
  refine wpAny_For (thn (hi pins s σ H _ I h) fun v s1 h1 => thn h1 fun itv s2 h2 => ?_) hs
  obtain ⟨it, fp, tn, J, H2, e, I2, T, st2, f2, W, ⟨m0, w0⟩, turn⟩ := h2
  subst e
  -- what stays true of the iterator's objects through the loop
  have stat : ∀ {H' : Hp}, (∀ b ∈ fp, H' b = none) → ∀ b ∈ fp, FpOk X pins H' b := fun hn b hb => ⟨hn b hb, (f2 b hb).2⟩
  refine codeAny_forLoop_any (fun n s' => ∃ i σ' H', Inv X pins σ' H' s' ∧ tn i s'.heap ∧ (∀ b ∈ fp, H' b = none) ∧ W i n σ' H') ?_ m0 ⟨0, σ, H2, I2, st2, fun b hb => (f2 b hb).1, w0⟩
  rintro n s3 ⟨i, σ3, H3, I3, st3, fr3, w3⟩
  rcases turn i n σ3 H3 w3 with ⟨stop, qn⟩ | ⟨go, N, hN, step⟩
  · refine wpAny_passesOwn hp (thn (T.done X rfl rfl rfl hc i pins s3 σ3 H3 X.xe I3 (stat fr3) st3 stop) fun r s4 ⟨hr, I4⟩ => ?_)
    subst hr
    exact wpAny_execs_nil ⟨σ3, H3, I4, qn⟩
  · refine wpAny_passesOwn hp (thn (T.item X rfl rfl rfl hc i pins s3 σ3 H3 X.xe I3 (stat fr3) st3 go) fun r s4 ⟨u, hr, h4⟩ => ?_)
    subst hr
    refine wpAny_passesOwn hp (thn h4 fun _ s5 ⟨x, H5, I5, r5, y5, st5, fr5⟩ => ?_)
    have I5' := I5.pinned (stat fr5) (T.obj _ _ st5)
    refine wpAny_passesOwn hp (thn (hg _ s5 σ3 H5 x u _ I5' r5 (step x H5 y5)) fun _ s6 ⟨σ6, H6, I6, q6⟩ => ?_)
    refine wpAny_passesOwn hp (thn (hb _ s6 σ6 H6 _ I6 q6) fun f s7 q7 => ?_)
    have again : ∀ {σ7 : St} {H7 : Hp}, Inv X (pins ++ pinsAt fp s5.heap) σ7 H7 s7 → N σ7 H7 → ∃ m, m < n ∧ ∃ i σ' H', Inv X pins σ' H' s7 ∧ tn i s7.heap ∧ (∀ b ∈ fp, H' b = none) ∧ W i m σ' H' := fun {σ7 H7} I7 n7 => by
      obtain ⟨m', hm, w7⟩ := hN σ7 H7 n7
      refine ⟨m', hm, i + 1, σ7, H7, I7.unpinned, T.keep _ _ _ st5 fun b hb o e => (I7.pin (b, o) (List.mem_append_right _ (List.mem_append_right _ (mem_pinsAt hb e)))).1, fun b hb => ?_, w7⟩
      obtain ⟨o, e, d⟩ := T.obj _ _ st5 b hb
      exact (I7.pin (b, o) (List.mem_append_right _ (List.mem_append_right _ (mem_pinsAt hb e)))).2.1
    cases f with
    | next => obtain ⟨σ7, H7, I7, n7⟩ := q7; exact again I7 n7
    | cont => obtain ⟨σ7, H7, I7, n7⟩ := q7; exact again I7 n7
    | brk => obtain ⟨σ7, H7, I7, q7⟩ := q7; exact ⟨σ7, H7, I7.unpinned, q7⟩
    | ret v => obtain ⟨x7, σ7, H7, I7, r7, q7⟩ := q7; exact ⟨x7, σ7, H7, I7.unpinned, r7, q7⟩
end

theorem for_list {K : PySem.W.Frag} {a : Addr} {xs : List V} {g : TG} {tb : TS} {D : Ends} {σ : St} {H : Hp} (Pv : Nat → St → Hp → Prop) (h0 : Pv 0 σ H) (hl : ∀ i σ H, i ≤ xs.length → Pv i σ H → SqL K H a xs)
    (hs : ∀ i x σ H, xs[i]? = some x → Pv i σ H → g x σ H fun σ2 H2 => tb { D with nx := Pv (i + 1), ct := Pv (i + 1), bk := D.nx } σ2 H2) (hd : ∀ σ H, Pv xs.length σ H → D.nx σ H) :
    ∃ W : Nat → Nat → St → Hp → Prop, (∃ m, W 0 m σ H) ∧ ∀ i m σ H, W i m σ H →
      ((Itl K a).stop i H ∧ D.nx σ H) ∨ ((Itl K a).go i H ∧ ∃ N : St → Hp → Prop, (∀ σ' H', N σ' H' → ∃ m', m' < m ∧ W (i + 1) m' σ' H') ∧ ∀ x H', (Itl K a).yld i H x H' → g x σ H' fun σ2 H2 => tb { D with nx := N, ct := N, bk := D.nx } σ2 H2) := by
  refine ⟨fun i m σ H => m = xs.length - i ∧ i ≤ xs.length ∧ Pv i σ H, ⟨xs.length, by simp, Nat.zero_le _, h0⟩, ?_⟩
  rintro i m σ H ⟨rfl, hi, p⟩
  have q := hl i σ H hi p
  by_cases hlt : i < xs.length
  · refine .inr ⟨⟨xs, xs[i], q, by simp [hlt]⟩, Pv (i + 1), fun σ' H' p' => ⟨xs.length - (i + 1), by (first | lia | omega), rfl, hlt, p'⟩, fun x H' y => ?_⟩
    obtain ⟨e, y⟩ := y
    subst e
    exact hs i x σ _ (y xs q) p
  · have e : i = xs.length := by (first | lia | omega)
    subst e
    exact .inl ⟨⟨xs, q, Nat.le_refl _⟩, hd σ H p⟩
theorem for_range {lo : Int} {n : Nat} {g : TG} {tb : TS} {D : Ends} {σ : St} {H : Hp} (Pv : Nat → St → Hp → Prop) (h0 : Pv 0 σ H)
    (hs : ∀ i σ H, i < n → Pv i σ H → g (.int (lo + i)) σ H fun σ2 H2 => tb { D with nx := Pv (i + 1), ct := Pv (i + 1), bk := D.nx } σ2 H2) (hd : ∀ σ H, Pv n σ H → D.nx σ H) :
    ∃ W : Nat → Nat → St → Hp → Prop, (∃ m, W 0 m σ H) ∧ ∀ i m σ H, W i m σ H →
      ((Itr lo n).stop i H ∧ D.nx σ H) ∨ ((Itr lo n).go i H ∧ ∃ N : St → Hp → Prop, (∀ σ' H', N σ' H' → ∃ m', m' < m ∧ W (i + 1) m' σ' H') ∧ ∀ x H', (Itr lo n).yld i H x H' → g x σ H' fun σ2 H2 => tb { D with nx := N, ct := N, bk := D.nx } σ2 H2) := by
  refine ⟨fun i m σ H => m = n - i ∧ i ≤ n ∧ Pv i σ H, ⟨n, by simp, Nat.zero_le _, h0⟩, ?_⟩
  rintro i m σ H ⟨rfl, hi, p⟩
  by_cases hlt : i < n
  · refine .inr ⟨hlt, Pv (i + 1), fun σ' H' p' => ⟨n - (i + 1), by (first | lia | omega), rfl, hlt, p'⟩, fun x H' y => ?_⟩
    obtain ⟨e, y⟩ := y
    subst e y
    exact hs i σ _ hlt p
  · have e : i = n := by (first | lia | omega)
    subst e
    exact .inl ⟨Nat.le_refl _, hd σ H p⟩
end L2

namespace L2
open PySem PySem.Spec PyProof.Rows

noncomputable abbrev R2 := V → V → Hp → VK → Prop
noncomputable def OpR (X : Cx) (f : Value → Value → Sem Value) (r : R2) : Prop :=
  ∀ (pins : List (Addr × Obj)) (s : Shared) (σ : St) (H : Hp) (x y : V) (v u : Value) (Q : VK), Inv X pins σ H s → RelV x v → RelV y u → r x y H Q →
    wpAny (model X.prog X.w) X.A (f v u) (EP X pins σ Q) X.xe s
noncomputable def UnR (X : Cx) (f : Value → Sem Value) (r : V → Hp → VK → Prop) : Prop :=
  ∀ (pins : List (Addr × Obj)) (s : Shared) (σ : St) (H : Hp) (x : V) (v : Value) (Q : VK), Inv X pins σ H s → RelV x v → r x H Q →
    wpAny (model X.prog X.w) X.A (f v) (EP X pins σ Q) X.xe s
noncomputable def CallR (X : Cx) (f : Value) (r : List V → Hp → VK → Prop) : Prop :=
  ∀ (pins : List (Addr × Obj)) (s : Shared) (σ : St) (H : Hp) (xs : List V) (us : List Value) (Q : VK), Inv X pins σ H s → Vals xs us → r xs H Q →
    wpAny (model X.prog X.w) X.A (call f us) (EP X pins σ Q) X.xe s
noncomputable def tOp (r : R2) (ta tb : TE) : TE := fun σ H Q => ta σ H fun x H1 => tb σ H1 fun y H2 => r x y H2 Q
noncomputable def tUn (r : V → Hp → VK → Prop) (ta : TE) : TE := fun σ H Q => ta σ H fun x H1 => r x H1 Q
noncomputable def rI (C : Int → Int → Prop) (g : Int → Int → V) : R2 := fun x y H Q => ∃ i j, x = .int i ∧ y = .int j ∧ C i j ∧ Q (g i j) H
noncomputable def rI0 (g : Int → Int → V) : R2 := fun x y H Q => ∃ i j, x = .int i ∧ y = .int j ∧ Q (g i j) H
noncomputable def rU (g : Int → V) : V → Hp → VK → Prop := fun x H Q => ∃ i, x = .int i ∧ Q (g i) H

section
variable {X : Cx} {a b c : Expr} {ta tb tc : TE} {pos : Pos}

theorem binT (ha : PE X a ta) (hb : PE X b tb) {pins : List (Addr × Obj)} {s : Shared} {σ : St} {H : Hp} {R : V → V → Hp → Prop} (I : Inv X pins σ H s)
    (h : ta σ H fun x H1 => tb σ H1 fun y H2 => R x y H2) {Q : Value → Shared → Prop} {f : Value → Value → Sem Value}
    (hf : ∀ v u s2 x y H2, Inv X pins σ H2 s2 → RelV x v → RelV y u → R x y H2 → wpAny (model X.prog X.w) X.A (f v u) Q X.xe s2) :
    wpAny (model X.prog X.w) X.A (eval a X.env) (fun v s₁ => wpAny (model X.prog X.w) X.A (eval b X.env) (fun u s₂ => wpAny (model X.prog X.w) X.A (f v u) Q X.xe s₂) X.xe s₁) X.xe s := by
  refine thn (ha pins s σ H _ I h) fun v s1 ⟨x, H1, I1, r1, q1⟩ => ?_
  refine thn (hb pins s1 σ H1 _ I1 q1) fun u s2 ⟨y, H2, I2, r2, q2⟩ => ?_
  exact hf v u s2 x y H2 I2 r1 r2 q2

theorem pe_op {op : Operator} {r : R2} (ho : OpR X (binaryOp op) r) (ha : PE X a ta) (hb : PE X b tb) : PE X (.BinOp a op b pos) (tOp r ta tb) := by
  intro pins s σ H Q I h
  exact wpAny_BinOp (binT ha hb I h fun v u s2 x y H2 I2 rx ry q => ho pins s2 σ H2 x y v u Q I2 rx ry q)
theorem pe_un {op : UnaryOp} {r : V → Hp → VK → Prop} (ho : UnR X (unaryOp op) r) (ha : PE X a ta) : PE X (.UnaryOp op a pos) (tUn r ta) := by
  intro pins s σ H Q I h
  exact UnaryOp_ (thn (ha pins s σ H _ I h) fun v s1 ⟨x, H1, I1, r1, q1⟩ => ho pins s1 σ H1 x v Q I1 r1 q1)
theorem opI {f : Value → Value → Sem Value} {C : Int → Int → Prop} {g : Int → Int → Int}
    (rule : ∀ (i j : Int) (t u : Tok) (s : Shared) (Q : Value → Shared → Prop) (E : Value → Shared → Prop), C i j → Q (.int (g i j) s.toks) { s with toks := s.toks + 1 } → wpAny (model X.prog X.w) X.A (f (.int i t) (.int j u)) Q E s) :
    OpR X f (rI C fun i j => .int (g i j)) := by
  intro pins s σ H x y v u Q I rx ry h
  obtain ⟨i, j, rfl, rfl, hc, q⟩ := h
  obtain ⟨t, rfl⟩ := rx
  obtain ⟨t', rfl⟩ := ry
  exact rule i j t t' s _ _ hc ⟨.int (g i j), H, I.tok _, ⟨_, rfl⟩, q⟩
theorem opI0 {f : Value → Value → Sem Value} {g : Int → Int → Int}
    (rule : ∀ (i j : Int) (t u : Tok) (s : Shared) (Q : Value → Shared → Prop) (E : Value → Shared → Prop), Q (.int (g i j) s.toks) { s with toks := s.toks + 1 } → wpAny (model X.prog X.w) X.A (f (.int i t) (.int j u)) Q E s) :
    OpR X f (rI0 fun i j => .int (g i j)) := by
  intro pins s σ H x y v u Q I rx ry h
  obtain ⟨i, j, rfl, rfl, q⟩ := h
  obtain ⟨t, rfl⟩ := rx
  obtain ⟨t', rfl⟩ := ry
  exact rule i j t t' s _ _ ⟨.int (g i j), H, I.tok _, ⟨_, rfl⟩, q⟩
theorem opB0 {f : Value → Value → Sem Value} {g : Int → Int → Bool}
    (rule : ∀ (i j : Int) (t u : Tok) (s : Shared) (Q : Value → Shared → Prop) (E : Value → Shared → Prop), Q (.bool (g i j)) s → wpAny (model X.prog X.w) X.A (f (.int i t) (.int j u)) Q E s) :
    OpR X f (rI0 fun i j => .bl (g i j)) := by
  intro pins s σ H x y v u Q I rx ry h
  obtain ⟨i, j, rfl, rfl, q⟩ := h
  obtain ⟨t, rfl⟩ := rx
  obtain ⟨t', rfl⟩ := ry
  exact rule i j t t' s _ _ ⟨.bl (g i j), H, I, rfl, q⟩

noncomputable def CDiv (i j : Int) : Prop := 0 < j ∧ j < 1073741824
noncomputable def CPow (i j : Int) : Prop := 0 ≤ j ∧ j ≤ 1000000 ∧ i.natAbs < 2 ^ 64
noncomputable def CMul (i j : Int) : Prop := (-(2 ^ 64) < i ∧ i < 2 ^ 64) ∨ (-(2 ^ 64) < j ∧ j < 2 ^ 64)
theorem CMul.ok {i j : Int} (h : CMul i j) : IntMulOk i j := by
  rcases h with ⟨h1, h2⟩ | ⟨h1, h2⟩
  · exact .of_left (intBits_le_64 h1 h2)
  · exact .of_right (intBits_le_64 h1 h2)
theorem op_add : OpR X (binaryOp .Add) (rI0 fun i j => .int (i + j)) := opI0 fun _ _ _ _ _ _ _ q => add_int q
theorem op_sub : OpR X (binaryOp .Sub) (rI0 fun i j => .int (i - j)) := opI0 fun _ _ _ _ _ _ _ q => sub_int q
theorem op_mul : OpR X (binaryOp .Mult) (rI CMul fun i j => .int (i * j)) := opI fun _ _ _ _ _ _ _ hc q => mul_int q hc.ok
theorem op_fdiv : OpR X (binaryOp .FloorDiv) (rI CDiv fun i j => .int (i / j)) := opI fun i j _ _ _ _ _ hc q => by
  have h1 : (0 : Int) < j := hc.1
  have h2 : j < 1073741824 := hc.2
  exact floordiv_int (by (first | lia | omega)) (by rw [Int.fdiv_eq_ediv_of_nonneg i (by (first | lia | omega))]; exact q) (.inl (PyProof.noPylong_small (by (first | lia | omega))))
theorem op_mod : OpR X (binaryOp .Mod) (rI (fun _ j => 0 < j) fun i j => .int (i % j)) := opI fun i j _ _ _ _ _ hc q => by
  have h1 : (0 : Int) < j := hc
  exact mod_int' (by (first | lia | omega)) (by rw [Int.fmod_eq_emod_of_nonneg i (by (first | lia | omega))]; exact q)
theorem op_pow : OpR X (binaryOp .Pow) (rI CPow fun i j => .int (i ^ j.toNat)) := opI fun _ _ _ _ _ _ _ hc q => pow_int_small hc.1 hc.2.1 hc.2.2 q
theorem unI {f : Value → Sem Value} {g : Int → Int}
    (rule : ∀ (i : Int) (t : Tok) (s : Shared) (Q : Value → Shared → Prop) (E : Value → Shared → Prop), Q (.int (g i) s.toks) { s with toks := s.toks + 1 } → wpAny (model X.prog X.w) X.A (f (.int i t)) Q E s) :
    UnR X f (rU fun i => .int (g i)) := by
  intro pins s σ H x v Q I rx h
  obtain ⟨i, rfl, q⟩ := h
  obtain ⟨t, rfl⟩ := rx
  exact rule i t s _ _ ⟨.int (g i), H, I.tok _, ⟨_, rfl⟩, q⟩
theorem un_neg : UnR X (unaryOp .USub) (rU fun i => .int (-i)) := unI fun _ _ _ _ _ q => neg_int q
end

noncomputable def scal : V → V → Bool
  | .non, .non => true | .non, .int _ => true | .int _, .non => true | .non, .bl _ => true | .bl _, .non => true | .non, .str _ => true | .str _, .non => true
  | .int _, .int _ => true | .bl _, .bl _ => true | .str _, .str _ => true | .byt _, .byt _ => true
  | .int _, .str _ => true | .str _, .int _ => true | .bl _, .str _ => true | .str _, .bl _ => true
  | _, _ => false
noncomputable def rEq : R2 := fun x y H Q => scal x y = true ∧ Q (.bl (decide (x = y))) H
noncomputable def rNe : R2 := fun x y H Q => scal x y = true ∧ Q (.bl (!decide (x = y))) H

theorem dec_int {i j : Int} : decide (V.int i = V.int j) = (i == j) := by
  rw [Bool.eq_iff_iff]
  simp
theorem dec_bl {i j : Bool} : decide (V.bl i = V.bl j) = (i == j) := by
  rw [Bool.eq_iff_iff]
  simp
theorem dec_str {i j : Str} : decide (V.str i = V.str j) = (i == j) := by
  rw [Bool.eq_iff_iff]
  simp
theorem dec_byt {i j : Array UInt8} : decide (V.byt i = V.byt j) = (i.toList == j.toList) := by
  rw [Bool.eq_iff_iff]
  cases i
  cases j
  simp

section
variable {X : Cx} {a b c : Expr} {ta tb tc : TE} {pos : Pos}
theorem fin_bl {pins : List (Addr × Obj)} {σ : St} {H : Hp} {s : Shared} {Q : VK} {k k' : Bool} (I : Inv X pins σ H s) (q : Q (.bl k) H) (e : k = k') : EP X pins σ Q (.bool k') s := by
  subst e
  exact ⟨.bl k, H, I, rfl, q⟩
theorem op_eq : OpR X (compareOp .Eq) rEq := by
  intro pins s σ H x y v u Q I rx ry h
  obtain ⟨hs, q⟩ := h
  cases x with
  | non =>
    cases rx
    cases y with
    | non => cases ry; exact PySem.EqNone.eq_none_none (fin_bl I q (by simp))
    | bl j => cases ry; exact PySem.EqNone.eq_none_bool (fin_bl I q (by simp))
    | int j => obtain ⟨t', rfl⟩ := ry; exact PySem.EqNone.eq_none_int (fin_bl I q (by simp))
    | str j => obtain ⟨t', rfl⟩ := ry; exact PySem.EqNone.eq_none_str (fin_bl I q (by simp))
    | _ => exact absurd (show false = true from hs) Bool.false_ne_true
  | bl i =>
    cases rx
    cases y with
    | non => cases ry; exact PySem.EqNone.eq_bool_none (fin_bl I q (by simp))
    | bl j => cases ry; exact eq_bool (fin_bl I q dec_bl)
    | str j => obtain ⟨t', rfl⟩ := ry; exact PySem.EqMixed.eq_bool_str (fin_bl I q (by simp))
    | _ => exact absurd (show false = true from hs) Bool.false_ne_true
  | int i =>
    obtain ⟨t, rfl⟩ := rx
    cases y with
    | non => cases ry; exact PySem.EqNone.eq_int_none (fin_bl I q (by simp))
    | int j => obtain ⟨t', rfl⟩ := ry; exact eq_int (fin_bl I q dec_int)
    | str j => obtain ⟨t', rfl⟩ := ry; exact PySem.EqMixed.eq_int_str (fin_bl I q (by simp))
    | _ => exact absurd (show false = true from hs) Bool.false_ne_true
  | str i =>
    obtain ⟨t, rfl⟩ := rx
    cases y with
    | non => cases ry; exact PySem.EqNone.eq_str_none (fin_bl I q (by simp))
    | bl j => cases ry; exact PySem.EqMixed.eq_str_bool (fin_bl I q (by simp))
    | int j => obtain ⟨t', rfl⟩ := ry; exact PySem.EqMixed.eq_str_int (fin_bl I q (by simp))
    | str j => obtain ⟨t', rfl⟩ := ry; exact eq_str (fin_bl I q dec_str)
    | _ => exact absurd (show false = true from hs) Bool.false_ne_true
  | byt i =>
    obtain ⟨t, rfl⟩ := rx
    cases y with
    | byt j => obtain ⟨t', rfl⟩ := ry; exact PySem.W.eq_bytes (fin_bl I q dec_byt)
    | _ => exact absurd (show false = true from hs) Bool.false_ne_true
  | _ => cases y <;> exact absurd (show false = true from hs) Bool.false_ne_true
theorem op_ne : OpR X (compareOp .NotEq) rNe := by
  intro pins s σ H x y v u Q I rx ry h
  obtain ⟨hs, q⟩ := h
  cases x with
  | non =>
    cases rx
    cases y with
    | non => cases ry; exact PySem.EqNone.ne_none_none (fin_bl I q (by simp))
    | bl j => cases ry; exact PySem.EqNone.ne_none_bool (fin_bl I q (by simp))
    | int j => obtain ⟨t', rfl⟩ := ry; exact PySem.EqNone.ne_none_int (fin_bl I q (by simp))
    | str j => obtain ⟨t', rfl⟩ := ry; exact PySem.EqNone.ne_none_str (fin_bl I q (by simp))
    | _ => exact absurd (show false = true from hs) Bool.false_ne_true
  | bl i =>
    cases rx
    cases y with
    | non => cases ry; exact PySem.EqNone.ne_bool_none (fin_bl I q (by simp))
    | bl j => cases ry; exact ne_bool (fin_bl I q (congrArg not dec_bl))
    | str j => obtain ⟨t', rfl⟩ := ry; exact PySem.EqMixed.ne_bool_str (fin_bl I q (by simp))
    | _ => exact absurd (show false = true from hs) Bool.false_ne_true
  | int i =>
    obtain ⟨t, rfl⟩ := rx
    cases y with
    | non => cases ry; exact PySem.EqNone.ne_int_none (fin_bl I q (by simp))
    | int j => obtain ⟨t', rfl⟩ := ry; exact ne_int (fin_bl I q (congrArg not dec_int))
    | str j => obtain ⟨t', rfl⟩ := ry; exact PySem.EqMixed.ne_int_str (fin_bl I q (by simp))
    | _ => exact absurd (show false = true from hs) Bool.false_ne_true
  | str i =>
    obtain ⟨t, rfl⟩ := rx
    cases y with
    | non => cases ry; exact PySem.EqNone.ne_str_none (fin_bl I q (by simp))
    | bl j => cases ry; exact PySem.EqMixed.ne_str_bool (fin_bl I q (by simp))
    | int j => obtain ⟨t', rfl⟩ := ry; exact PySem.EqMixed.ne_str_int (fin_bl I q (by simp))
    | str j => obtain ⟨t', rfl⟩ := ry; exact ne_str (fin_bl I q (congrArg not dec_str))
    | _ => exact absurd (show false = true from hs) Bool.false_ne_true
  | byt i =>
    obtain ⟨t, rfl⟩ := rx
    cases y with
    | byt j => obtain ⟨t', rfl⟩ := ry; exact PySem.W.ne_bytes (fin_bl I q (congrArg not dec_byt))
    | _ => exact absurd (show false = true from hs) Bool.false_ne_true
  | _ => cases y <;> exact absurd (show false = true from hs) Bool.false_ne_true

theorem op_lt : OpR X (compareOp .Lt) (rI0 fun i j => .bl (decide (i < j))) := opB0 fun _ _ _ _ _ _ _ q => lt_int q
theorem op_le : OpR X (compareOp .LtE) (rI0 fun i j => .bl (decide (i ≤ j))) := opB0 fun _ _ _ _ _ _ _ q => le_int q
theorem op_gt : OpR X (compareOp .Gt) (rI0 fun i j => .bl (decide (j < i))) := opB0 fun _ _ _ _ _ _ _ q => gt_int q
theorem op_ge : OpR X (compareOp .GtE) (rI0 fun i j => .bl (decide (j ≤ i))) := opB0 fun _ _ _ _ _ _ _ q => ge_int q
theorem op_lt_str : OpR X (compareOp .Lt) (fun x y H Q => ∃ i j, x = .str i ∧ y = .str j ∧ Q (.bl (decide (i.cps.toList < j.cps.toList))) H) := by
  intro pins s σ H x y v u Q I rx ry h
  obtain ⟨i, j, rfl, rfl, q⟩ := h
  obtain ⟨t, rfl⟩ := rx
  obtain ⟨t', rfl⟩ := ry
  exact lt_str (fin_bl I q rfl)
theorem op_notin_str : OpR X (compareOp .NotIn) (fun x y H Q => ∃ i j, x = .str i ∧ y = .str j ∧ Q (.bl (!(!(Builtin.Str.occurrences j i 0 j.length 1).isEmpty))) H) := by
  intro pins s σ H x y v u Q I rx ry h
  obtain ⟨i, j, rfl, rfl, q⟩ := h
  obtain ⟨t, rfl⟩ := rx
  obtain ⟨t', rfl⟩ := ry
  exact notIn_str (fin_bl I q rfl)
theorem nomark (b : Expr) {op : CmpOp} (h : op ≠ .In := by decide) (h2 : op ≠ .NotIn := by decide) : behindInMarks op b = false := by
  have e1 : (op == CmpOp.In) = false := by cases op <;> first | rfl | exact absurd rfl h
  have e2 : (op == CmpOp.NotIn) = false := by cases op <;> first | rfl | exact absurd rfl h2
  cases b <;> simp [behindInMarks, e1, e2]
theorem pe_cmpR {op : CmpOp} {r : R2} (ho : OpR X (compareOp op) r) (ha : PE X a ta) (hb : PE X b tb) (hm : behindInMarks op b = false) : PE X (.Compare a [op] [b] pos) (tOp r ta tb) := by
  intro pins s σ H Q I h
  exact wpAny_Compare1 (binT ha hb I h fun v u s2 x y H2 I2 rx ry q => ho pins s2 σ H2 x y v u Q I2 rx ry q) hm
noncomputable def tTest (t : TE) : TT := fun σ H Q => t σ H fun x H' => ∃ k, x = .bl k ∧ Q k H'
theorem pt_cmpR {op : CmpOp} {r : R2} (ho : OpR X (compareOp op) r) (ha : PE X a ta) (hb : PE X b tb) (hm : behindInMarks op b = false) : PT X (.Compare a [op] [b] pos) (tTest (tOp r ta tb)) := by
  intro pins s σ H Q I h
  refine wpAny_isTrue_Compare1 (thn (ha pins s σ H _ I h) fun v s1 ⟨x, H1, I1, r1, q1⟩ => thn (hb pins s1 σ H1 _ I1 q1) fun u s2 ⟨y, H2, I2, r2, q2⟩ =>
    thn (ho pins s2 σ H2 x y v u _ I2 r1 r2 q2) fun c s3 ⟨z, H3, I3, r3, k, e, q3⟩ => ?_) hm
  subst e
  cases r3
  exact wpAny_truthy_bool ⟨H3, I3, q3⟩
theorem line63 : (sizeLine : Nat) < 2 ^ 63 := by rw [sizeLine_eq]; decide
theorem op_add_str : OpR X (binaryOp .Add) (fun x y H Q => ∃ i j, x = .str i ∧ y = .str j ∧ i.length + j.length ≤ sizeLine ∧ Q (.str (i ++ j)) H) := by
  intro pins s σ H x y v u Q I rx ry h
  obtain ⟨i, j, rfl, rfl, hz, q⟩ := h
  obtain ⟨t, rfl⟩ := rx
  obtain ⟨t', rfl⟩ := ry
  exact add_str (fun t' tk => ⟨.str (i ++ j), H, I.tok _, ⟨_, rfl⟩, q⟩) hz
theorem vals1 {x : V} {us : List Value} (r : Vals [x] us) : ∃ u, us = [u] ∧ RelV x u := by
  cases r with
  | cons r1 r2 => cases r2; exact ⟨_, rfl, r1⟩
theorem vals2 {x y : V} {us : List Value} (r : Vals [x, y] us) : ∃ u w', us = [u, w'] ∧ RelV x u ∧ RelV y w' := by
  cases r with
  | cons r1 r2 =>
    cases r2 with
    | cons r3 r4 => cases r4; exact ⟨_, _, rfl, r1, r3⟩
end
end L2

namespace L2
open PySem PySem.Spec PyProof.Rows

section
variable {prog : Program} {w : World} {A : Around} {E : Value → Shared → Prop} {s : Shared} {K : PySem.W.Frag} {x dx C f : Addr} {mA : Str → Option Value} {name : Str} {v : Value}

end

section
variable {P : Program} {w : World} {H H' : Hp} {h h' : Heap} {a C dx : Addr} {fs fs' : List (Str × V)}
end

section
variable {X : Cx} {pins : List (Addr × Obj)} {σ : St} {H : Hp} {s : Shared} {a C dx : Addr} {fs : List (Str × V)} {f : Str} {v : V} {A : Around} {E : Value → Shared → Prop}

end

section
variable {X : Cx} {o e value : Expr} {f : Str} {pos pos' tpos : Pos} {ta tv : TE}
end

section
variable {X : Cx} {pins : List (Addr × Obj)} {σ : St} {H : Hp} {s : Shared} {A : Around} {E : Value → Shared → Prop} {Q : Value → Shared → Prop} {c : Value} {b : Bool}
end
end L2

namespace L2
open PySem PySem.Spec PyProof.Rows

set_option genInjectivity false in
structure Room (k : Nat) (A : Around) : Prop where
  hd : A.handled = none
  dp : A.depth + 3 * k + 5 < recursionLimit
  un : A.units + 16 * k + 200 < cLine
theorem Room.mono {j k : Nat} {A : Around} (r : Room k A) (h : j ≤ k) : Room j A := ⟨r.hd, by have := r.dp; (first | lia | omega), by have := r.un; (first | lia | omega)⟩
theorem Room.deeper {k : Nat} {A : Around} (r : Room (k + 1) A) (env : Env) : Room k (A.deeper env) :=
  ⟨r.hd, by have := r.dp; show A.depth + 1 + 3 * k + 5 < _; (first | lia | omega), by have := r.un; show A.units + 3 + 16 * k + 200 < _; (first | lia | omega)⟩
theorem Room.depth {k : Nat} {A : Around} (r : Room k A) : A.depth < recursionLimit := by have := r.dp; (first | lia | omega)
theorem Room.units {k : Nat} {A : Around} (r : Room k A) : A.units + 64 < cLine := by have := r.un; (first | lia | omega)
noncomputable def tNil : TA := fun _ H Q => Q [] H
noncomputable def tCons (ta : TE) (tr : TA) : TA := fun σ H Q => ta σ H fun x H1 => tr σ H1 fun xs H2 => Q (x :: xs) H2
section
variable {X : Cx} {e : Expr} {es : List Expr} {te : TE} {t : TA} {pos : Pos}
theorem pa_nil : PA X [] tNil := fun _ _ _ _ H Q I h => Calls.spliced_nil ⟨[], H, I, .nil, h⟩
theorem pa_cons (ha : PE X e te) (hr : PA X es t) (hs : starEach (e :: es) X.env = (false, eval e X.env) :: starEach es X.env := by rfl) : PA X (e :: es) (tCons te t) := by
  intro pos pins s σ H Q I h
  rw [hs]
  show wpAny _ _ (spliced ((false, eval e X.env) :: backTo pos (starEach es X.env))) _ _ s
  refine Calls.spliced_cons (thn (ha pins s σ H _ I h) fun u s1 ⟨x, H1, I1, r1, q1⟩ => ?_)
  exact thn (hr pos pins s1 σ H1 _ I1 q1) fun us s2 ⟨xs, H2, I2, r2, q2⟩ => ⟨x :: xs, H2, I2, .cons r1 r2, q2⟩

noncomputable def tTup (t : TA) : TE := fun σ H Q => t σ H fun xs H1 => xs.length ≤ sizeLine ∧ ∀ p, H1 p = none → Q (.ref p) (upd H1 p (.tup xs))
noncomputable def tLst (t : TA) : TE := fun σ H Q => t σ H fun xs H1 => xs.length ≤ sizeLine ∧ ∀ p, H1 p = none → Q (.ref p) (upd H1 p (.lst xs))
theorem pe_tup {x1} (h : PA X es t) : PE X (.Tuple es x1 pos) (tTup t) := by
  intro pins s σ H Q I hq
  refine wpAny_Tuple_spliced (thn (h pos pins s σ H _ I hq) fun us s1 ⟨xs, H1, I1, r, z, q⟩ => ⟨by rw [← r.length]; exact z, ?_⟩)
  have hf : H1 s1.heap.objs.size = none := I1.hok.fresh (Nat.le_refl _)
  refine ⟨.ref s1.heap.objs.size, upd H1 s1.heap.objs.size (.tup xs), I1.laid (t' := s1.toks) (fun b u e => Heap.get?_push_of_some _ e) (Nat.le_refl _) ?_, rfl, q _ hf⟩
  exact ⟨z, us, r, ⟨_, Heap.get?_push_size _ rfl, rfl, _, rfl⟩⟩
theorem pe_lst (h : PA X es t) : PE X (.List es pos) (tLst t) := by
  intro pins s σ H Q I hq
  refine wpAny_List_spliced (thn (h pos pins s σ H _ I hq) fun us s1 ⟨xs, H1, I1, r, z, q⟩ => ⟨by rw [← r.length]; exact z, ?_⟩)
  have hf : H1 s1.heap.objs.size = none := I1.hok.fresh (Nat.le_refl _)
  refine ⟨.ref s1.heap.objs.size, upd H1 s1.heap.objs.size (.lst xs), I1.laid (t' := s1.toks) (fun b u e => Heap.get?_push_of_some _ e) (Nat.le_refl _) ?_, rfl, q _ hf⟩
  exact ⟨z, us, 0, r, Heap.get?_push_size _ rfl⟩
end

noncomputable abbrev Sp := List V → Hp → VK → XK → Prop
noncomputable abbrev CXT := List Env → Hp → Shared → XK → Value → Shared → Prop

set_option genInjectivity false in
structure Env0 (P : Program) (w : World) (K : PySem.W.Frag) (mg : Str → Option Value) (base : Heap) (A : Around) (outer : List Env) (s : Shared) (H : Hp) : Prop where
  frames : A.frames = some outer
  mod : Mod K mg base
  bs : ∀ b o, base.get? b = some o → s.heap.get? b = some o ∧ H b = none
  bsz : base.objs.size ≤ s.heap.objs.size
  funs : s.heap.FunFrames base outer
  frf : ∀ b ∈ frs outer, H b = none
  hok : HOk P w H s.heap
  bare : AllBare s.gens
noncomputable def CE (outer : List Env) (P : Program) (w : World) (H : Hp) (s : Shared) (Q : VK) (u : Value) (s' : Shared) : Prop :=
  ∃ v H', s'.os = s.os ∧ AllBare s'.gens ∧ Un (frs outer) [] H H' s.heap s'.heap ∧ HOk P w H' s'.heap ∧ RelV v u ∧ Q v H'
noncomputable def CR (CX : CXT) (outer : List Env) (P : Program) (w : World) (H : Hp) (s : Shared) (Q : VK) (E : XK) (r : Result) (s' : Shared) : Prop :=
  match r with
  | .ok (.ret u) => CE outer P w H s Q u s'
  | .ok _ => False
  | .error e => CX outer H s E e s'
set_option genInjectivity false in
structure FnOk (P : Program) (w : World) (K : PySem.W.Frag) (mg : Str → Option Value) (base : Heap) (CX : CXT) (k : Nat) (f : Addr) (fd : FuncData) (ps : List Str) (sp : Sp) : Prop where
  len : ∀ vs H Q E, sp vs H Q E → vs.length = ps.length
  run : ∀ (A : Around) (outer : List Env) (s : Shared) (H : Hp) (args : Args) (us : List Value) (vs : List V) (Q : VK) (E : XK), Room k A → Env0 P w K mg base A outer s H → BindsTo s fd args (ps.zip us) → Vals vs us → sp vs H Q E →
    codeAny (model P w) A (.call (.ref f) args) (CR CX outer P w H s Q E) s
section
variable {X : Cx} {pins : List (Addr × Obj)} {σ : St} {H : Hp} {s s' : Shared}
theorem Inv.env0 (I : Inv X pins σ H s) : Env0 X.prog X.w X.K X.mg X.base X.A X.stack s H :=
  ⟨I.ok.frames, I.ok.mod, I.bs, Nat.le_trans I.ok.bsz I.sz, I.stack, I.stkFree, I.hok, I.bare⟩
theorem Inv.after {Q : VK} {u : Value} (I : Inv X pins σ H s) (h : CE X.stack X.prog X.w H s Q u s') : EP X pins σ Q u s' := by
  obtain ⟨v, H', os, bare, un, hok, r, q⟩ := h
  obtain ⟨hh, g, d, t, os'⟩ := s'
  obtain rfl : os' = s.os := os
  exact ⟨v, H', I.call (h' := hh) (g' := g) (d' := d) (t' := t) (ch := []) un hok bare (fun b z => absurd z (by simp)), r, q⟩
end

noncomputable def tCall (sp : Sp) (dvs : List V) (E : XK) (t : TA) : TE := fun σ H Q => t σ H fun vs H1 => sp (vs ++ dvs) H1 Q E
noncomputable def Binds (K : PySem.W.Frag) (fd : FuncData) (ps : List Str) (ds : List Value) : Prop :=
  ∀ (s : Shared) (us : List Value), K.In s.heap → (us ++ ds).length = ps.length → BindsTo s fd ⟨us, []⟩ (ps.zip (us ++ ds))
theorem Binds.all {K : PySem.W.Frag} {fd : FuncData} {ps : List Str} (h : ∀ us : List Value, us.length = ps.length → bindArgs fd ⟨us, []⟩ = pure (ps.zip us)) : Binds K fd ps [] := fun s us _ hl => by
  rw [List.append_nil] at hl ⊢
  exact .of_eq (h us hl)

noncomputable def Passes (CX : CXT) (X : Cx) (E : XK) : Prop := ∀ (pins : List (Addr × Obj)) (σ : St) (H : Hp) (s : Shared) (e : Value) (s' : Shared), Inv X pins σ H s → CX X.stack H s E e s' → X.xe e s'

section
variable {X : Cx} {CX : CXT} {k : Nat} {f C : Addr} {fd : FuncData} {ps : List Str} {sp : Sp} {dvs : List V} {ds : List Value} {E : XK} {x m : Str} {p pos apos : Pos} {e o : Expr} {es : List Expr} {ta : TE} {t : TA}

theorem run_fn {pins : List (Addr × Obj)} {σ : St} {H : Hp} {s : Shared} {Q : VK} {us : List Value} {vs : List V} (F : FnOk X.prog X.w X.K X.mg X.base CX k f fd ps sp) (hr : Room k X.A) (hb : Binds X.K fd ps ds) (hd : Vals dvs ds) (hx : Passes CX X E)
    (I : Inv X pins σ H s) (r : Vals vs us) (h : sp (vs ++ dvs) H Q E) : wpAny (model X.prog X.w) X.A (call (.ref f) us) (EP X pins σ Q) X.xe s := by
  have r2 : Vals (vs ++ dvs) (us ++ ds) := r.append hd
  have hl : (us ++ ds).length = ps.length := by rw [← r2.length]; exact F.len _ _ _ _ h
  refine wpAny_call (codeAny_mono (F.run X.A X.stack s H ⟨us, []⟩ (us ++ ds) (vs ++ dvs) Q E hr I.env0 (hb s us I.kIn hl) r2 h) fun r s' hq => ?_)
  cases r with
  | error e => exact hx pins σ H s e s' I hq
  | ok fl =>
    cases fl with
    | ret u => exact I.after hq
    | next => exact False.elim hq
    | brk => exact False.elim hq
    | cont => exact False.elim hq

theorem pe_call (F : FnOk X.prog X.w X.K X.mg X.base CX k f fd ps sp) (hr : Room k X.A) (hg : Gl X x) (hm : X.mg x = some (.ref f)) (hk : PySem.W.keepIn X.K (.ref f) = true) (hb : Binds X.K fd ps ds) (hd : Vals dvs ds) (hx : Passes CX X E)
    (ha : PA X (e :: es) t) (hdb : (x == ("__debug__" : Str)) = false := by decide) (he : starEach (e :: es) X.env = (false, eval e X.env) :: starEach es X.env := by rfl) (hpl : (backTo pos (starEach es X.env)).any (·.1) = false := by rfl) :
    PE X (.Call (.Name x p) (e :: es) [] pos) (tCall sp dvs E t) := by
  intro pins s σ H Q I h
  refine wpAny_Call_Name_kw (ld_glob I hg hm ?_ hdb)
  refine PySem.W.callWith_K (h₀ := X.base) I.ok.mod.kin hk (thn (ha pos pins s σ H _ I h) fun us s1 ⟨vs, H1, I1, r, q⟩ => ⟨I1.kIn, ?_⟩) he hpl
  exact run_fn F hr hb hd hx I1 r q
end

section
variable {X : Cx} {CX : CXT} {k : Nat} {f C : Addr} {fd : FuncData} {ps ks : List Str} {sp : Sp} {E : XK} {x m : Str} {p pos apos kpos : Pos} {e o : Expr} {es : List Expr} {kws : List Keyword} {te ta : TE} {t tk : TA} {nm : Option Str}
variable {g : List Value → List Value → List Value} {gV : List V → List V → List V}
end

set_option genInjectivity false in
structure FnScope (N P : List Str) (sc : Scope) : Prop where
  kind : sc.kind = .function
  co : sc.isCoroutine = false
  gen : sc.isGenerator = false
  nd : N.Nodup
  pre : N.take P.length = P
  par : ∀ x ∈ P, sc.names.lookup x = some .local ∨ sc.names.lookup x = some .cell
  nofree : ∀ y ∈ sc.names, y.2 ≠ .free

theorem bindL_out {kindOf : Str → Option NameKind} {x : Str} : ∀ {binds : List (Str × Value)} {m : Str → Option Value}, (∀ v, (x, v) ∉ binds) → bindL kindOf binds m x = m x
  | [], _, _ => rfl
  | (n, v) :: r, m, h => by
    unfold bindL
    rw [bindL_out fun w hw => h w (List.mem_cons_of_mem _ hw)]
    split
    · have : x ≠ n := by rintro rfl; exact h v List.mem_cons_self
      simp [this]
    · rfl
theorem bindC_out {kindOf : Str → Option NameKind} {x : Str} : ∀ {binds : List (Str × Value)} {m : Str → Option Value}, (∀ v, (x, v) ∉ binds) → bindC kindOf binds m x = m x
  | [], _, _ => rfl
  | (n, v) :: r, m, h => by
    unfold bindC
    rw [bindC_out fun w hw => h w (List.mem_cons_of_mem _ hw)]
    split
    · rfl
    · have : x ≠ n := by rintro rfl; exact h v List.mem_cons_self
      simp [this]
theorem bindL_get {kindOf : Str → Option NameKind} {x : Str} {v : Value} : ∀ {P : List Str} {vs : List Value} {i : Nat} {m : Str → Option Value}, P.Nodup → P[i]? = some x → vs[i]? = some v → kindOf x = some .local →
    bindL kindOf (P.zip vs) m x = some v
  | [], _, _, _, _, h, _, _ => by simp at h
  | _ :: _, [], _, _, _, _, h, _ => by simp at h
  | p :: P, w :: vs, 0, m, nd, h1, h2, hk => by
    simp at h1 h2; subst h1; subst h2
    show bindL kindOf ((p, w) :: P.zip vs) m p = _
    unfold bindL
    rw [bindL_out fun v hv => (List.nodup_cons.mp nd).1 (List.of_mem_zip hv).1, if_pos hk]
    simp
  | p :: P, w :: vs, i + 1, m, nd, h1, h2, hk => by
    show bindL kindOf ((p, w) :: P.zip vs) m x = _
    unfold bindL
    exact bindL_get (i := i) (List.nodup_cons.mp nd).2 (by simpa using h1) (by simpa using h2) hk
theorem bindC_get {kindOf : Str → Option NameKind} {x : Str} {v : Value} : ∀ {P : List Str} {vs : List Value} {i : Nat} {m : Str → Option Value}, P.Nodup → P[i]? = some x → vs[i]? = some v → kindOf x ≠ some .local →
    bindC kindOf (P.zip vs) m x = some v
  | [], _, _, _, _, h, _, _ => by simp at h
  | _ :: _, [], _, _, _, _, h, _ => by simp at h
  | p :: P, w :: vs, 0, m, nd, h1, h2, hk => by
    simp at h1 h2; subst h1; subst h2
    show bindC kindOf ((p, w) :: P.zip vs) m p = _
    unfold bindC
    rw [bindC_out fun v hv => (List.nodup_cons.mp nd).1 (List.of_mem_zip hv).1, if_neg hk]
    simp
  | p :: P, w :: vs, i + 1, m, nd, h1, h2, hk => by
    show bindC kindOf ((p, w) :: P.zip vs) m x = _
    unfold bindC
    exact bindC_get (i := i) (List.nodup_cons.mp nd).2 (by simpa using h1) (by simpa using h2) hk

noncomputable def start (N : List Str) (vs : List V) : St := vs.map some ++ List.replicate (N.length - vs.length) none

noncomputable def cxOf (CX : CXT) (P : Program) (w : World) (K : PySem.W.Frag) (mg : Str → Option Value) (base : Heap) (N : List Str) (qual : Str) (scope : Scope) (f : Addr) (cd : Value) (A : Around) (outer : List Env) (s : Shared) (H : Hp) (E : XK) : Cx where
  prog := P
  w := w
  K := K
  mg := mg
  base := base
  A := A.deeper (envOfC qual scope s.heap.objs.size f cd)
  N := N
  s₀ := s
  H₀ := H
  env := envOfC qual scope s.heap.objs.size f cd
  outer := outer
  stack := envOfC qual scope s.heap.objs.size f cd :: outer
  ex := []
  calm := true
  fn := fun _ => true
  pn := []
  xe := fun e s' => wpAny (model P w) (A.deeper (envOfC qual scope s.heap.objs.size f cd)) (leaving (envOfC qual scope s.heap.objs.size f cd) e) (fun _ s'' => CX outer H s E e s'') (fun e' s'' => CX outer H s E e' s'') s'

theorem cell_has {sc : Scope} {n : Nat} {x : Str} (h : sc.names.lookup x = some .cell) : ∃ c, (cellsFrom n sc.names []).lookup x = some c := by
  have q := PySem.W.cellsFrom_some sc.names n [] (.inl h)
  exact Option.isSome_iff_exists.mp q

theorem inv_start {CX : CXT} {P : Program} {w : World} {K : PySem.W.Frag} {mg : Str → Option Value} {base : Heap} {N ps : List Str} {qual : Str} {scope : Scope} {f : Addr} {cd : Value} {A : Around} {outer : List Env} {s s1 : Shared} {H : Hp} {E : XK} {us : List Value} {vs : List V}
    (S : FnScope N ps scope) (hd : A.handled = none) (e0 : Env0 P w K mg base A outer s H) (hl : vs.length = ps.length) (r : Vals vs us)
    (x : InCallC s s.heap.objs.size (bindL (envOfC qual scope s.heap.objs.size f cd).kindOf (ps.zip us) fun _ => none) (cellsFrom (s.heap.objs.size + 1) scope.names []) (bindC (envOfC qual scope s.heap.objs.size f cd).kindOf (ps.zip us) fun _ => none) s1) :
    Inv (cxOf CX P w K mg base N qual scope f cd A outer s H E) [] (start N vs) H s1 := by
  have hpl : ps.length ≤ N.length := by have := congrArg List.length S.pre; rw [List.length_take] at this; (first | lia | omega)
  obtain ⟨h1, tk, rfl, hk⟩ := x.done
  have noA : ∀ b : Addr, b ∉ (cxOf CX P w K mg base N qual scope f cd A outer s H E).ex := fun b z => absurd (show b ∈ ([] : List Addr) from z) (by simp)
  refine ⟨⟨e0.mod, S.kind, rfl, rfl, Nat.le_refl _, fun y z c h1 h2 => ?_, fun y hy => ?_, fun y c _ h => ?_, fun _ => hd, Around.frames_deeper e0.frames, .inr ⟨rfl, rfl⟩, fun b z => absurd z (noA b), e0.bs, e0.bsz, fun b _ _ => noA b, fun b z => absurd z (noA b), e0.funs, e0.frf⟩,
    rfl, e0.bare, Un.kept hk, ⟨_, x.toInCall.ns, fun i y v h1 h2 h3 => ?_⟩, fun y c h => ⟨_, x.cell y c h⟩, e0.hok.fresh (Nat.le_refl _), fun y c h => ?_, fun p hp => absurd (show p ∈ ([] : List (Addr × Obj)) from hp) (by simp), e0.hok.kept hk, ?_⟩
  · exact name_of_addr x.apart (PySem.mem_of_lookup h1) (PySem.mem_of_lookup h2)
  · have hy : scope.names.lookup y = some .cell ∨ scope.names.lookup y = some .free := hy
    rcases hy with hy | hy
    · exact cell_has hy
    · exact absurd rfl (S.nofree _ (PySem.mem_of_lookup hy))
  · exact Nat.le_of_lt (x.above y c (PySem.mem_of_lookup h))
  · have hi : i < vs.length := by
      unfold start at h2
      by_cases hi : i < vs.length
      · exact hi
      · rw [List.getElem?_append_right (by simpa using hi)] at h2
        rw [List.getElem?_replicate] at h2
        split at h2 <;> cases h2
    have ha : vs[i]? = some v := by
      unfold start at h2
      rw [List.getElem?_append_left (by simpa using hi), List.getElem?_map] at h2
      cases e : vs[i]? with
      | none => rw [e] at h2; cases h2
      | some a => rw [e] at h2; cases h2; rfl
    obtain ⟨u, hu, rv⟩ := r.get ha
    have hp : ps[i]? = some y := by
      rw [← S.pre, List.getElem?_take_of_lt (by (first | lia | omega))]; exact h1
    have ndP : ps.Nodup := by rw [← S.pre]; exact S.nd.sublist (List.take_sublist _ _)
    refine ⟨u, rv, ?_⟩
    rcases S.par y (List.mem_of_getElem? hp) with k | k
    · exact .inl ⟨k, bindL_get ndP hp hu k⟩
    · obtain ⟨c, e⟩ := cell_has (n := s.heap.objs.size + 1) k
      refine .inr ⟨.inl k, c, e, ?_⟩
      have q := x.cell y c e
      rw [bindC_get ndP hp hu (by show scope.names.lookup y ≠ _; rw [k]; decide)] at q
      exact q
  · exact e0.hok.fresh (Nat.le_of_lt (x.above y c (PySem.mem_of_lookup h)))
  · unfold start
    show _ = N.length
    rw [List.length_append, List.length_map, List.length_replicate]
    (first | lia | omega)

theorem fn_of {CX : CXT} {P : Program} {w : World} {K : PySem.W.Frag} {mg : Str → Option Value} {base : Heap} {k : Nat} {f : Addr} {name qual : Str} {params : Arguments} {body : List Stmt} {scope : Scope} {dV kV doc pm cdv ct oc : Value} {an od : Option Addr}
    {osl : Array (Option Value)} {N ps : List Str} {sp : Sp} (lk : K.lookup f = some ⟨oc, od, .func (PySem.W.fnOf name qual params body scope dV kV doc pm an cdv ct), osl⟩) (hcd : PySem.W.codeIn K cdv qual = true) (S : FnScope N ps scope)
    (len : ∀ vs H Q E, sp vs H Q E → vs.length = ps.length)
    (hbody : ∀ (A : Around) (outer : List Env) (s : Shared) (H : Hp) (vs : List V) (Q : VK) (E : XK), Room k (A.deeper (envOfC qual scope s.heap.objs.size f cdv)) → sp vs H Q E →
      ∃ t, PSs (cxOf CX P w K mg base N qual scope f cdv A outer s H E) body t ∧ t { nx := fun _ H' => Q .non H', rt := Q } (start N vs) H) :
    FnOk P w K mg base CX (k + 1) f (PySem.W.fnOf name qual params body scope dV kV doc pm an cdv ct) ps sp := by
  refine ⟨len, fun A outer s H args us vs Q E hr e0 hb r hsp => ?_⟩
  have hl := len _ _ _ _ hsp
  have KX : K.In s.heap := e0.mod.kin.keeps fun b o e => (e0.bs b o e).1
  have lim : s.heap.NoLimit := e0.mod.nolimit.keeps fun b o e => (e0.bs b o e).1
  have hkind : ∀ y ∈ ps.zip us, scope.names.lookup y.1 = some .local ∨ (scope.names.lookup y.1 = some .cell ∧ ((cellsFrom (s.heap.objs.size + 1) scope.names []).lookup y.1).isSome = true) := fun ⟨n, v⟩ hy => by
    rcases S.par n (List.of_mem_zip hy).1 with q | q
    · exact .inl q
    · exact .inr ⟨q, PySem.W.cellsFrom_some _ _ _ (.inl q)⟩
  refine codeAny_call_function hr.depth (KX _ _ lk) rfl S.co S.gen rfl (PySem.W.codeRec_of KX hcd) (hb _ _ _ _ ?_)
  refine wpAny_newFunctionEnv_cells S.kind hkind fun env he s1 x => ?_
  subst he
  refine ⟨lim.keeps x.toInCall.keep, codeAny_func ?_⟩
  obtain ⟨t, ht, hq⟩ := hbody A outer s H vs Q E (hr.deeper _) hsp
  have I : Inv (cxOf CX P w K mg base N qual scope f cdv A outer s H E) [] (start N vs) H s1 := inv_start S hr.hd e0 hl r x
  refine wpAny_mono (ht [] s1 (start N vs) H _ I hq) (fun fl s' hs => ?_) fun e s' hs => hs
  have fin : ∀ {σ' : St} {H' : Hp} {v : V} {u : Value}, Inv (cxOf CX P w K mg base N qual scope f cdv A outer s H E) [] σ' H' s' → RelV v u → Q v H' → CE outer P w H s Q u s' :=
    fun {σ' H' v u} J rv q => ⟨v, H', J.os, J.bare, J.base, J.hok, rv, q⟩
  cases fl with
  | ret u =>
    obtain ⟨v, σ', H', J, rv, q⟩ := hs
    exact fin J rv q
  | next =>
    obtain ⟨σ', H', J, q⟩ := hs
    exact fin (v := V.non) (u := Value.none) J rfl q
  | brk =>
    obtain ⟨_, _, _, q⟩ := hs
    exact False.elim q
  | cont =>
    obtain ⟨_, _, _, q⟩ := hs
    exact False.elim q
end L2

namespace L2
open PySem PySem.Spec PyProof.Rows
section
variable {X : Cx} {x : Str} {p pos : Pos} {e : Expr} {es : List Expr} {t : TA} {id T : String} {r : List V → Hp → VK → Prop}

noncomputable def tCB (r : List V → Hp → VK → Prop) (t : TA) : TE := fun σ H Q => t σ H fun vs H1 => r vs H1 Q
theorem pe_callB (hc : CallR X (.builtin id) r) (hg : Gl X x) (hm : X.mg x = none) (hv : bootBuiltins x = some (.builtin id)) (ha : PA X (e :: es) t) (hn : x ≠ "__name__" := by decide) (hdb : (x == ("__debug__" : Str)) = false := by decide)
    (he : starEach (e :: es) X.env = (false, eval e X.env) :: starEach es X.env := by rfl) (hpl : (backTo pos (starEach es X.env)).any (·.1) = false := by rfl) : PE X (.Call (.Name x p) (e :: es) [] pos) (tCB r t) := by
  intro pins s σ H Q I h
  refine wpAny_Call_Name_kw (ld_blt I hg hm hv ?_ hn hdb)
  exact PyProof.Rows.callWith_builtin1 (thn (ha pos pins s σ H _ I h) fun us s1 ⟨vs, H1, I1, r1, q1⟩ => hc pins s1 σ H1 vs us Q I1 r1 q1) he hpl
theorem pe_callTy (hc : CallR X (.type T) r) (hg : Gl X x) (hm : X.mg x = none) (hv : bootBuiltins x = some (.type T)) (ha : PA X (e :: es) t) (hn : x ≠ "__name__" := by decide) (hdb : (x == ("__debug__" : Str)) = false := by decide)
    (he : starEach (e :: es) X.env = (false, eval e X.env) :: starEach es X.env := by rfl) (hpl : (backTo pos (starEach es X.env)).any (·.1) = false := by rfl) : PE X (.Call (.Name x p) (e :: es) [] pos) (tCB r t) := by
  intro pins s σ H Q I h
  refine wpAny_Call_Name_kw (ld_blt I hg hm hv ?_ hn hdb)
  exact PyProof.Rows.callWith_type1 (thn (ha pos pins s σ H _ I h) fun us s1 ⟨vs, H1, I1, r1, q1⟩ => hc pins s1 σ H1 vs us Q I1 r1 q1) he hpl
end
end L2

namespace HT
open PySem PyProof.Rows

section
open PySem.SeqAt
open PySem.AutoSeq1 (wpAny_loadPart')
open PySem.MeetsSeq PySem.MeetsSeq2 PySem.MeetsSeq3

end

section
variable {prog : Program} {w : World} {A : Around} {E : Value → Shared → Prop} {s : Shared}

noncomputable def sIx (n d : Nat) : Option Int → Nat
  | none => d
  | some v => if v < 0 then (v + (n : Int)).toNat else min v.toNat n
theorem sIx_none (n d : Nat) : sIx n d none = d := rfl
theorem sIx_nat (n d k : Nat) : sIx n d (some (k : Int)) = min k n := by
  show (if (k : Int) < 0 then ((k : Int) + (n : Int)).toNat else min (k : Int).toNat n) = min k n
  rw [if_neg (by (first | lia | omega)), Int.toNat_natCast]
theorem sIx_le (n d : Nat) (hd : d ≤ n) (o : Option Int) : sIx n d o ≤ n := by
  cases o with
  | none => exact hd
  | some v =>
    show (if v < 0 then (v + (n : Int)).toNat else min v.toNat n) ≤ n
    by_cases hv : v < 0
    · rw [if_pos hv]; (first | lia | omega)
    · rw [if_neg hv]; exact Nat.min_le_right _ _
end
end HT

namespace L2
open PySem PySem.Spec PyProof.Rows

noncomputable abbrev TO := St → Hp → (Option Int → Hp → Prop) → Prop
noncomputable def PO (X : Cx) (e : Option Expr) (t : TO) : Prop :=
  ∀ (pins : List (Addr × Obj)) (s : Shared) (σ : St) (H : Hp) (Q : Option Int → Hp → Prop), Inv X pins σ H s → t σ H Q →
    wpAny (model X.prog X.w) X.A (evalPart e X.env) (fun u s' => ∃ o H', Inv X pins σ H' s' ∧ IsPart u o ∧ Q o H') X.xe s
noncomputable def tNoPart : TO := fun _ H Q => Q none H
noncomputable def tPart (t : TE) : TO := fun σ H Q => t σ H fun x H1 => ∃ i, x = .int i ∧ Q (some i) H1

theorem intsAre_of {ns : List Int} : ∀ {us : List Value}, Vals (ns.map V.int) us → IntsAre us ns := by
  induction ns with
  | nil => intro us r; rw [List.map_nil] at r; cases r; exact .nil
  | cons n ns ih =>
    intro us r
    rw [List.map_cons] at r
    cases r with
    | cons r1 r2 =>
      obtain ⟨t, e⟩ := r1
      subst e
      exact .cons n t (ih r2)

section
variable {X : Cx} {e : Expr} {te : TE} {lo hi : Option Expr} {tl th : TO} {pos p2 : Pos}

theorem po_none : PO X none tNoPart := by
  intro pins s σ H Q I h
  rw [evalPart_none]
  exact wpAny_pure ⟨none, H, I, .none, h⟩
theorem po_some (h : PE X e te) : PO X (some e) (tPart te) := by
  intro pins s σ H Q I hw
  rw [evalPart_some]
  refine thn (h pins s σ H _ I hw) fun u s1 ⟨x, H1, I1, r1, q1⟩ => ?_
  obtain ⟨i, rfl, q⟩ := q1
  obtain ⟨t, rfl⟩ := r1
  exact ⟨some i, H1, I1, .int i t, q⟩

noncomputable def SlR (X : Cx) (r : V → Option Int → Option Int → Hp → VK → Prop) : Prop :=
  ∀ (pins : List (Addr × Obj)) (s : Shared) (σ : St) (H : Hp) (x : V) (v vl vu : Value) (lo hi : Option Int) (sl : Addr) (Q : VK), Inv X pins σ H s → RelV x v → s.heap.IsSliceOf sl vl vu .none → IsPart vl lo → IsPart vu hi → r x lo hi H Q →
    ∃ T id, typeLookup (.type T) "__getitem__" = pure (some (.builtin id)) ∧ s.TypeIs v T ∧ wpAny (model X.prog X.w) X.A (getItem v (.ref sl)) (EP X pins σ Q) X.xe s
noncomputable def tSl (r : V → Option Int → Option Int → Hp → VK → Prop) (te : TE) (tl th : TO) : TE := fun σ H Q => te σ H fun x H1 => tl σ H1 fun l H2 => th σ H2 fun u H3 => r x l u H3 Q
theorem pe_slice {r : V → Option Int → Option Int → Hp → VK → Prop} (hr : SlR X r) (he : PE X e te) (hl : PO X lo tl) (hu : PO X hi th) : PE X (.Subscript e (.Slice lo hi none p2) pos) (tSl r te tl th) := by
  intro pins s σ H Q I h
  refine Subscript_ (thn (he pins s σ H _ I h) fun v s1 ⟨x, H1, I1, r1, q1⟩ => ?_)
  refine wpAny_Slice (thn (hl pins s1 σ H1 _ I1 q1) fun vl s2 ⟨l, H2, I2, pl, q2⟩ => thn (hu pins s2 σ H2 _ I2 q2) fun vu s3 ⟨u, H3, I3, pu, q3⟩ => ?_)
  rw [evalPart_none]
  refine wpAny_pure ?_
  have I4 : Inv X pins σ H3 { s3 with heap := s3.heap.push { cls := .type "slice", data := .fields #[vl, vu, .none] } } := I3.kept (t' := s3.toks) fun b ob q => Heap.get?_push_of_some _ q
  obtain ⟨T, id, hT, ht, hg⟩ := hr pins { s3 with heap := s3.heap.push { cls := .type "slice", data := .fields #[vl, vu, .none] } } σ H3 x v vl vu l u s3.heap.objs.size Q I4 r1 (Heap.IsSliceOf.new ..) pl pu q3
  show wpAny (model X.prog X.w) X.A (subscriptTail e (.Slice lo hi none p2) v (.ref s3.heap.objs.size)) (EP X pins σ Q) X.xe { s3 with heap := s3.heap.push { cls := .type "slice", data := .fields #[vl, vu, .none] } }
  exact tail_any (ops := [.ref s3.heap.objs.size, v]) ht hT hg (by with_unfolding_all rfl)

noncomputable def cutV (xs : List V) (lo hi : Option Int) : List V := (xs.drop (HT.sIx xs.length 0 lo)).take (HT.sIx xs.length xs.length hi - HT.sIx xs.length 0 lo)
theorem cutV_length (xs : List V) (lo hi : Option Int) : (cutV xs lo hi).length ≤ xs.length := by
  unfold cutV
  rw [List.length_take, List.length_drop]
  (first | lia | omega)
end
end L2

namespace L2
open PySem PySem.Spec PyProof.Rows

noncomputable def ixN (n : Nat) (i : Int) : Option Nat := if 0 ≤ i then (if i < n then some i.toNat else none) else if -(n : Int) ≤ i then some (i + n).toNat else none
noncomputable def atI {α : Type} (xs : List α) (i : Int) : Option α := (ixN xs.length i).bind fun j => xs[j]?
theorem ixN_seq {n : Nat} {i : Int} {j : Nat} (h : ixN n i = some j) : seqIndex? i n = some j ∧ j < n ∧ -(n : Int) ≤ i ∧ i < n := by
  unfold ixN at h
  by_cases h0 : 0 ≤ i
  · rw [if_pos h0] at h
    by_cases h1 : i < n
    · rw [if_pos h1] at h
      have e : i.toNat = j := Option.some.inj h
      exact ⟨by rw [seqIndex_of h0 h1, e], by (first | lia | omega), by (first | lia | omega), h1⟩
    · rw [if_neg h1] at h; cases h
  · rw [if_neg h0] at h
    by_cases h1 : -(n : Int) ≤ i
    · rw [if_pos h1] at h
      have e : (i + n).toNat = j := Option.some.inj h
      exact ⟨by rw [seqIndex_neg (by (first | lia | omega)) h1, e], by (first | lia | omega), h1, by (first | lia | omega)⟩
    · rw [if_neg h1] at h; cases h
theorem atI_get {α : Type} {xs : List α} {i : Int} {v : α} (h : atI xs i = some v) : ∃ j, seqIndex? i xs.length = some j ∧ xs[j]? = some v ∧ j < xs.length ∧ -(xs.length : Int) ≤ i ∧ i < xs.length := by
  unfold atI at h
  cases e : ixN xs.length i with
  | none => rw [e] at h; cases h
  | some j =>
    rw [e] at h
    obtain ⟨h1, h2, h3, h4⟩ := ixN_seq e
    exact ⟨j, h1, h, h2, h3, h4⟩
theorem atI_nat {α : Type} {xs : List α} {j : Nat} {v : α} (h : xs[j]? = some v) : atI xs (j : Int) = some v := by
  have hj : j < xs.length := (List.getElem?_eq_some_iff.mp h).1
  have e : ixN xs.length (j : Int) = some j := by
    unfold ixN
    rw [if_pos (by (first | lia | omega)), if_pos (by (first | lia | omega))]; simp
  unfold atI; rw [e]; exact h
noncomputable def PlainIx (b : Expr) : Prop := ∀ o i, subscripted b false o i = operate [o, i] (getItem o i)
noncomputable def IxR (X : Cx) (r : R2) : Prop :=
  ∀ (value slice : Expr) (pins : List (Addr × Obj)) (s : Shared) (σ : St) (H : Hp) (x y : V) (v u : Value) (Q : VK), Inv X pins σ H s → RelV x v → RelV y u → r x y H Q →
    subscripted slice false v u = operate [v, u] (getItem v u) → wpAny (model X.prog X.w) X.A (subscriptTail value slice v u) (EP X pins σ Q) X.xe s
noncomputable def MtR (X : Cx) (id : String) (r : V → List V → Hp → VK → Prop) : Prop :=
  ∀ (pins : List (Addr × Obj)) (s : Shared) (σ : St) (H : Hp) (x : V) (xs : List V) (v : Value) (us : List Value) (Q : VK), Inv X pins σ H s → RelV x v → Vals xs us → r x xs H Q →
    wpAny (model X.prog X.w) X.A (call (.builtin id) (v :: us)) (EP X pins σ Q) X.xe s
section
variable {X : Cx} {a b : Expr} {ta tb : TE} {pos : Pos}
theorem pe_ix {r : R2} (hr : IxR X r) (ha : PE X a ta) (hb : PE X b tb) (hs : PlainIx b) : PE X (.Subscript a b pos) (tOp r ta tb) := by
  intro pins s σ H Q I h
  exact Subscript_ (binT ha hb I h fun v u s2 x y H2 I2 rx ry q => hr a b pins s2 σ H2 x y v u Q I2 rx ry q (hs _ _))

noncomputable def rIxL (K : PySem.W.Frag) : R2 := fun x y H Q => ∃ p xs i v, x = .ref p ∧ y = .int i ∧ SqL K H p xs ∧ atI xs i = some v ∧ Q v H
noncomputable def rIxT (K : PySem.W.Frag) : R2 := fun x y H Q => ∃ p xs i v, x = .ref p ∧ y = .int i ∧ SqT K H p xs ∧ atI xs i = some v ∧ Q v H
noncomputable def rIxS : R2 := fun x y H Q => ∃ z i c, x = .str z ∧ y = .int i ∧ z.length ≤ sizeLine ∧ atI z.cps.toList i = some c ∧ Q (.str ⟨#[c]⟩) H
theorem ix_list : IxR X (rIxL X.K) := by
  intro value slice pins s σ H x y v u Q I rx ry h hs
  obtain ⟨p, xs, i, z, rfl, rfl, hq, he, q⟩ := h
  cases rx
  obtain ⟨t, rfl⟩ := ry
  obtain ⟨its, r, pl, hz⟩ := I.list hq
  obtain ⟨j, h1, h2, h3, h4, h5⟩ := atI_get he
  obtain ⟨w, ew, rw'⟩ := r.get h2
  have hl := r.length
  have hn := line63
  have fin : EP X pins σ Q w s := ⟨z, H, I, rw', q⟩
  by_cases h0 : 0 ≤ i
  · have hj : i.toNat = j := by
      rw [seqIndex_of h0 h5] at h1
      exact Option.some.inj h1
    exact item_listR pl.isList h0 (by (first | lia | omega)) (by rw [hj]; simpa using ew) fin hs
  · have hj : (i + (its.toArray.size : Int)).toNat = j := by
      rw [seqIndex_neg (by (first | lia | omega)) h4] at h1
      rw [List.size_toArray, ← hl]
      exact Option.some.inj h1
    exact subscriptTail_builtinR (x := w) pl.isList.typeIs slot_list_getitem.lookup
      (wpAny_getItem_list_neg (Q := fun r s' => r = w ∧ EP X pins σ Q r s') pl.isList (by (first | lia | omega)) (by rw [List.size_toArray] <;> (first | lia | omega)) (by (first | lia | omega)) (by rw [hj]; simpa using ew) ⟨rfl, fin⟩) hs
theorem ix_tup : IxR X (rIxT X.K) := by
  intro value slice pins s σ H x y v u Q I rx ry h hs
  obtain ⟨p, xs, i, z, rfl, rfl, hq, he, q⟩ := h
  cases rx
  obtain ⟨t, rfl⟩ := ry
  obtain ⟨its, r, pl, hz⟩ := I.tuple hq
  obtain ⟨j, h1, h2, h3, h4, h5⟩ := atI_get he
  obtain ⟨w, ew, rw'⟩ := r.get h2
  have hl := r.length
  have hn := line63
  have fin : EP X pins σ Q w s := ⟨z, H, I, rw', q⟩
  exact subscriptTail_builtinR (x := w) pl.typeIs slot_tuple_getitem.lookup
    (getItem_tuple (j := j) (Q := fun r s' => r = w ∧ EP X pins σ Q r s') pl (by (first | lia | omega)) (by (first | lia | omega)) (by rw [List.size_toArray, ← hl]; exact h1) (by simpa using ew) ⟨rfl, fin⟩) hs
theorem ix_str : IxR X rIxS := by
  intro value slice pins s σ H x y v u Q I rx ry h hs
  obtain ⟨z, i, c, rfl, rfl, hz, he, q⟩ := h
  obtain ⟨t, rfl⟩ := rx
  obtain ⟨t', rfl⟩ := ry
  obtain ⟨j, h1, h2, h3, h4, h5⟩ := atI_get he
  have hl : z.cps.toList.length = z.length := by simp [Str.length]
  rw [hl] at h1 h4 h5
  have hn := line63
  exact tail_any (typeIs_str s z t) slot_str_getitem.lookup (getItem_str (c := c) (by
    have e1 : decide (i < -(2 ^ 63 : Int)) = false := decide_eq_false (by (first | lia | omega))
    have e2 : decide (i ≥ 2 ^ 63) = false := decide_eq_false (by (first | lia | omega))
    rw [e1, e2, Bool.or_false]) (by rw [h1]; simpa using h2) ⟨.str ⟨#[c]⟩, H, I.tok _, ⟨_, rfl⟩, q⟩) hs
theorem slice_bounds (lo hi : Option Int) (n : Nat) : (sliceBounds lo hi none n).1 = ((HT.sIx n 0 lo : Nat) : Int) ∧ (sliceBounds lo hi none n).2.1 = ((HT.sIx n n hi : Nat) : Int) ∧ (sliceBounds lo hi none n).2.2 = 1 := by
  refine ⟨?_, ?_, rfl⟩
  · cases lo with
    | none => simp [sliceBounds, HT.sIx]
    | some i =>
      simp only [sliceBounds, HT.sIx, Option.getD_none, show (1 : Int) > 0 by decide, if_true]
      by_cases h : i < 0
      · simp only [h, if_true] <;> (first | lia | omega)
      · simp only [h, if_false] <;> (first | lia | omega)
  · cases hi with
    | none => simp [sliceBounds, HT.sIx]
    | some i =>
      simp only [sliceBounds, HT.sIx, Option.getD_none, show (1 : Int) > 0 by decide, if_true]
      by_cases h : i < 0
      · simp only [h, if_true] <;> (first | lia | omega)
      · simp only [h, if_false] <;> (first | lia | omega)
theorem slicePick_cut (its : List Value) (lo hi : Option Int) : slicePick its.toArray lo hi none = ((its.drop (HT.sIx its.length 0 lo)).take (HT.sIx its.length its.length hi - HT.sIx its.length 0 lo)).toArray := by
  obtain ⟨h1, h2, h3⟩ := slice_bounds lo hi its.toArray.size
  unfold slicePick
  rw [h1, h2, h3]
  simp only [sliceRange_one, pick_run, List.size_toArray] <;> rfl
noncomputable def rSlL (K : PySem.W.Frag) : V → Option Int → Option Int → Hp → VK → Prop := fun x lo hi H Q => ∃ a xs, x = .ref a ∧ SqL K H a xs ∧ ∀ p, H p = none → Q (.ref p) (upd H p (.lst (cutV xs lo hi)))
theorem sl_list : SlR X (rSlL X.K) := by
  intro pins s σ H x v vl vu lo hi sl Q I rx hs pl pu h
  obtain ⟨a, xs, rfl, hx, q⟩ := h
  cases rx
  obtain ⟨its, r, ht, hz⟩ := I.list hx
  have hlen := r.length
  refine ⟨"list", _, slot_list_getitem.lookup, ht.isList.typeIs, ?_⟩
  refine wpAny_getItem_list_slice ht.isList hs pl pu .none (by simp) ?_ (by rw [List.size_toArray] <;> (first | lia | omega))
  rw [slicePick_cut, ← hlen]
  refine ⟨.ref s.heap.objs.size, _, I.laid (t' := s.toks) (o := .lst (cutV xs lo hi)) (fun b ob q => Heap.get?_push_of_some _ q) (Nat.le_refl _) ?_, rfl, q _ (I.hok.fresh (Nat.le_refl _))⟩
  exact ⟨Nat.le_trans (cutV_length xs lo hi) hz, _, 0, (r.drop (HT.sIx xs.length 0 lo)).take (HT.sIx xs.length xs.length hi - HT.sIx xs.length 0 lo), Heap.get?_push_size _ rfl⟩

noncomputable def flatV : V → Bool
  | .non => true
  | .bl _ => true
  | .int _ => true
  | .str _ => true
  | _ => false
noncomputable def eqV : V → V → Bool
  | .non, .non => true
  | .bl a, .bl b => a == b
  | .bl a, .int b => (if a then 1 else 0) == b
  | .int a, .bl b => a == (if b then 1 else 0)
  | .int a, .int b => a == b
  | .str a, .str b => a == b
  | _, _ => false
theorem eqAt_V {A : Around} {s : Shared} {y x : V} {u v : Value} (ry : RelV y u) (rx : RelV x v) (fy : flatV y = true) (fx : flatV x = true) : SeqAt.EqAt A s u v (eqV y x) := by
  cases y with
  | non =>
    cases ry
    cases x with
    | non => cases rx; exact SeqAt.EqAt.same _
    | bl b => cases rx; exact SeqAt.EqAt.none_bool b
    | int b => obtain ⟨t, rfl⟩ := rx; exact SeqAt.EqAt.none_int b t
    | str b => obtain ⟨t, rfl⟩ := rx; exact SeqAt.EqAt.none_str b t
    | _ => exact absurd (show false = true from fx) Bool.false_ne_true
  | bl a =>
    cases ry
    cases x with
    | non => cases rx; exact SeqAt.EqAt.bool_none a
    | bl b => cases rx; exact SeqAt.EqAt.bool_bool a b
    | int b => obtain ⟨t, rfl⟩ := rx; exact SeqAt.EqAt.bool_int a b t
    | str b => obtain ⟨t, rfl⟩ := rx; exact SeqAt.EqAt.bool_str a b t
    | _ => exact absurd (show false = true from fx) Bool.false_ne_true
  | int a =>
    obtain ⟨t', rfl⟩ := ry
    cases x with
    | non => cases rx; exact SeqAt.EqAt.int_none a t'
    | bl b => cases rx; exact SeqAt.EqAt.int_bool a t' b
    | int b => obtain ⟨t, rfl⟩ := rx; exact SeqAt.EqAt.int_int a t' b t
    | str b => obtain ⟨t, rfl⟩ := rx; exact SeqAt.EqAt.int_str a t' b t
    | _ => exact absurd (show false = true from fx) Bool.false_ne_true
  | str a =>
    obtain ⟨t', rfl⟩ := ry
    cases x with
    | non => cases rx; exact SeqAt.EqAt.str_none a t'
    | bl b => cases rx; exact SeqAt.EqAt.str_bool a t' b
    | int b => obtain ⟨t, rfl⟩ := rx; exact SeqAt.EqAt.str_int a t' b t
    | str b => obtain ⟨t, rfl⟩ := rx; exact SeqAt.EqAt.str_str a t' b t
    | _ => exact absurd (show false = true from fx) Bool.false_ne_true
  | _ => exact absurd (show false = true from fy) Bool.false_ne_true
noncomputable def eqU (x : V) (u : Value) : Bool := match u with
  | .none => eqV .non x
  | .bool b => eqV (.bl b) x
  | .int i _ => eqV (.int i) x
  | .str z _ => eqV (.str z) x
  | _ => false
theorem eqU_of {x y : V} {u : Value} (r : RelV y u) (f : flatV y = true) : eqU x u = eqV y x := by
  cases y with
  | non => cases r; rfl
  | bl b => cases r; rfl
  | int i => obtain ⟨t, rfl⟩ := r; rfl
  | str z => obtain ⟨t, rfl⟩ := r; rfl
  | _ => exact absurd (show false = true from f) Bool.false_ne_true
theorem mem_eqAt {A : Around} {s : Shared} {x : V} {v : Value} (rx : RelV x v) (fx : flatV x = true) : ∀ {xs : List V} {us : List Value}, Vals xs us → xs.all flatV = true → ∀ u ∈ us, SeqAt.EqAt A s u v (eqU x u)
  | _, _, .nil, _ => fun u hu => by cases hu
  | y :: xs, u :: us, .cons r t, f => fun u' hu => by
    rw [List.all_cons, Bool.and_eq_true] at f
    rcases List.mem_cons.mp hu with rfl | hu
    · rw [eqU_of r f.1]; exact eqAt_V r rx f.1 fx
    · exact mem_eqAt rx fx t f.2 u' hu
theorem call_len_seq : CallR X (.builtin "len") (fun xs H Q => ∃ p ys, xs = [.ref p] ∧ (SqL X.K H p ys ∨ SqT X.K H p ys) ∧ Q (.int ys.length) H) := by
  intro pins s σ H xs us Q I r h
  obtain ⟨p, ys, rfl, hq, q⟩ := h
  obtain ⟨u, rfl, rx⟩ := vals1 r
  cases rx
  have hn := line63
  rcases hq with hq | hq
  · obtain ⟨its, r', pl, hz⟩ := I.list hq
    have hlen := r'.length
    exact Calls.call_len_list pl.isList (by simp only [List.size_toArray] <;> (first | lia | omega)) ⟨.int ys.length, H, I.tok _, ⟨s.toks + 1, by rw [List.size_toArray, hlen]⟩, q⟩
  · obtain ⟨its, r', pl, hz⟩ := I.tuple hq
    have hlen := r'.length
    exact len_tuple pl (by simp only [List.size_toArray] <;> (first | lia | omega)) ⟨.int ys.length, H, I.tok _, ⟨s.toks + 1, by rw [List.size_toArray, hlen]⟩, q⟩
theorem call_len_str : CallR X (.builtin "len") (fun xs H Q => ∃ z, xs = [.str z] ∧ z.length ≤ sizeLine ∧ Q (.int z.length) H) := by
  intro pins s σ H xs us Q I r h
  obtain ⟨z, rfl, hz, q⟩ := h
  obtain ⟨u, rfl, t, rfl⟩ := vals1 r
  have hn := line63
  exact len_str (by (first | lia | omega)) ⟨.int z.length, H, I.tok _, ⟨_, rfl⟩, q⟩
noncomputable def tyV (K : PySem.W.Frag) (T : String) (x : V) (H : Hp) : Prop := match x with
  | .str _ => T = "str"
  | .int _ => T = "int"
  | .ref p => (T = "list" ∧ ∃ xs, SqL K H p xs) ∨ (T = "tuple" ∧ ∃ o, K.lookup p = some o ∧ o.cls = .type "tuple" ∧ o.dict = none) ∨
      (T = "dict" ∧ ((∃ kvs, H p = some (.dK kvs)) ∨ ∃ kvs, H p = some (.dT kvs))) ∨ (T = "set" ∧ ∃ S n, H p = some (.set S n))
  | _ => False
theorem tyV_is {pins : List (Addr × Obj)} {σ : St} {H : Hp} {s : Shared} {T : String} {x : V} {v : Value} (I : Inv X pins σ H s) (r : RelV x v) (ty : tyV X.K T x H) :
    s.TypeIs v T ∧ ∀ a, v = .ref a → ∃ ob, s.heap.get? a = some ob ∧ ob.dict = none := by
  cases x with
  | str z =>
    obtain ⟨t, rfl⟩ := r
    cases (show T = "str" from ty)
    exact ⟨typeIs_str s z t, fun _ e => nomatch e⟩
  | int i =>
    obtain ⟨t, rfl⟩ := r
    cases (show T = "int" from ty)
    exact ⟨typeIs_int s i t, fun _ e => nomatch e⟩
  | ref p =>
    cases r
    rcases ty with ⟨rfl, xs, hq⟩ | ⟨rfl, o, hk, hc, hd⟩ | ⟨rfl, hk⟩ | ⟨rfl, S, n, hk⟩
    · obtain ⟨its, _, pl, _⟩ := I.list hq
      refine ⟨pl.isList.typeIs, fun a e => ?_⟩
      cases e
      obtain ⟨o, n, e, c, hd, _⟩ := pl
      exact ⟨o, e, hd⟩
    · refine ⟨⟨o, I.kIn p o hk, hc⟩, fun a e => ?_⟩
      cases e
      exact ⟨o, I.kIn _ o hk, hd⟩
    · have z : ∃ o, s.heap.get? p = some o ∧ o.ExactDict := by
        rcases hk with ⟨kvs, hk⟩ | ⟨kvs, hk⟩
        · obtain ⟨_, _, _, _, o, _, _, e, ex, _⟩ := I.hok p _ hk
          exact ⟨o, e, ex⟩
        · obtain ⟨_, _, _, _, o, _, _, e, ex, _⟩ := I.hok p _ hk
          exact ⟨o, e, ex⟩
      obtain ⟨o, e, ex⟩ := z
      refine ⟨⟨o, e, ex.1⟩, fun a e2 => ?_⟩
      cases e2
      exact ⟨o, e, ex.2.1⟩
    · obtain ⟨o, _, _, _, e, ex, _⟩ := I.hok p _ hk
      refine ⟨⟨o, e, ex.1⟩, fun a e2 => ?_⟩
      cases e2
      exact ⟨o, e, ex.2.1⟩
  | _ => exact False.elim ty
noncomputable def tBM (K : PySem.W.Frag) (T : String) (r : V → List V → Hp → VK → Prop) (to : TE) (t : TA) : TE := fun σ H Q => to σ H fun x H1 => tyV K T x H1 ∧ t σ H1 fun xs H2 => r x xs H2 Q
variable {o e : Expr} {es : List Expr} {to : TE} {t : TA} {name : Str} {apos cpos : Pos} {T id : String} {r : V → List V → Hp → VK → Prop}
theorem pe_bm (pa : PlainAttrs T) (slot : Slot T name id) (hty : typeOf (.builtin id) = pure (.type "method_descriptor")) (hm : MtR X id r) (ho : PE X o to) (ha : PA X (e :: es) t)
    (hbase : attributeBase o name X.env (eval o X.env) = eval o X.env := by rfl)
    (hfew : ((backTo cpos (starEach (e :: es) X.env)).all (fun x => !x.1) && (backToKw cpos (keywordEach [] X.env)).all (fun x => x.1.isSome)
      && decide ((e :: es).length + ([] : List Keyword).length + (if ([] : List Keyword).isEmpty then 0 else 1) < 30)) = true := by rfl)
    (hline : (apos.endLine == cpos.line) = true := by rfl) (hs : starEach (e :: es) X.env = (false, eval e X.env) :: starEach es X.env := by rfl) (hplain : (backTo cpos (starEach es X.env)).any (·.1) = false := by rfl) :
    PE X (.Call (.Attribute o name apos) (e :: es) [] cpos) (tBM X.K T r to t) := by
  intro pins s σ H Q I h
  refine wpAny_Call_method_late hbase hfew hline rfl (thn (ho pins s σ H _ I h) fun v s1 ⟨x, H1, I1, r1, ty, q1⟩ => ?_)
  obtain ⟨h1, h2⟩ := tyV_is I1 r1 ty
  refine ⟨T, id, pa, slot, hty, h1, h2, ?_⟩
  have hA := ha cpos pins s1 σ H1 _ I1 q1
  rw [hs] at hA ⊢
  refine Calls.callWith_builtin (by show (false || (backTo cpos (starEach es X.env)).any (·.1)) = false; rw [hplain] <;> rfl) (Calls.evalArgs_plain ?_)
  exact thn hA fun us s2 ⟨vs, H2, I2, r2, q2⟩ => hm pins s2 σ H2 x vs v us Q I2 r1 r2 q2
end
end L2

namespace L2
open PySem PySem.Spec PyProof.Rows

noncomputable def MtM (X : Cx) (id : String) (r : V → List V → Hp → VK → Prop) : Prop :=
  ∀ (pins : List (Addr × Obj)) (s : Shared) (σ : St) (H : Hp) (x : V) (xs : List V) (v : Value) (us : List Value) (Q : VK), Inv X pins σ H s → RelV x v → Vals xs us → r x xs H Q →
    wpAny (model X.prog X.w) X.A (call (.builtin id) (v :: us)) (EP X pins σ Q) X.xe s

theorem Vals.one : ∀ {x : V} {us : List Value}, Vals [x] us → ∃ u, us = [u] ∧ RelV x u
  | _, _, .cons r .nil => ⟨_, rfl, r⟩
theorem Vals.reverse {xs : List V} {us : List Value} (h : Vals xs us) : Vals xs.reverse us.reverse := by
  induction h with
  | nil => exact .nil
  | cons r t ih => rw [List.reverse_cons, List.reverse_cons]; exact Vals.append ih (.cons r .nil)
theorem Vals.rep {xs : List V} {us : List Value} (h : Vals xs us) : ∀ k : Nat, Vals (List.replicate k xs).flatten (List.replicate k us).flatten
  | 0 => .nil
  | k + 1 => by
    rw [List.replicate_succ, List.replicate_succ, List.flatten_cons, List.flatten_cons]
    exact Vals.append h (Vals.rep h k)
theorem foldl_rep (its : List Value) : ∀ (k : Nat) (acc : List Value),
    List.foldl (fun x1 x2 => x1 ++ x2) acc.toArray (List.replicate k its.toArray) = (acc ++ (List.replicate k its).flatten).toArray
  | 0, acc => by simp
  | k + 1, acc => by
    have e : acc.toArray ++ its.toArray = (acc ++ its).toArray := by simp
    have e2 : (acc ++ its) ++ (List.replicate k its).flatten = acc ++ (List.replicate (k + 1) its).flatten := by
      rw [List.replicate_succ, List.flatten_cons, List.append_assoc]
    rw [← e2, ← foldl_rep its k (acc ++ its), ← e, List.replicate_succ, List.foldl_cons]

section
variable {X : Cx} {pins : List (Addr × Obj)} {σ : St} {H : Hp} {s : Shared} {l b : Addr} {xs ys zs : List V}

theorem Inv.lset {its its' : List Value} {n : Nat} {f : Array Value → Array Value} {t' : Nat} (I : Inv X pins σ H s) (hH : H l = some (.lst xs))
    (e : s.heap.get? l = some { cls := .type "list", data := .seq its.toArray n }) (hf : f its.toArray = its'.toArray) (hv : Vals ys its') (hz : ys.length ≤ sizeLine) :
    Inv X pins σ (upd H l (.lst ys)) { s with heap := s.heap.update l (Obj.mapSeq f), toks := t' } := by
  have q := PySem.IsL.update e f
  rw [hf] at q
  refine I.write (x := l) (e := l) (by rw [hH]; exact trivial) (.inl rfl) (fun b' u hb hu => (Heap.get?_update_other s.heap (Obj.mapSeq f) (Ne.symm hb)).trans hu) ⟨_, q⟩ ?_
  exact ⟨hz, its', _, hv, q⟩
theorem Inv.lnew {its : List Value} {t' : Nat} (I : Inv X pins σ H s) (hv : Vals ys its) (hz : ys.length ≤ sizeLine) :
    Inv X pins σ (upd H s.heap.objs.size (.lst ys)) { s with heap := s.heap.push { cls := .type "list", data := .seq its.toArray }, toks := t' } :=
  I.laid (fun _ _ q => Heap.get?_push_of_some _ q) (Nat.le_refl _) ⟨hz, its, 0, hv, Heap.get?_push_size _ rfl⟩
theorem Inv.fresh (I : Inv X pins σ H s) : H s.heap.objs.size = none := I.hok.fresh (Nat.le_refl _)
theorem Inv.lstM (I : Inv X pins σ H s) (hH : H l = some (.lst xs)) : xs.length ≤ sizeLine ∧ ∃ (its : List Value) (n : Nat), Vals xs its ∧ xs.length = its.length ∧ s.heap.get? l = some { cls := .type "list", data := .seq its.toArray n } := by
  obtain ⟨z, its, n, r, e⟩ := I.hok l _ hH
  exact ⟨z, its, n, r, r.length, e⟩

theorem notLongL {n : Nat} (h : n ≤ sizeLine) : Builtin.List.listTooLong n = false := by
  unfold Builtin.List.listTooLong
  exact decide_eq_false (by (first | lia | omega))
end

section
variable {X : Cx}

noncomputable def rAppend : V → List V → Hp → VK → Prop := fun x vs H Q => ∃ l xs y, x = .ref l ∧ vs = [y] ∧ H l = some (.lst xs) ∧ xs.length < sizeLine ∧ Q .non (upd H l (.lst (xs ++ [y])))
theorem mt_append : MtM X "list.append" rAppend := by
  intro pins s σ H x vs v us Q I rx rv h
  obtain ⟨l, xs, y, rfl, rfl, hH, hz, q⟩ := h
  cases rx
  obtain ⟨u, rfl, ru⟩ := rv.one
  obtain ⟨z, its, n, r, hl, e⟩ := I.lstM hH
  refine call_meets F.slot_list_append ⟨_, e, rfl⟩ F.entry_list_append (F.args_list_append_2 _ _) (PySem.list_append l its.toArray n u (by rw [List.size_toArray]; (first | lia | omega))) ⟨e, ?_⟩
  refine ⟨.non, _, I.lset (its' := its ++ [u]) hH e (by simp) (r.append (.cons ru .nil)) ?_, rfl, q⟩
  rw [List.length_append, List.length_singleton]
  (first | lia | omega)

theorem len_rep {α : Type} (xs : List α) (k : Nat) : (List.replicate k xs).flatten.length = k * xs.length := by
  induction k with
  | zero => simp
  | succ k ih => rw [List.replicate_succ, List.flatten_cons, List.length_append, ih, Nat.succ_mul, Nat.add_comm]
end

section
variable {prog : Program} {w : World} {A : Around} {E : Value → Shared → Prop} {s : Shared}
end

section
variable {X : Cx}
end
end L2

namespace Att
open PySem PySem.W PySem.Calls PyProof.Rows

theorem ints_of_wellAll {P : Params} {h : Heap} : ∀ (ns : List Int) (vs : List Value), WellAll P h vs (ns.map WData.int) → IntsAre vs ns := by
  intro ns
  induction ns with
  | nil =>
    intro vs w
    rw [List.map_nil] at w
    cases w
    exact .nil
  | cons n ns ih =>
    intro vs w
    rw [List.map_cons] at w
    cases w with
    | cons a b =>
      cases a
      exact .cons _ _ (ih _ b)

theorem script_of {l : OpenLaw} {n : Nat} (hn : l.most = some n) {P : Params} {h : Heap} {args : List WData} {vals : List Value}
    (hpre : l.row.toRowW.claim.pre args = true) (hwl : WellAll P h vals args) :
    ∃ a vs ns, vals = [Value.ref a] ∧ args = [WData.list (ns.map WData.int)] ∧ h.get? a = some { cls := .type "list", data := .seq vs.toArray } ∧ IntsAre vs ns ∧ ns.length ≤ n := by
  have hsh : WShape.hasAll [] args [.list .int] = true := (pre_splitW hpre).1
  have hc : l.pre.holds [] { args := args } = true := (pre_splitW hpre).2
  obtain ⟨d, r, rfl, h1, h2⟩ := hasAllW_cons hsh
  obtain rfl := hasAllW_nil h2
  obtain ⟨xs, rfl, h3⟩ := hasW_list h1
  obtain ⟨ns, rfl⟩ := items_int h3
  have hlen : ns.length ≤ n := by
    unfold OpenLaw.pre at hc
    have h4 : (WTm.not (.lt (.lit (.int (n : Int))) (.len (.arg 0)))).holds [] { args := [.list (ns.map .int)] } = true := by
      have h4 := (holds_andW hc).1
      rw [hn] at h4
      exact h4
    have h5 := condW_of h4 (w_not (w_lt w_lit (w_len_list (w_arg rfl))))
    rw [List.length_map] at h5
    refine Nat.le_of_not_lt fun q => ?_
    have q' : (n : Int) < ((ns.length : Nat) : Int) := by omega
    first
      | (rw [decide_eq_true q'] at h5; exact absurd h5 (by decide))
      | (simp at h5; omega)
  cases hwl with
  | cons w1 w2 =>
    cases w2
    cases w1 with
    | list ho hall => exact ⟨_, _, ns, rfl, rfl, ho, ints_of_wellAll ns _ hall, hlen⟩

theorem post_true (l : OpenLaw) (args : List WData) : l.row.toRowW.claim.post args (.bool true) args = true :=
  postW_of (r := l.row.toRowW) (X := (true == true))
    (show WShape.has [] (.bool true) .bool = true by first | rfl | decide | simp [WShape.has, WShape.arms, WShape.armsAll])
    (show (WTm.eq .res (.lit (.bool true))).value [] { args := args, res := some (.bool true), after := args } = some (.bool (true == true)) from w_eq_bool (w_res rfl) w_lit) rfl

theorem attach_call {l : OpenLaw} {n : Nat} {q : Program} {loose : List Str} {XP : (Str → Option Value) → Heap → Prop} {YP : World → Heap → Prop} {d : DefRec}
    (hn : l.most = some n) (hdf : d.params.defaults = [])
    (call : ∀ (w : World) (s₀ s₁ : Shared) (mg mb : Str → Option Value) (fa : Addr) (o : Obj) (pm cd doc : Value) (a : Addr) (vs : List Value) (ns : List Int),
      Ground q loose [] XP w s₀ mg mb s₁.heap → YP w s₁.heap →
      s₁.heap.get? fa = some o → o.data = .func (docDef d.name d.params d.body d.scope pm cd doc) → s₁.heap.CodeRec cd d.name → mg d.name = some (.ref fa) →
      s₁.heap.get? a = some { cls := .type "list", data := .seq vs.toArray } → IntsAre vs ns → ns.length ≤ n → s₁.gens = #[] →
      codeAny (model l.prog w) callerA (.call (.ref fa) ⟨[.ref a], []⟩) (fun r s' => r = .ok (.ret (.bool true)) ∧ OldK s₁.heap s'.heap ∧ s'.os = s₁.os ∧ AllBare s'.gens) s₁) :
    WalkO q loose XP YP l.row.toRowW d [] (fun f vs => PySem.call f vs) := by
  intro w s₀ s₁ mg mb G Y fa o pm cd doc dV kV ho hd hcd hD hmg hg args vals as hpre hlay hrd hwl hlo
  obtain rfl : dV = .none := Dflts.none hD hdf
  obtain rfl : kV = .none := Dflts.noKw hD
  obtain ⟨a, vs, ns, rfl, rfl, hobj, hints, hlen⟩ := script_of hn hpre hwl
  refine enter_call (codeAny_mono (call w s₀ s₁ mg mb fa o pm cd doc a vs ns G Y ho (fd_plain hd) hcd hmg hobj hints hlen hg) fun r s' hq => ?_)
  obtain ⟨rfl, h2, h3, h4⟩ := hq
  exact ⟨.inl ⟨.bool true, .bool true, [], rfl, fun _ => rfl, .bool true, post_true l _, fun _ => ⟨List.Pairwise.nil, fun _ hm => (nomatch hm)⟩⟩, h2, h3, h4⟩

section
variable {prog : Program} {w : World} {A : Around} {E : Value → Shared → Prop} {s : Shared} {K : Frag}

end
end Att

namespace L2
open PySem PySem.Spec PyProof.Rows

theorem vals_ints : ∀ {vs : List Value} {ns : List Int}, IntsAre vs ns → Vals (ns.map V.int) vs
  | _, _, .nil => .nil
  | _, _, .cons n t h => .cons ⟨t, rfl⟩ (vals_ints h)

noncomputable def Only (H : Hp) : Prop := ∀ b, H b = none ∨ ∃ o xs, H b = some (.frz o (.lst xs))

theorem law_call {P : Program} {w : World} {K : PySem.W.Frag} {mg mb : Str → Option Value} {CX : CXT} {k : Nat} {fa a : Addr} {fd : FuncData} {x : Str} {sp : Sp} {s₁ : Shared} {vs : List Value} {ns : List Int}
    (KX : K.In s₁.heap) (hns : s₁.heap.Ns mainGlobals mg) (hb : s₁.heap.Ns builtinsNs mb) (hbb : ∀ x : Str, x ≠ "__name__" → mb x = bootBuiltins x) (hlim : s₁.heap.NoLimit) (hg : s₁.gens = #[])
    (ha : s₁.heap.get? a = some { cls := .type "list", data := .seq vs.toArray }) (hi : IntsAre vs ns) (hl : ns.length ≤ sizeLine) (hr : Room k callerA)
    (F : ∀ base : Heap, K.In base → base.Ns mainGlobals mg → FnOk P w K mg base CX k fa fd [x] sp) (hbind : ∀ (s : Shared) (u : Value), BindsTo s fd ⟨[u], []⟩ [(x, u)])
    (hsp : ∀ H : Hp, Only H → SqL K H a (ns.map V.int) → sp [.ref a] H (fun v _ => v = .bl true) fun _ _ _ => False)
    (hCX : ∀ H e s', CX [] H s₁ (fun _ _ _ => False) e s' → False) :
    codeAny (model P w) callerA (.call (.ref fa) ⟨[.ref a], []⟩) (fun r s' => r = .ok (.ret (.bool true)) ∧ OldK s₁.heap s'.heap ∧ s'.os = s₁.os ∧ AllBare s'.gens) s₁ := by
  have rv := vals_ints hi
  have lenV := hi.length
  -- from an abstract heap in which nothing but the script may be tracked
  have core : ∀ H : Hp, Only H → SqL K H a (ns.map V.int) → HOk P w H s₁.heap → (∀ b, H b ≠ none → b = a) → (H a ≠ none → K.lookup a = none) →
      codeAny (model P w) callerA (.call (.ref fa) ⟨[.ref a], []⟩) (fun r s' => r = .ok (.ret (.bool true)) ∧ OldK s₁.heap s'.heap ∧ s'.os = s₁.os ∧ AllBare s'.gens) s₁ := by
    intro H hO hS hok hA hK
    have base_of : ∀ {b : Addr} {o : Obj}, s₁.heap.get? b = some o → H b = none → (hidT s₁.heap H).get? b = some o := fun e n => hidT_get e n
    have noA : ∀ {b : Addr} {o : Obj} {es : Array DictEntry} {ep : Nat}, s₁.heap.get? b = some o → o.data = .dict es ep → H b = none := fun {b o es ep} e d => by
      cases q : H b with
      | none => rfl
      | some u =>
        have e' : b = a := hA b (by rw [q]; simp)
        subst e'
        rw [ha] at e; cases e
        have d' : Data.seq vs.toArray _ = Data.dict es ep := d
        cases d'
    have nsK : ∀ {b : Addr} {m : Str → Option Value}, s₁.heap.Ns b m → (hidT s₁.heap H).Ns b m := fun {b m} ⟨o, es, ep, e, d, r⟩ => ⟨o, es, ep, base_of e (noA e d), d, r⟩
    have hKb : K.In (hidT s₁.heap H) := fun b o e => base_of (KX b o e) (by
      cases q : H b with
      | none => rfl
      | some u =>
        have e' : b = a := hA b (by rw [q]; simp)
        subst e'
        rw [hK (by rw [q]; simp)] at e; cases e)
    have hM : Mod K mg (hidT s₁.heap H) := ⟨hKb, nsK hns, ⟨mb, nsK hb, hbb⟩, let ⟨mc, h1, h2⟩ := hlim; ⟨mc, nsK h1, h2⟩⟩
    have e0 : Env0 P w K mg (hidT s₁.heap H) callerA [] s₁ H := ⟨rfl, hM, fun b o e => of_hidT e, Nat.le_of_eq (hidT_size _ _), trivial, fun b hb => absurd (show b ∈ ([] : List Addr) from hb) (by simp), hok, .of_eq hg⟩
    refine codeAny_mono ((F _ hKb (nsK hns)).run callerA [] s₁ H ⟨[.ref a], []⟩ [.ref a] [.ref a] _ _ hr e0 (hbind s₁ (.ref a)) (.cons rfl .nil) (hsp H hO hS)) fun r s' h => ?_
    cases r with
    | error e => exact (hCX H e s' h).elim
    | ok fl =>
      cases fl with
      | next => exact False.elim h
      | brk => exact False.elim h
      | cont => exact False.elim h
      | ret u =>
        obtain ⟨v, H', os, bare, un, hok', r', q⟩ := h
        have q' : v = .bl true := q
        subst q'
        obtain rfl : u = Value.bool true := r'
        refine ⟨rfl, OldK.of_keep fun b o e => ?_, os, bare⟩
        cases q : H b with
        | none => exact un.keep b o e q (by intro z; exact absurd (show b ∈ ([] : List Addr) from z) (by simp)) (by simp)
        | some u =>
          rcases hO b with z | ⟨ob, xs, z⟩
          · rw [q] at z; cases z
          · have z2 := un.frzs b ob _ z
            obtain ⟨e1, _⟩ := hok b _ z
            obtain ⟨e2, _⟩ := hok' b _ z2
            rw [e] at e1; cases e1
            exact e2
  cases hk : K.lookup a with
  | some o =>
    -- the script is one of the module's own objects
    have e := KX a o hk
    rw [ha] at e
    cases e
    refine core (fun _ => none) (fun _ => .inl rfl) (.inr ⟨_, vs.toArray, _, hk, rfl, rfl, rfl, by rw [List.size_toArray, lenV]; exact hl, by simpa using rv⟩) (fun b u z => by have z' : (none : Option HO) = some u := z; cases z') (fun b z => absurd rfl z) fun z => absurd rfl z
  | none =>
    refine core (fun b => if b = a then some (.frz { cls := .type "list", data := .seq vs.toArray } (.lst (ns.map V.int))) else none) (fun b => ?_) (.inl (.inr ⟨{ cls := .type "list", data := .seq vs.toArray }, if_pos rfl⟩)) (fun b u z => ?_) (fun b z => ?_) fun _ => hk
    · by_cases hb : b = a
      · exact .inr ⟨_, _, if_pos hb⟩
      · exact .inl (if_neg hb)
    · by_cases hb : b = a
      · have z' := (if_pos hb).symm.trans z
        cases z'
        subst hb
        exact ⟨ha, by rw [List.length_map]; exact hl, vs, _, rv, ha⟩
      · have z' := (if_neg hb).symm.trans z
        cases z'
    · by_cases hb : b = a
      · exact hb
      · exact absurd (if_neg hb) z
end L2

namespace L2
open PySem PySem.Spec PyProof.Rows

theorem walk_of {l : PySem.W.OpenLaw} {n k : Nat} {q : Program} {loose : List Str} {XP : (Str → Option Value) → Heap → Prop} {YP : World → Heap → Prop} {d : DefRec} {K : Params → PySem.W.Frag} {CX : World → CXT} {sp : World → Sp} {x : Str}
    (hn : l.most = some n) (hn2 : n ≤ sizeLine) (hdf : d.params.defaults = []) (hr : Room k callerA)
    (hY : ∀ (w : World) (h : Heap), YP w h → (K w.params).In h)
    (F : ∀ (w : World) (mg : Str → Option Value) (fa : Addr) (h : Heap), (K w.params).In h → h.Ns mainGlobals mg → mg d.name = some (.ref fa) →
      ∃ fd : FuncData, (∀ (s : Shared) (u : Value), BindsTo s fd ⟨[u], []⟩ [(x, u)]) ∧
        ∀ base : Heap, (K w.params).In base → base.Ns mainGlobals mg → FnOk l.prog w (K w.params) mg base (CX w) k fa fd [x] (sp w))
    (hsp : ∀ (w : World) (H : Hp) (a : Addr) (ns : List Int), ns.length ≤ n → Only H → SqL (K w.params) H a (ns.map V.int) → sp w [.ref a] H (fun v _ => v = .bl true) fun _ _ _ => False)
    (hCX : ∀ (w : World) (H : Hp) (s : Shared) (e : Value) (s' : Shared), CX w [] H s (fun _ _ _ => False) e s' → False) :
    PySem.W.WalkO q loose XP YP l.row.toRowW d [] (fun f vs => PySem.call f vs) := by
  refine Att.attach_call hn hdf fun w s₀ s₁ mg mb fa o pm cd doc a vs ns G Y ho hd hcd hmg hobj hints hlen hg => ?_
  have KX := hY w _ Y
  obtain ⟨fd, hb, hF⟩ := F w mg fa _ KX G.T.g hmg
  exact law_call KX G.T.g G.T.b G.T.builtins G.T.nolimit hg hobj hints (Nat.le_trans hlen hn2) hr hF hb (fun H hO hS => hsp w H a ns hlen hO hS) fun H e s' => hCX w H s₁ e s'
end L2


namespace L2
open PySem PySem.Spec PyProof.Rows

noncomputable def defArgs (s : Stmt) : Arguments := match s with
  | .FunctionDef _ a _ _ _ _ _ _ _ _ => a
  | _ => { posonlyargs := [], args := [], vararg := none, kwonlyargs := [], kw_defaults := [], kwarg := none, defaults := [] }
noncomputable def defBody (s : Stmt) : List Stmt := match s with
  | .FunctionDef _ _ b _ _ _ _ _ _ _ => b
  | _ => []
noncomputable def defScope (s : Stmt) : Scope := match s with
  | .FunctionDef _ _ _ _ _ _ sc _ _ _ => sc
  | _ => { kind := .function, names := [], isGenerator := false, isCoroutine := false }

noncomputable abbrev E0 : XK := fun _ _ _ => False
set_option genInjectivity false in
structure Fun (K : PySem.W.Frag) (x qual : Str) (st : Stmt) (f : Addr) (fd : FuncData) : Prop where
  ex : ∃ (oc : Value) (od : Option Addr) (kV doc pm : Value) (an : Option Addr) (cdv ct : Value) (osl : Array (Option Value)),
    fd = PySem.W.fnOf x qual (defArgs st) (defBody st) (defScope st) .none kV doc pm an cdv ct ∧ K.lookup f = some ⟨oc, od, .func fd, osl⟩ ∧ PySem.W.codeIn K cdv qual = true
  kp : PySem.W.keepIn K (.ref f) = true
section
variable {P : Program} {w : World} {K : PySem.W.Frag} {mg : Str → Option Value} {base : Heap}
theorem Fun.binds {x qual : Str} {st : Stmt} {f : Addr} {fd : FuncData} {ps : List Str} (F : Fun K x qual st f fd)
    (h : ∀ (kV doc pm : Value) (an : Option Addr) (cdv ct : Value) (us : List Value), us.length = ps.length → bindArgs (PySem.W.fnOf x qual (defArgs st) (defBody st) (defScope st) .none kV doc pm an cdv ct) ⟨us, []⟩ = pure (ps.zip us)) : Binds K fd ps [] := by
  obtain ⟨oc, od, kV, doc, pm, an, cdv, ct, osl, rfl, lk, hcd⟩ := F.ex
  exact .all (h kV doc pm an cdv ct)
theorem fun_mk {x qual : Str} {st : Stmt} {f : Addr} {oc : Value} {od an : Option Addr} {osl : Array (Option Value)} {kV doc pm cdv ct : Value} (l : K.lookup f = some ⟨oc, od, .func (PySem.W.fnOf x qual (defArgs st) (defBody st) (defScope st) .none kV doc pm an cdv ct), osl⟩)
    (c : PySem.W.codeIn K cdv qual = true) (k : PySem.W.keepIn K (.ref f) = true) : Fun K x qual st f (PySem.W.fnOf x qual (defArgs st) (defBody st) (defScope st) .none kV doc pm an cdv ct) := ⟨⟨oc, od, kV, doc, pm, an, cdv, ct, osl, rfl, l, c⟩, k⟩
end
theorem hu_of {A : Around} {k : Nat} (hr : Room k A) : A.units + 1 < cLine := Nat.lt_of_le_of_lt (Nat.add_le_add_left (by decide : 1 ≤ 64) _) hr.units
section
variable {X : Cx}
theorem pv (i : Nat) {x : Str} {pos : Pos} (hN : X.N[i]? = some x := by rfl) (hv : Vis X.env.scope x := by first | exact Or.inl rfl | exact Or.inr (Or.inl rfl) | exact Or.inr (Or.inr rfl)) (hd : (x == ("__debug__" : Str)) = false := by decide)
    (hcd : (x == ("__classdict__" : Str)) = false := by decide) : PE X (.Name x pos) (tVar i) := pe_var hN hv hd hcd
end

theorem iteF {A B : Prop} (h : B) : if false = true then A else B := by
  rw [if_neg Bool.false_ne_true]
  exact h
theorem iteT {A B : Prop} (h : A) : if true = true then A else B := by
  rw [if_pos rfl]
  exact h
theorem ite2 {c A B : Prop} [Decidable c] (h1 : c → A) (h2 : ¬ c → B) : if c then A else B := by
  by_cases h : c
  · rw [if_pos h]
    exact h1 h
  · rw [if_neg h]
    exact h2 h
theorem iteNS {c A B : Prop} [Decidable c] (hc : c) (h : B) : if (!decide c) = true then A else B := by
  rw [decide_eq_true hc]
  exact iteF h

noncomputable def Same (H H' : Hp) : Prop := ∀ b o, H b = some o → H' b = some o
theorem Same.refl (H : Hp) : Same H H := fun _ _ h => h
theorem Same.trans {H H1 H2 : Hp} (a : Same H H1) (b : Same H1 H2) : Same H H2 := fun c o h => b c o (a c o h)
theorem Same.seq {K : PySem.W.Frag} {H H' : Hp} {a : Addr} {xs : List V} (e : Same H H') (h : SqL K H a xs) : SqL K H' a xs := by
  rcases h with (h | ⟨o, h⟩) | h
  · exact .inl (.inl (e _ _ h))
  · exact .inl (.inr ⟨o, e _ _ h⟩)
  · exact .inr h

end L2

namespace Wd
noncomputable abbrev W := List Nat
theorem ltt {a b c : W} (h : a < b) (h' : b < c) : a < c := List.lt_trans h h'
theorem ltir (a : W) : ¬ a < a := List.lt_irrefl a
theorem tri {a b : W} (h : ¬ a < b) (h' : ¬ b < a) : a = b := List.le_antisymm (List.not_lt.mp h') (List.not_lt.mp h)
theorem lele {a b c : W} (h : ¬ b < a) (h' : ¬ c < b) : ¬ c < a := fun hc => List.not_lt.mpr (List.le_trans (List.not_lt.mp h) (List.not_lt.mp h')) hc
theorem ltle {a b c : W} (h : a < b) (h' : ¬ c < b) : a < c := by
  apply Classical.byContradiction
  intro hc
  exact lele h' hc h

noncomputable def rot (k : Nat) (w : W) : W := w.drop k ++ w.take k
theorem rot_zero (w : W) : rot 0 w = w := by simp [rot]
theorem rot_length (k : Nat) (w : W) : (rot k w).length = w.length := by
  unfold rot
  rw [List.length_append, List.length_drop, List.length_take]
  (first | lia | omega)
theorem rot_get {k i : Nat} {w : W} (hk : k ≤ w.length) (hi : i < w.length) : (rot k w)[i]? = w[(k + i) % w.length]? := by
  unfold rot
  by_cases h : i < w.length - k
  · rw [List.getElem?_append_left (by rw [List.length_drop]; exact h), List.getElem?_drop, Nat.mod_eq_of_lt (by omega)]
  · rw [List.getElem?_append_right (by rw [List.length_drop]; omega), List.length_drop, List.getElem?_take_of_lt (by omega)]
    have e : (k + i) % w.length = i - (w.length - k) := by
      rw [Nat.mod_eq_sub_mod (by omega), Nat.mod_eq_of_lt (by omega)]
      omega
    rw [e]
theorem ext_get {a b : W} (hl : a.length = b.length) (h : ∀ i, i < a.length → a[i]? = b[i]?) : a = b := by
  apply List.ext_getElem? 
  intro i
  by_cases hi : i < a.length
  · exact h i hi
  · rw [List.getElem?_eq_none (by (first | lia | omega)), List.getElem?_eq_none (by (first | lia | omega))]
theorem rot_rot {j k : Nat} {w : W} (hj : j < w.length) (hk : k < w.length) : rot j (rot k w) = rot ((j + k) % w.length) w := by
  have hp : 0 < w.length := by (first | lia | omega)
  apply ext_get
  · rw [rot_length, rot_length, rot_length]
  · intro i hi
    rw [rot_length, rot_length] at hi
    rw [rot_get (by rw [rot_length]; (first | lia | omega)) (by rw [rot_length]; exact hi), rot_length,
      rot_get (Nat.le_of_lt hk) (Nat.mod_lt _ hp), rot_get (Nat.le_of_lt (Nat.mod_lt _ hp)) hi]
    congr 1
    rw [Nat.add_mod_mod, Nat.mod_add_mod]
    congr 1
    (first | lia | omega)

noncomputable def bestTo (w : W) : Nat → Nat
  | 0 => 0
  | n + 1 => if rot (n + 1) w < rot (bestTo w n) w then n + 1 else bestTo w n
noncomputable def turnBy (w : W) : Nat := bestTo w (w.length - 1)
noncomputable def leastTo (w : W) : Nat → W
  | 0 => w
  | n + 1 => if rot (n + 1) w < leastTo w n then rot (n + 1) w else leastTo w n
noncomputable def least (w : W) : W := leastTo w (w.length - 1)
theorem best_le (w : W) : ∀ n, bestTo w n ≤ n
  | 0 => Nat.le_refl _
  | n + 1 => by
    have := best_le w n
    unfold bestTo
    split <;> (first | lia | omega)
theorem leastTo_eq (w : W) : ∀ n, leastTo w n = rot (bestTo w n) w
  | 0 => by rw [leastTo, bestTo, rot_zero]
  | n + 1 => by
    rw [leastTo, bestTo, leastTo_eq w n]
    split <;> rfl
theorem least_eq (w : W) : least w = rot (turnBy w) w := leastTo_eq w _
theorem best_min (w : W) : ∀ n j, j ≤ n → ¬ rot j w < rot (bestTo w n) w
  | 0, j, h => by
    have : j = 0 := by (first | lia | omega)
    subst this
    exact ltir _
  | n + 1, j, h => by
    unfold bestTo
    by_cases hj : j = n + 1
    · subst hj
      split
      · exact ltir _
      · rename_i h1; exact h1
    · have ih := best_min w n j (by (first | lia | omega))
      split
      · rename_i h1
        exact fun h2 => ih (ltt h2 h1)
      · exact ih
theorem best_first (w : W) : ∀ n j, j < bestTo w n → rot (bestTo w n) w < rot j w
  | 0, j, h => by rw [bestTo] at h; (first | lia | omega)
  | n + 1, j, h => by
    unfold bestTo at h ⊢
    split at h
    · rename_i h1
      rw [if_pos h1]
      exact ltle h1 (best_min w n j (by (first | lia | omega)))
    · rename_i h1
      rw [if_neg h1]
      exact best_first w n j h
theorem turnBy_lt {w : W} (h : 0 < w.length) : turnBy w < w.length := by
  have := best_le w (w.length - 1)
  unfold turnBy
  omega
theorem turnBy_min {w : W} {j : Nat} (h : j < w.length) : ¬ rot j w < rot (turnBy w) w := best_min w _ j (by omega)
theorem turnBy_first {w : W} {j : Nat} (h : j < turnBy w) : rot (turnBy w) w < rot j w := best_first w _ j h
theorem isLeast_iff (w : W) : turnBy w = 0 ↔ w = least w := by
  constructor
  · intro h
    rw [least_eq, h, rot_zero]
  · intro h
    rcases Nat.eq_zero_or_pos (turnBy w) with h0 | h0
    · exact h0
    · have h1 := turnBy_first (w := w) h0
      rw [← least_eq, rot_zero, ← h] at h1
      exact absurd h1 (ltir _)
theorem least_mem {w : W} (h : 0 < w.length) : ∃ i, i < w.length ∧ least w = rot i w := ⟨turnBy w, turnBy_lt h, least_eq w⟩
theorem least_min {w : W} {j : Nat} (h : j < w.length) : ¬ rot j w < least w := by
  rw [least_eq]
  exact turnBy_min h
theorem least_rot {w : W} {m : Nat} (h : m < w.length) : least (rot m w) = least w := by
  have hp : 0 < w.length := by (first | lia | omega)
  obtain ⟨i, hi, ei⟩ := least_mem (w := rot m w) (by rw [rot_length]; exact hp)
  obtain ⟨j, hj, ej⟩ := least_mem hp
  rw [rot_length] at hi
  apply tri
  · rw [ei, rot_rot hi h]
    exact least_min (Nat.mod_lt _ hp)
  · have e : least w = rot ((j + (w.length - m)) % w.length) (rot m w) := by
      rw [rot_rot (Nat.mod_lt _ hp) h, ej]
      congr 1
      rw [Nat.mod_add_mod, show j + (w.length - m) + m = j + w.length by (first | lia | omega), Nat.add_mod_right, Nat.mod_eq_of_lt hj]
    rw [e]
    exact least_min (by rw [rot_length]; exact Nat.mod_lt _ hp)
end Wd

namespace Wd
theorem lt_app {a b : W} (h : a < b) (hl : b.length ≤ a.length) (x y : W) : a ++ x < b ++ y := by
  induction a generalizing b with
  | nil =>
    cases b with
    | nil => exact absurd h (ltir _)
    | cons d b => simp at hl
  | cons c a ih =>
    cases b with
    | nil => exact absurd h (by simp)
    | cons d b =>
      rw [List.cons_append, List.cons_append]
      rw [List.cons_lt_cons_iff] at h ⊢
      rcases h with h | ⟨h, h'⟩
      · exact .inl h
      · exact .inr ⟨h, ih h' (by simpa using hl)⟩
theorem lt_app_left (p : W) {a b : W} : p ++ a < p ++ b ↔ a < b := by
  induction p with
  | nil => rfl
  | cons c p ih =>
    rw [List.cons_append, List.cons_append, List.cons_lt_cons_iff]
    constructor
    · intro h
      rcases h with h | ⟨_, h⟩
      · exact absurd h (Nat.lt_irrefl _)
      · exact ih.mp h
    · intro h
      exact .inr ⟨rfl, ih.mpr h⟩
theorem lt_of_app {a b x y : W} (hl : a.length = b.length) (h : a ++ x < b ++ y) : a < b ∨ (a = b ∧ x < y) := by
  by_cases h1 : a < b
  · exact .inl h1
  · by_cases h2 : b < a
    · exact absurd (ltt h (lt_app h2 (by (first | lia | omega)) y x)) (ltir _)
    · have e := tri h1 h2
      subst e
      exact .inr ⟨rfl, (lt_app_left a).mp h⟩

noncomputable def Prime (w : W) : Prop := w ≠ [] ∧ ∀ k, 0 < k → k < w.length → w < rot k w
theorem lt_at {a b : W} {j : Nat} {c d : Nat} (he : ∀ i, i < j → a[i]? = b[i]?) (ha : a[j]? = some c) (hb : b[j]? = some d) (h : c < d) : a < b := by
  induction j generalizing a b with
  | zero =>
    cases a with
    | nil => simp at ha
    | cons x a =>
      cases b with
      | nil => simp at hb
      | cons y b =>
        simp at ha hb
        subst ha hb
        rw [List.cons_lt_cons_iff]
        exact .inl h
  | succ j ih =>
    cases a with
    | nil => simp at ha
    | cons x a =>
      cases b with
      | nil => simp at hb
      | cons y b =>
        have e0 := he 0 (by (first | lia | omega))
        simp at e0
        subst e0
        rw [List.cons_lt_cons_iff]
        exact .inr ⟨rfl, ih (fun i hi => by simpa using he (i + 1) (by (first | lia | omega))) (by simpa using ha) (by simpa using hb)⟩
theorem lt_parts {a b : W} (h : a < b) : (∃ (j c d : Nat), (∀ i, i < j → a[i]? = b[i]?) ∧ a[j]? = some c ∧ b[j]? = some d ∧ c < d) ∨ (a.length < b.length ∧ ∀ i, i < a.length → a[i]? = b[i]?) := by
  induction a generalizing b with
  | nil =>
    cases b with
    | nil => exact absurd h (ltir _)
    | cons y b => exact .inr ⟨by simp, fun i hi => by simp at hi⟩
  | cons x a ih =>
    cases b with
    | nil => exact absurd h (by simp)
    | cons y b =>
      rw [List.cons_lt_cons_iff] at h
      rcases h with h | ⟨rfl, h⟩
      · exact .inl ⟨0, x, y, fun i hi => by (first | lia | omega), by simp, by simp, h⟩
      · rcases ih h with ⟨j, c, d, h1, h2, h3, h4⟩ | ⟨h1, h2⟩
        · refine .inl ⟨j + 1, c, d, fun i hi => ?_, by simpa using h2, by simpa using h3, h4⟩
          cases i with
          | zero => simp
          | succ i => simpa using h1 i (by (first | lia | omega))
        · refine .inr ⟨by simpa using h1, fun i hi => ?_⟩
          cases i with
          | zero => simp
          | succ i => simpa using h2 i (by simpa using hi)

theorem take_get {t : W} {m i : Nat} (h : i < m) : (t.take m)[i]? = t[i]? := List.getElem?_take_of_lt h
end Wd

namespace Wd
noncomputable def rep (n : Nat) (l : W) : W := (List.replicate n l).flatten
theorem rep_succ (n : Nat) (l : W) : rep (n + 1) l = l ++ rep n l := by unfold rep; rw [List.replicate_succ, List.flatten_cons]
theorem rep_zero (l : W) : rep 0 l = [] := rfl
theorem rep_one (l : W) : rep 1 l = l := by rw [rep_succ, rep_zero, List.append_nil]
theorem rep_len (n : Nat) (l : W) : (rep n l).length = n * l.length := by
  induction n with
  | zero => rw [rep_zero, Nat.zero_mul]; rfl
  | succ n ih => rw [rep_succ, List.length_append, ih, Nat.succ_mul, Nat.add_comm]
theorem rep_get {l : W} {n i : Nat} (h : i < n * l.length) : (rep n l)[i]? = l[i % l.length]? := by
  induction n generalizing i with
  | zero => rw [Nat.zero_mul] at h; (first | lia | omega)
  | succ n ih =>
    rw [rep_succ]
    rw [Nat.succ_mul] at h
    by_cases hi : i < l.length
    · rw [List.getElem?_append_left hi, Nat.mod_eq_of_lt hi]
    · rw [List.getElem?_append_right (by (first | lia | omega)), ih (by (first | lia | omega))]
      congr 1
      rw [← Nat.mod_eq_sub_mod (by (first | lia | omega))]
noncomputable def Rp (w : W) (d : Nat) : Prop := ∀ i, w[i % w.length]? = w[(i + d) % w.length]?
theorem Rp.all (w : W) : Rp w w.length := fun i => by rw [Nat.add_mod_right]
theorem Rp.zero (w : W) : Rp w 0 := fun i => by rw [Nat.add_zero]
theorem Rp.add {w : W} {d e : Nat} (h : Rp w d) (h' : Rp w e) : Rp w (d + e) := fun i => by
  rw [h i, h' (i + d), Nat.add_assoc]
theorem Rp.sub {w : W} {d e : Nat} (h : Rp w d) (h' : Rp w (d + e)) : Rp w e := fun i => by
  rw [h' i, h (i + e)]
  congr 2
  (first | lia | omega)
theorem Rp.mul {w : W} {d : Nat} (h : Rp w d) : ∀ q, Rp w (q * d)
  | 0 => by rw [Nat.zero_mul]; exact Rp.zero w
  | q + 1 => by rw [Nat.succ_mul]; exact (Rp.mul h q).add h
theorem rp_rot {w : W} {d : Nat} (hd : d ≤ w.length) : rot d w = w ↔ Rp w d := by
  constructor
  · intro h i
    rcases Nat.eq_zero_or_pos w.length with h0 | h0
    · rw [List.getElem?_eq_none (by omega), List.getElem?_eq_none (by omega)]
    · have e := rot_get (k := d) (i := i % w.length) hd (Nat.mod_lt _ h0)
      rw [h] at e
      rw [e, Nat.add_mod_mod, Nat.add_comm]
  · intro h
    apply ext_get (rot_length d w)
    intro i hi
    rw [rot_length] at hi
    rw [rot_get hd hi, Nat.add_comm, ← h i, Nat.mod_eq_of_lt hi]
theorem rep_of_rp {w : W} {d : Nat} (h : Rp w d) (h0 : 0 < d) (hd : d ≤ w.length) (hn : w.length % d = 0) : rep (w.length / d) (w.take d) = w := by
  have hl : (w.take d).length = d := by rw [List.length_take]; (first | lia | omega)
  have hm : w.length / d * d = w.length := Nat.div_mul_cancel (Nat.dvd_of_mod_eq_zero hn)
  apply ext_get
  · rw [rep_len, hl, hm]
  · intro i hi
    rw [rep_len, hl, hm] at hi
    rw [rep_get (by rw [hl, hm]; exact hi), hl, take_get (Nat.mod_lt _ h0)]
    have e := (h.mul (i / d)) (i % d)
    have e2 : i % d + i / d * d = i := by rw [Nat.mul_comm]; exact Nat.mod_add_div i d
    rw [e2, Nat.mod_eq_of_lt hi, Nat.mod_eq_of_lt (by have := Nat.mod_lt i h0; (first | lia | omega))] at e
    exact e
theorem rp_of_rep {w : W} {p : Nat} (hp : p ≤ w.length) (h : rep (w.length / p) (w.take p) = w) (h0 : 0 < w.length) : 0 < p ∧ w.length % p = 0 ∧ Rp w p := by
  have hl : (w.take p).length = p := by rw [List.length_take]; (first | lia | omega)
  have hm : w.length / p * p = w.length := by
    have e := congrArg List.length h
    rw [rep_len, hl] at e
    exact e
  have hp0 : 0 < p := by
    rcases Nat.eq_zero_or_pos p with q | q
    · rw [q, Nat.mul_zero] at hm
      (first | lia | omega)
    · exact q
  have hd : w.length % p = 0 := by
    have := Nat.div_add_mod w.length p
    rw [Nat.mul_comm] at this
    (first | lia | omega)
  refine ⟨hp0, hd, ?_⟩
  rw [← rp_rot hp]
  apply ext_get (rot_length p w)
  intro i hi
  rw [rot_length] at hi
  have gt : ∀ j, j < w.length → w[j]? = (w.take p)[j % p]? := fun j hj => by
    have e := rep_get (n := w.length / p) (l := w.take p) (i := j) (by rw [hl, hm]; exact hj)
    rw [h, hl] at e
    exact e
  rw [rot_get hp hi, gt i hi, gt _ (Nat.mod_lt _ h0)]
  congr 1
  rw [Nat.mod_mod_of_dvd _ (Nat.dvd_of_mod_eq_zero hd), Nat.add_mod_left]
theorem least_rp {w : W} (h0 : 0 < w.length) : ∃ d, 0 < d ∧ d ≤ w.length ∧ Rp w d ∧ ∀ e, 0 < e → e < d → ¬ Rp w e := by
  have key : ∀ n, (∃ d, 0 < d ∧ d ≤ n ∧ Rp w d) → ∃ d, 0 < d ∧ d ≤ n ∧ Rp w d ∧ ∀ e, 0 < e → e < d → ¬ Rp w e := by
    intro n
    induction n with
    | zero => rintro ⟨d, h1, h2, _⟩; (first | lia | omega)
    | succ n ih =>
      rintro ⟨d, h1, h2, h3⟩
      by_cases hs : ∃ e, 0 < e ∧ e < d ∧ Rp w e
      · obtain ⟨e, e1, e2, e3⟩ := hs
        obtain ⟨d', g1, g2, g3⟩ := ih ⟨e, e1, by (first | lia | omega), e3⟩
        exact ⟨d', g1, by (first | lia | omega), g3⟩
      · exact ⟨d, h1, h2, h3, fun e e1 e2 e3 => hs ⟨e, e1, e2, e3⟩⟩
  exact key w.length ⟨w.length, h0, Nat.le_refl _, Rp.all w⟩
theorem least_dvd {w : W} {d k : Nat} (h1 : 0 < d) (h2 : Rp w d) (h3 : ∀ e, 0 < e → e < d → ¬ Rp w e) (hk : Rp w k) : k % d = 0 := by
  apply Classical.byContradiction
  intro hn
  refine h3 (k % d) (by (first | lia | omega)) (Nat.mod_lt _ h1) ?_
  refine Rp.sub (h2.mul (k / d)) ?_
  have e : k / d * d + k % d = k := by rw [Nat.mul_comm]; exact Nat.div_add_mod k d
  rw [e]
  exact hk
set_option genInjectivity false in
structure RootLen (w : W) (p : Nat) : Prop where
  pos : 0 < p
  le : p ≤ w.length
  is : rep (w.length / p) (w.take p) = w
  no : ∀ q, 0 < q → q < p → rep (w.length / q) (w.take q) ≠ w
theorem RootLen.rp {w : W} {p : Nat} (h : RootLen w p) : Rp w p ∧ w.length % p = 0 ∧ ∀ e, 0 < e → e < p → ¬ Rp w e := by
  have h0 : 0 < w.length := Nat.lt_of_lt_of_le h.pos h.le
  obtain ⟨_, hd, hr⟩ := rp_of_rep h.le h.is h0
  refine ⟨hr, hd, fun e e1 e2 e3 => ?_⟩
  obtain ⟨d, g1, g2, g3, g4⟩ := least_rp h0
  have hdn := least_dvd g1 g3 g4 (Rp.all w)
  have hde : d ≤ e := by
    apply Classical.byContradiction
    intro z
    have := least_dvd g1 g3 g4 e3
    rw [Nat.mod_eq_of_lt (by (first | lia | omega))] at this
    (first | lia | omega)
  exact h.no d g1 (by (first | lia | omega)) (rep_of_rp g3 g1 g2 hdn)
theorem RootLen.uniq {w : W} {p q : Nat} (h : RootLen w p) (h' : RootLen w q) : p = q := by
  rcases Nat.lt_trichotomy p q with z | z | z
  · exact absurd h.is (h'.no p h.pos z)
  · exact z
  · exact absurd h'.is (h.no q h'.pos z)
end Wd
namespace Wd
theorem rootLen_ex {w : W} (h0 : 0 < w.length) : ∃ p, RootLen w p := by
  have key : ∀ n, (∃ p, 0 < p ∧ p ≤ n ∧ p ≤ w.length ∧ rep (w.length / p) (w.take p) = w) → ∃ p, RootLen w p := by
    intro n
    induction n with
    | zero => rintro ⟨p, h1, h2, _⟩; (first | lia | omega)
    | succ n ih =>
      rintro ⟨p, h1, h2, h3, h4⟩
      by_cases hs : ∃ q, 0 < q ∧ q < p ∧ rep (w.length / q) (w.take q) = w
      · obtain ⟨q, q1, q2, q3⟩ := hs
        exact ih ⟨q, q1, by (first | lia | omega), by (first | lia | omega), q3⟩
      · exact ⟨p, h1, h3, h4, fun q q1 q2 q3 => hs ⟨q, q1, q2, q3⟩⟩
  exact key w.length ⟨w.length, h0, Nat.le_refl _, Nat.le_refl _, by rw [Nat.div_self h0, List.take_length, rep_one]⟩
end Wd

namespace Wd
end Wd

namespace Wd
noncomputable def spell (k : Nat) : Nat → Nat → W
  | 0, _ => []
  | n + 1, N => spell k n (N / k) ++ [97 + N % k]
theorem spell_len (k : Nat) : ∀ n N, (spell k n N).length = n
  | 0, _ => rfl
  | n + 1, N => by rw [spell, List.length_append, spell_len k n]; rfl
theorem spell_rev (k : Nat) : ∀ n N, ((List.range n).map fun i => 97 + N / k ^ i % k).reverse = spell k n N
  | 0, _ => rfl
  | n + 1, N => by
    rw [List.range_succ_eq_map, List.map_cons, List.map_map, List.reverse_cons, spell, ← spell_rev k n (N / k), Nat.pow_zero, Nat.div_one]
    congr 3
    funext i
    show 97 + N / k ^ (i + 1) % k = 97 + N / k / k ^ i % k
    rw [Nat.div_div_eq_div_mul, Nat.pow_succ, Nat.mul_comm]
theorem spell_lt {k : Nat} (hk : 0 < k) : ∀ n N M, N < M → M < k ^ n → spell k n N < spell k n M
  | 0, N, M, h1, h2 => by rw [Nat.pow_zero] at h2; (first | lia | omega)
  | n + 1, N, M, h1, h2 => by
    rw [spell, spell]
    have hle : N / k ≤ M / k := Nat.div_le_div_right (Nat.le_of_lt h1)
    rcases Nat.lt_or_eq_of_le hle with h | h
    · exact lt_app (spell_lt hk n _ _ h (Nat.div_lt_of_lt_mul (by rw [Nat.mul_comm, ← Nat.pow_succ]; exact h2))) (by rw [spell_len, spell_len]; exact Nat.le_refl _) _ _
    · rw [h, lt_app_left]
      have e1 := Nat.div_add_mod N k
      have e2 := Nat.div_add_mod M k
      rw [h] at e1
      have : N % k < M % k := by (first | lia | omega)
      rw [List.cons_lt_cons_iff]
      left
      (first | lia | omega)
theorem spell_mem {k : Nat} (hk : 0 < k) : ∀ n N, ∀ c ∈ spell k n N, 97 ≤ c ∧ c < 97 + k
  | 0, _, c, h => by cases h
  | n + 1, N, c, h => by
    rw [spell, List.mem_append] at h
    rcases h with h | h
    · exact spell_mem hk n _ c h
    · have e : c = 97 + N % k := by simpa using h
      have := Nat.mod_lt N hk
      (first | lia | omega)
noncomputable def num (k : Nat) (w : W) : Nat := w.foldl (fun a c => a * k + (c - 97)) 0
theorem num_snoc (k : Nat) (w : W) (c : Nat) : num k (w ++ [c]) = num k w * k + (c - 97) := by
  unfold num
  rw [List.foldl_append]
  rfl
theorem num_spell {k : Nat} (hk : 0 < k) : ∀ n N, N < k ^ n → num k (spell k n N) = N
  | 0, N, h => by
    rw [Nat.pow_zero] at h
    have : N = 0 := by (first | lia | omega)
    subst this
    rfl
  | n + 1, N, h => by
    rw [spell, num_snoc, num_spell hk n _ (Nat.div_lt_of_lt_mul (by rw [Nat.mul_comm, ← Nat.pow_succ]; exact h))]
    have e := Nat.div_add_mod N k
    rw [Nat.mul_comm] at e
    (first | lia | omega)
theorem snoc_ex {w : W} (h : 0 < w.length) : ∃ u c, w = u ++ [c] := by
  exact ⟨w.dropLast, w.getLast (List.length_pos_iff.mp h), (List.dropLast_concat_getLast _).symm⟩
theorem spell_num {k : Nat} : ∀ (n : Nat) (w : W), w.length = n → (∀ c ∈ w, 97 ≤ c ∧ c < 97 + k) → spell k n (num k w) = w ∧ num k w < k ^ n
  | 0, w, h, _ => by
    have : w = [] := List.length_eq_zero_iff.mp h
    subst this
    exact ⟨rfl, by rw [Nat.pow_zero]; exact Nat.zero_lt_one⟩
  | n + 1, w, h, hw => by
    obtain ⟨u, c, rfl⟩ := snoc_ex (w := w) (by (first | lia | omega))
    rw [List.length_append] at h
    have hu : u.length = n := by
      have : [c].length = 1 := rfl
      (first | lia | omega)
    obtain ⟨h1, h2⟩ := spell_num n u hu fun d hd => hw d (List.mem_append_left _ hd)
    have hc := hw c (by simp)
    have hk : 0 < k := by (first | lia | omega)
    have hd : (num k u * k + (c - 97)) / k = num k u := by rw [Nat.add_comm, Nat.add_mul_div_right _ _ hk, Nat.div_eq_of_lt (by (first | lia | omega)), Nat.zero_add]
    have hm : (num k u * k + (c - 97)) % k = c - 97 := by rw [Nat.add_comm, Nat.add_mul_mod_self_right, Nat.mod_eq_of_lt (by (first | lia | omega))]
    rw [num_snoc, spell, hd, hm, h1]
    refine ⟨by rw [show 97 + (c - 97) = c by (first | lia | omega)], ?_⟩
    rw [Nat.pow_succ]
    have : num k u * k + k ≤ k ^ n * k := by rw [← Nat.succ_mul]; exact Nat.mul_le_mul_right k h2
    (first | lia | omega)
noncomputable def allW (k n : Nat) : List W := (List.range (k ^ n)).map (spell k n)
theorem allW_len (k n : Nat) : (allW k n).length = k ^ n := by rw [allW, List.length_map, List.length_range]
end Wd

namespace Wd
noncomputable def Nle (f : Nat → Nat) (n k : Nat) : Prop := ∃ i, i < n ∧ (∀ t, t < i → f ((k + t) % n) = f t) ∧ f ((k + i) % n) < f i
theorem nle_same {f : Nat → Nat} {n k : Nat} (hw : ¬ Nle f n k) : ∀ m, m ≤ n → (∀ t, t < m → f ((k + t) % n) ≤ f t) → ∀ t, t < m → f ((k + t) % n) = f t
  | 0, _, _, t, ht => by (first | lia | omega)
  | m + 1, hm, h, t, ht => by
    have ih := nle_same hw m (by (first | lia | omega)) (fun t ht => h t (by (first | lia | omega)))
    by_cases e : t = m
    · subst e
      have h1 := h t (by (first | lia | omega))
      apply Classical.byContradiction
      intro hne
      exact hw ⟨t, by (first | lia | omega), ih, by (first | lia | omega)⟩
    · exact ih t (by (first | lia | omega))
theorem grow_core {u w : Nat → Nat} {n j top : Nat} (hj : j < n) (hw : ∀ k, k < n → ¬ Nle w n k) (ha : ∀ i, i < j → u i = w i) (hb : w j ≤ u j) (hc : ∀ i, j < i → i < n → u i = top) (ht : ∀ i, i < n → w i ≤ top ∧ u i ≤ top) : ∀ k, k < n → ¬ Nle u n k := by
  rintro k hk ⟨i, hi, he, hl⟩
  have hn : 0 < n := by (first | lia | omega)
  have hle : ∀ t, t < n → w t ≤ u t := fun t h => by
    rcases Nat.lt_trichotomy t j with h1 | h1 | h1
    · exact Nat.le_of_eq (ha t h1).symm
    · subst h1; exact hb
    · rw [hc t h1 h]; exact (ht t h).1
  have hm : ∀ x, x % n < n := fun x => Nat.mod_lt _ hn
  have hk0 : 0 < k := by
    rcases Nat.eq_zero_or_pos k with h0 | h0
    · subst h0
      rw [Nat.zero_add, Nat.mod_eq_of_lt hi] at hl
      (first | lia | omega)
    · exact h0
  have hij : j ≤ i := by
    apply Classical.byContradiction
    intro hij
    have h1 := nle_same (hw k hk) i (by (first | lia | omega)) (fun t h => by
      rw [← ha t (by (first | lia | omega)), ← he t h]
      exact hle _ (hm _))
    refine hw k hk ⟨i, hi, h1, ?_⟩
    rw [← ha i (by (first | lia | omega))]
    exact Nat.lt_of_le_of_lt (hle _ (hm _)) hl
  have hki : n ≤ k + i := by
    apply Classical.byContradiction
    intro h
    rw [Nat.mod_eq_of_lt (by (first | lia | omega)), hc (k + i) (by (first | lia | omega)) (by (first | lia | omega))] at hl
    have := (ht i hi).2
    (first | lia | omega)
  have hall : (∀ t, t < n → u t = top) → False := fun h => by
    rw [h i hi, h _ (hm _)] at hl
    (first | lia | omega)
  by_cases hc1 : n - k ≤ j
  · have h1 := nle_same (hw k hk) (n - k) (by (first | lia | omega)) (fun t h => by
      rw [← ha t (by (first | lia | omega)), ← he t (by (first | lia | omega))]
      exact hle _ (hm _))
    have h2 : ∀ t, k ≤ t → t < n → w t = u t := fun t h3 h4 => by
      have e1 := h1 (t - k) (by (first | lia | omega))
      have e2 := he (t - k) (by (first | lia | omega))
      rw [show k + (t - k) = t by (first | lia | omega), Nat.mod_eq_of_lt h4] at e1 e2
      rw [e1, e2, ha (t - k) (by (first | lia | omega))]
    by_cases hkj : k ≤ j
    · have h3 : ∀ t, t < n → u t = w t := fun t h => by
        by_cases h4 : t < j
        · exact ha t h4
        · exact (h2 t (by (first | lia | omega)) h).symm
      refine hw k hk ⟨i, hi, fun t h => ?_, ?_⟩
      · rw [← h3 _ (hm _), ← h3 t (by (first | lia | omega))]; exact he t h
      · rw [← h3 _ (hm _), ← h3 i hi]; exact hl
    · have h3 : w 0 = top := by
        have e1 := h1 0 (by (first | lia | omega))
        rw [Nat.add_zero, Nat.mod_eq_of_lt hk] at e1
        rw [← e1, h2 k (Nat.le_refl _) hk, hc k (by (first | lia | omega)) hk]
      apply hall
      intro t h
      have h4 : top ≤ w t := by
        apply Classical.byContradiction
        intro h5
        refine hw t h ⟨0, hn, fun s h6 => by (first | lia | omega), ?_⟩
        rw [Nat.add_zero, Nat.mod_eq_of_lt h, h3]
        (first | lia | omega)
      have h5 := hle t h
      have h6 := (ht t h).2
      (first | lia | omega)
  · apply hall
    have h3 : ∀ m t, t < n → n - t ≤ m → u t = top := by
      intro m
      induction m with
      | zero => intro t h1 h2; (first | lia | omega)
      | succ m ih =>
        intro t h1 h2
        by_cases h4 : t + k < n
        · have e2 := he t (by (first | lia | omega))
          rw [Nat.mod_eq_of_lt (by (first | lia | omega))] at e2
          rw [← e2]
          exact ih (k + t) (by (first | lia | omega)) (by (first | lia | omega))
        · exact hc t (by (first | lia | omega)) h1
    intro t h
    exact h3 n t h (by (first | lia | omega))

noncomputable def Okk (k : Nat) (w : W) : Prop := ∀ c ∈ w, 97 ≤ c ∧ c < 97 + k
noncomputable def Lst (w : W) : Prop := w = least w
theorem lst_iff {w : W} : Lst w ↔ ∀ k, k < w.length → ¬ rot k w < w := by
  constructor
  · intro h k hk
    have := least_min hk
    rw [← h] at this
    exact this
  · intro h
    rcases Nat.eq_zero_or_pos w.length with h0 | h0
    · have : w = [] := List.length_eq_zero_iff.mp h0
      subst this
      rfl
    · obtain ⟨i, hi, e⟩ := least_mem h0
      have h1 := h i hi
      rw [← e] at h1
      have h2 := least_min h0
      rw [rot_zero] at h2
      exact tri h2 h1
theorem gD {w : W} {i : Nat} (h : i < w.length) : w[i]? = some (w.getD i 0) := by
  rw [List.getD_eq_getElem?_getD, List.getElem?_eq_getElem h]; rfl
theorem rot_lt_iff {w : W} {k : Nat} (hk : k < w.length) : rot k w < w ↔ Nle (fun i => w.getD i 0) w.length k := by
  have hn : 0 < w.length := by (first | lia | omega)
  have hm : ∀ x, x % w.length < w.length := fun x => Nat.mod_lt _ hn
  have hg : ∀ t, t < w.length → (rot k w)[t]? = some (w.getD ((k + t) % w.length) 0) := fun t ht => by
    rw [rot_get (Nat.le_of_lt hk) ht, gD (hm _)]
  constructor
  · intro h
    rcases lt_parts h with ⟨j, c, d, h1, h2, h3, h4⟩ | ⟨h1, _⟩
    · have hj : j < w.length := (List.getElem?_eq_some_iff.mp h3).1
      refine ⟨j, hj, fun t ht => ?_, ?_⟩
      · have e := h1 t ht
        rw [hg t (by (first | lia | omega)), gD (by (first | lia | omega))] at e
        exact Option.some.inj e
      · rw [hg j hj] at h2
        rw [gD hj] at h3
        have e1 := Option.some.inj h2
        have e2 := Option.some.inj h3
        show w.getD ((k + j) % w.length) 0 < w.getD j 0
        (first | lia | omega)
    · rw [rot_length] at h1
      (first | lia | omega)
  · rintro ⟨i, hi, h1, h2⟩
    refine lt_at (j := i) (fun t ht => ?_) (hg i hi) (gD hi) h2
    rw [hg t (by (first | lia | omega)), gD (by (first | lia | omega))]
    exact congrArg some (h1 t ht)
theorem lst_nle {w : W} : Lst w ↔ ∀ k, k < w.length → ¬ Nle (fun i => w.getD i 0) w.length k := by
  rw [lst_iff]
  constructor
  · intro h k hk h1; exact h k hk ((rot_lt_iff hk).mpr h1)
  · intro h k hk h1; exact h k hk ((rot_lt_iff hk).mp h1)

noncomputable def fill (k n : Nat) (p : W) : W := p ++ List.replicate (n - p.length) (96 + k)
theorem fill_len {k n : Nat} {p : W} (h : p.length ≤ n) : (fill k n p).length = n := by
  unfold fill; rw [List.length_append, List.length_replicate]; (first | lia | omega)
theorem fill_all {k n : Nat} {p : W} (h : n ≤ p.length) : fill k n p = p := by
  unfold fill; rw [show n - p.length = 0 by (first | lia | omega)]; exact List.append_nil _
theorem fill_snoc {k n : Nat} {p : W} (h : p.length < n) : fill k n (p ++ [96 + k]) = fill k n p := by
  unfold fill
  rw [List.length_append, List.length_singleton, List.append_assoc, List.singleton_append, ← List.replicate_succ]
  congr 2
  (first | lia | omega)
theorem okk_app {k : Nat} {p q : W} : Okk k (p ++ q) ↔ Okk k p ∧ Okk k q := by
  unfold Okk
  constructor
  · intro h; exact ⟨fun c hc => h c (List.mem_append_left _ hc), fun c hc => h c (List.mem_append_right _ hc)⟩
  · rintro ⟨h1, h2⟩ c hc
    rcases List.mem_append.mp hc with h | h
    · exact h1 c h
    · exact h2 c h
theorem okk_fill {k n : Nat} {p : W} (hk : 0 < k) (h : Okk k p) : Okk k (fill k n p) := by
  unfold fill
  rw [okk_app]
  refine ⟨h, fun c hc => ?_⟩
  have := List.eq_of_mem_replicate hc
  (first | lia | omega)
theorem okk_getD {k : Nat} {w : W} {i : Nat} (h : Okk k w) (hi : i < w.length) : 97 ≤ w.getD i 0 ∧ w.getD i 0 < 97 + k := by
  apply h
  rw [List.getD_eq_getElem?_getD, List.getElem?_eq_getElem hi]
  exact List.getElem_mem hi
theorem lst_grow {k : Nat} {p r : W} {c d : Nat} (hk : 0 < k) (hw : Lst (p ++ c :: r)) (ho : Okk k (p ++ c :: r)) (hcd : c ≤ d) (hd : d < 97 + k) : Lst (fill k (p ++ c :: r).length (p ++ [d])) := by
  generalize hW : p ++ c :: r = w at *
  have hn : w.length = p.length + 1 + r.length := by rw [← hW, List.length_append, List.length_cons]; (first | lia | omega)
  have hl : (fill k w.length (p ++ [d])).length = w.length := fill_len (by rw [List.length_append, List.length_singleton]; (first | lia | omega))
  rw [lst_nle, hl]
  have hc97 : 97 ≤ c := (ho c (by rw [← hW]; exact List.mem_append_right _ (List.mem_cons_self))).1
  have hop : Okk k p := (okk_app.mp (hW ▸ ho)).1
  have hu : Okk k (fill k w.length (p ++ [d])) := okk_fill hk (okk_app.mpr ⟨hop, fun x hx => by
    rw [List.mem_singleton] at hx; (first | lia | omega)⟩)
  refine grow_core (w := fun i => w.getD i 0) (j := p.length) (top := 96 + k) (by (first | lia | omega)) (lst_nle.mp hw) ?_ ?_ ?_ ?_
  · intro i hi
    simp only [List.getD_eq_getElem?_getD, ← hW]
    unfold fill
    rw [List.append_assoc, List.getElem?_append_left hi, List.getElem?_append_left hi]
  · simp only [List.getD_eq_getElem?_getD, ← hW]
    unfold fill
    rw [List.append_assoc, List.getElem?_append_right (Nat.le_refl _), List.getElem?_append_right (Nat.le_refl _)]
    simp only [Nat.sub_self]
    exact hcd
  · intro i h1 h2
    simp only [List.getD_eq_getElem?_getD]
    unfold fill
    rw [List.getElem?_append_right (by rw [List.length_append, List.length_singleton]; (first | lia | omega)), List.getElem?_replicate_of_lt (by rw [List.length_append, List.length_singleton]; (first | lia | omega))]
    rfl
  · intro i hi
    have h1 := okk_getD ho hi
    have h2 := okk_getD hu (i := i) (by rw [hl]; exact hi)
    exact ⟨by show w.getD i 0 ≤ _; (first | lia | omega), by show (fill k w.length (p ++ [d])).getD i 0 ≤ _; (first | lia | omega)⟩
noncomputable def IsB (k n : Nat) (p : W) : Prop := p.length ≤ n ∧ Lst (fill k n p)
noncomputable instance (w : W) : Decidable (Lst w) := inferInstanceAs (Decidable (w = least w))
noncomputable instance (k n : Nat) (p : W) : Decidable (IsB k n p) := inferInstanceAs (Decidable (_ ∧ _))
set_option genInjectivity false in
structure LW (k n : Nat) (w : W) : Prop where
  len : w.length = n
  ok : Okk k w
  lst : Lst w
theorem LW.isB {k n : Nat} {w p q : W} (hk : 0 < k) (h : LW k n w) (e : w = p ++ q) : IsB k n p := by
  subst e
  have hl := h.len
  rw [List.length_append] at hl
  refine ⟨by (first | lia | omega), ?_⟩
  cases q with
  | nil => rw [List.append_nil] at h; rw [List.length_nil] at hl; rw [fill_all (by (first | lia | omega))]; exact h.lst
  | cons c r =>
    rw [List.length_cons] at hl
    have h1 := lst_grow hk h.lst h.ok (d := 96 + k) (by have := (h.ok c (List.mem_append_right _ List.mem_cons_self)).2; (first | lia | omega)) (by (first | lia | omega))
    rw [h.len, fill_snoc (by (first | lia | omega))] at h1
    exact h1
theorem IsB.lw {k n : Nat} {p : W} (hk : 0 < k) (h : IsB k n p) (ho : Okk k p) : LW k n (fill k n p) := ⟨fill_len h.1, okk_fill hk ho, h.2⟩
theorem IsB.snoc {k n : Nat} {p : W} (h : IsB k n p) (hn : p.length < n) : IsB k n (p ++ [96 + k]) := by
  refine ⟨by rw [List.length_append, List.length_singleton]; (first | lia | omega), ?_⟩
  rw [fill_snoc hn]
  exact h.2
end Wd

namespace Wd
set_option genInjectivity false in
structure LF (k n : Nat) (p q : W) : Prop where
  isb : IsB k n q
  ok : Okk k q
  pre : ∃ s, q = p ++ s
  low : ∀ w, LW k n w → (∃ s, w = p ++ s) → ¬ w.take q.length < q
theorem LF.start {k n : Nat} {p : W} (h : IsB k n p) (ho : Okk k p) : LF k n p p := ⟨h, ho, ⟨[], (List.append_nil _).symm⟩, fun w _ ⟨s, e⟩ => by
  rw [e, List.take_left' rfl]
  exact ltir _⟩
theorem take_split {w : W} {m : Nat} (h : m < w.length) : w = w.take m ++ w.getD m 0 :: w.drop (m + 1) := by
  have : w.getD m 0 = w[m] := by rw [List.getD_eq_getElem?_getD, List.getElem?_eq_getElem h]; rfl
  rw [this, ← List.drop_eq_getElem_cons h, List.take_append_drop]
theorem take_snoc {w : W} {m : Nat} (h : m < w.length) : w.take (m + 1) = w.take m ++ [w.getD m 0] := by
  rw [List.take_add_one, gD h]; rfl
theorem LF.step {k n : Nat} {p q : W} {c : Nat} (hk : 0 < k) (h : LF k n p q) (hq : q.length < n) (hc : 97 ≤ c ∧ c < 97 + k) (hb : IsB k n (q ++ [c])) (hno : ∀ d, 97 ≤ d → d < c → ¬ IsB k n (q ++ [d])) : LF k n p (q ++ [c]) := by
  refine ⟨hb, okk_app.mpr ⟨h.ok, fun x hx => by rw [List.mem_singleton] at hx; (first | lia | omega)⟩, ?_, ?_⟩
  · obtain ⟨s, e⟩ := h.pre
    exact ⟨s ++ [c], by rw [e, List.append_assoc]⟩
  · intro w hw hs hl
    have h1 := h.low w hw hs
    have hlen := hw.len
    rw [List.length_append, List.length_singleton, take_snoc (by (first | lia | omega))] at hl
    rcases lt_of_app (by rw [List.length_take]; (first | lia | omega)) hl with h2 | ⟨h2, h3⟩
    · exact h1 h2
    · have hd := okk_getD hw.ok (i := q.length) (by (first | lia | omega))
      have h4 : w.getD q.length 0 < c := by
        rcases lt_parts h3 with ⟨j, a, b, _, e2, e3, h5⟩ | ⟨h5, _⟩
        · have hj : j < [c].length := (List.getElem?_eq_some_iff.mp e3).1
          rw [List.length_singleton] at hj
          have : j = 0 := by (first | lia | omega)
          subst this
          have e4 := Option.some.inj e2
          have e5 := Option.some.inj e3
          (first | lia | omega)
        · simp at h5
      refine hno _ hd.1 h4 (hw.isB hk (q := w.drop (q.length + 1)) ?_)
      rw [← h2, List.append_assoc, List.singleton_append]
      rw [List.length_take, Nat.min_eq_left (by (first | lia | omega))]
      exact take_split (by (first | lia | omega))
set_option genInjectivity false in
structure LB (k n : Nat) (p r : W) : Prop where
  lw : LW k n r
  pre : ∃ s, r = p ++ s
  low : ∀ w, LW k n w → (∃ s, w = p ++ s) → ¬ w < r
theorem LF.done {k n : Nat} {p q : W} (h : LF k n p q) (hq : n ≤ q.length) : LB k n p q := by
  have hl : q.length = n := by have := h.isb.1; (first | lia | omega)
  have h1 := h.isb.2
  rw [fill_all hq] at h1
  refine ⟨⟨hl, h.ok, h1⟩, h.pre, fun w hw hs => ?_⟩
  have h2 := h.low w hw hs
  rw [hl, List.take_of_length_le (by rw [hw.len]; exact Nat.le_refl _)] at h2
  exact h2
theorem LB.uniq {k n : Nat} {p r s : W} (h : LB k n p r) (h' : LB k n p s) : r = s :=
  tri (h'.low r h.lw h.pre) (h.low s h'.lw h'.pre)
theorem lt_split {a b : W} (hl : a.length = b.length) (h : a < b) : ∃ p, p < a.length ∧ a.take p = b.take p ∧ a.getD p 0 < b.getD p 0 := by
  rcases lt_parts h with ⟨j, c, d, h1, h2, h3, h4⟩ | ⟨h1, _⟩
  · have hj : j < a.length := (List.getElem?_eq_some_iff.mp h2).1
    refine ⟨j, hj, ?_, ?_⟩
    · apply ext_get
      · rw [List.length_take, List.length_take, hl]
      · intro i hi
        rw [List.length_take] at hi
        rw [take_get (by (first | lia | omega)), take_get (by (first | lia | omega))]
        exact h1 i (by (first | lia | omega))
    · rw [gD hj] at h2
      rw [gD (by (first | lia | omega))] at h3
      have e1 := Option.some.inj h2
      have e2 := Option.some.inj h3
      (first | lia | omega)
  · (first | lia | omega)
theorem lt_join {a b : W} {p : Nat} (ha : p < a.length) (hb : p < b.length) (h1 : a.take p = b.take p) (h2 : a.getD p 0 < b.getD p 0) : a < b := by
  refine lt_at (j := p) (fun i hi => ?_) (gD ha) (gD hb) h2
  rw [← take_get hi, h1, take_get hi]
theorem getD_take {v w : W} {m p : Nat} (h : p < m) (e : v.take m = w.take m) : v.getD p 0 = w.getD p 0 := by
  rw [List.getD_eq_getElem?_getD, List.getD_eq_getElem?_getD, ← take_get h, e, take_get h]
noncomputable def Nn (k : Nat) (w : W) (m : Nat) : Prop := ∀ v, LW k w.length v → ∀ p, m ≤ p → p < w.length → v.take p = w.take p → ¬ w.getD p 0 < v.getD p 0
theorem Nn.start (k : Nat) (w : W) : Nn k w w.length := fun v _ p h1 h2 => by (first | lia | omega)
theorem Nn.step {k : Nat} {w : W} {m : Nat} (hk : 0 < k) (h : Nn k w (m + 1)) (hm : m < w.length) (hno : ∀ d, 97 ≤ d → d < 97 + k → w.getD m 0 < d → ¬ IsB k w.length (w.take m ++ [d])) : Nn k w m := by
  intro v hv p h1 h2 h3 h4
  by_cases e : p = m
  · subst e
    have hl := hv.len
    have h5 := okk_getD hv.ok (i := p) (by (first | lia | omega))
    refine hno _ h5.1 h5.2 h4 (hv.isB hk (q := v.drop (p + 1)) ?_)
    rw [← h3, List.append_assoc, List.singleton_append]
    exact take_split (by (first | lia | omega))
  · exact h v hv p (by (first | lia | omega)) h2 h3 h4
set_option genInjectivity false in
structure NX (k : Nat) (w r : W) : Prop where
  lw : LW k w.length r
  gt : w < r
  low : ∀ v, LW k w.length v → w < v → ¬ v < r
theorem Nn.found {k : Nat} {w r : W} {m c : Nat} (hk : 0 < k) (h : Nn k w (m + 1)) (hm : m < w.length) (hc : w.getD m 0 < c) (hno : ∀ d, 97 ≤ d → d < c → w.getD m 0 < d → ¬ IsB k w.length (w.take m ++ [d])) (hr : LB k w.length (w.take m ++ [c]) r) : NX k w r := by
  have hrl := hr.lw.len
  obtain ⟨s, es⟩ := hr.pre
  have hmt : (w.take m).length = m := by rw [List.length_take]; (first | lia | omega)
  have e1 : r.take m = w.take m := by
    rw [es, List.append_assoc, List.take_left' hmt]
  have e2 : r.getD m 0 = c := by
    rw [es, List.getD_eq_getElem?_getD, List.append_assoc, List.getElem?_append_right (by (first | lia | omega)), hmt, Nat.sub_self]
    rfl
  refine ⟨hr.lw, lt_join hm (by (first | lia | omega)) e1.symm (by rw [e2]; exact hc), ?_⟩
  intro v hv hwv hvr
  have hvl := hv.len
  obtain ⟨p, h1, h2, h3⟩ := lt_split hvl.symm hwv
  rcases Nat.lt_trichotomy p m with h4 | h4 | h4
  · refine ltir v (ltt hvr (lt_join (p := p) (by (first | lia | omega)) (by (first | lia | omega)) ?_ ?_))
    · have := congrArg (List.take p) e1
      rw [List.take_take, List.take_take, Nat.min_eq_left (by (first | lia | omega))] at this
      rw [this, h2]
    · have : r.getD p 0 = w.getD p 0 := by
        rw [List.getD_eq_getElem?_getD, List.getD_eq_getElem?_getD, ← take_get h4, e1, take_get h4]
      rw [this]; exact h3
  · subst h4
    have h5 := okk_getD hv.ok (i := p) (by (first | lia | omega))
    have hpre : v = (w.take p ++ [v.getD p 0]) ++ v.drop (p + 1) := by
      rw [h2, List.append_assoc, List.singleton_append]
      exact take_split (by (first | lia | omega))
    rcases Nat.lt_trichotomy (v.getD p 0) c with h6 | h6 | h6
    · exact hno _ h5.1 h6 h3 (hv.isB hk hpre)
    · exact hr.low v hv ⟨v.drop (p + 1), by rw [← h6]; exact hpre⟩ hvr
    · exact ltir v (ltt hvr (lt_join (p := p) (by (first | lia | omega)) (by (first | lia | omega)) (by rw [e1, h2]) (by rw [e2]; exact h6)))
  · exact h v hv p (by (first | lia | omega)) h1 h2.symm h3
theorem Nn.none {k : Nat} {w : W} (h : Nn k w 0) : ∀ v, LW k w.length v → ¬ w < v := fun v hv hwv => by
  obtain ⟨p, h1, h2, h3⟩ := lt_split hv.len.symm hwv
  exact h v hv p (Nat.zero_le _) h1 h2.symm h3
set_option genInjectivity false in
structure LL (k : Nat) (w r : W) : Prop where
  lw : LW k w.length r
  le : ¬ w < r
  high : ∀ v, LW k w.length v → ¬ w < v → ¬ r < v
noncomputable def Jn (k : Nat) (w : W) (m : Nat) : Prop := ∀ v, LW k w.length v → ¬ w < v → v.take m ≠ w.take m
theorem Jn.start {k : Nat} {w : W} (h : ¬ Lst w) : Jn k w w.length := fun v hv _ e => by
  have h1 := hv.len
  rw [List.take_of_length_le (by (first | lia | omega)), List.take_of_length_le (Nat.le_refl _)] at e
  subst e
  exact h hv.lst
theorem Jn.part {k : Nat} {w v : W} {m : Nat} (h : Jn k w m) (hm : m ≤ w.length) (hv : LW k w.length v) (hle : ¬ w < v) : ∃ p, p < m ∧ v.take p = w.take p ∧ v.getD p 0 < w.getD p 0 := by
  have hl := hv.len
  have h1 : v < w := by
    apply Classical.byContradiction
    intro h2
    exact h v hv hle (by rw [tri hle h2])
  obtain ⟨p, h2, h3, h4⟩ := lt_split hl h1
  refine ⟨p, ?_, h3, h4⟩
  apply Classical.byContradiction
  intro h5
  apply h v hv hle
  have := congrArg (List.take m) h3
  rw [List.take_take, List.take_take, Nat.min_eq_left (by (first | lia | omega))] at this
  exact this
theorem Jn.a {k : Nat} {w : W} {m : Nat} (h : Jn k w (m + 1)) (hm : m < w.length) (ha : w.getD m 0 ≤ 97) : Jn k w m := by
  intro v hv hle e
  obtain ⟨p, h1, h2, h3⟩ := h.part (by (first | lia | omega)) hv hle
  have hl := hv.len
  have h4 := okk_getD hv.ok (i := p) (by (first | lia | omega))
  by_cases h5 : p = m
  · subst h5; (first | lia | omega)
  · have : v.getD p 0 = w.getD p 0 := by
      rw [List.getD_eq_getElem?_getD, List.getD_eq_getElem?_getD, ← take_get (show p < m by (first | lia | omega)), e, take_get (by (first | lia | omega))]
    (first | lia | omega)
theorem Jn.down {k : Nat} {w : W} {m : Nat} (hk : 0 < k) (ho : Okk k w) (h : Jn k w (m + 1)) (hm : m < w.length) (hno : ¬ Lst (fill k w.length (w.take m ++ [w.getD m 0 - 1]))) : Jn k w m := by
  intro v hv hle e
  obtain ⟨p, h1, h2, h3⟩ := h.part (by (first | lia | omega)) hv hle
  have hl := hv.len
  by_cases h5 : p = m
  · subst h5
    apply hno
    have h6 := okk_getD ho hm
    have hs := take_split (w := v) (m := p) (by (first | lia | omega))
    have hlw := hv.lst
    have hok := hv.ok
    have hln := hl
    rw [hs] at hlw hok hln
    have h7 := lst_grow hk hlw hok (d := w.getD p 0 - 1) (by (first | lia | omega)) (by (first | lia | omega))
    rw [hln, h2] at h7
    exact h7
  · have : v.getD p 0 = w.getD p 0 := by
      rw [List.getD_eq_getElem?_getD, List.getD_eq_getElem?_getD, ← take_get (show p < m by (first | lia | omega)), e, take_get (by (first | lia | omega))]
    (first | lia | omega)
theorem le_fill {k : Nat} {v p s : W} (hv : Okk k v) (e : v = p ++ s) : ¬ fill k v.length p < v := by
  intro h
  have hl : (fill k v.length p).length = v.length := fill_len (by rw [e, List.length_append]; (first | lia | omega))
  obtain ⟨j, h1, h2, h3⟩ := lt_split hl h
  rw [hl] at h1
  by_cases hj : j < p.length
  · have e1 : (fill k v.length p).getD j 0 = v.getD j 0 := by
      rw [List.getD_eq_getElem?_getD, List.getD_eq_getElem?_getD]
      unfold fill
      rw [List.getElem?_append_left hj]
      rw [e, List.getElem?_append_left hj]
    (first | lia | omega)
  · have e1 : (fill k v.length p).getD j 0 = 96 + k := by
      rw [List.getD_eq_getElem?_getD]
      unfold fill
      rw [List.getElem?_append_right (by (first | lia | omega)), List.getElem?_replicate_of_lt (by (first | lia | omega))]
      rfl
    have := (okk_getD hv h1).2
    (first | lia | omega)
theorem Jn.found {k : Nat} {w : W} {m : Nat} (hk : 0 < k) (ho : Okk k w) (h : Jn k w (m + 1)) (hm : m < w.length) (ha : 97 < w.getD m 0) (hl : Lst (fill k w.length (w.take m ++ [w.getD m 0 - 1]))) : LL k w (fill k w.length (w.take m ++ [w.getD m 0 - 1])) := by
  have hg := okk_getD ho hm
  have hmt : (w.take m).length = m := by rw [List.length_take]; (first | lia | omega)
  have hlen : (fill k w.length (w.take m ++ [w.getD m 0 - 1])).length = w.length := fill_len (by rw [List.length_append, List.length_singleton]; (first | lia | omega))
  have hot : Okk k (w.take m) := fun c hc => ho c (List.mem_of_mem_take hc)
  have e1 : (fill k w.length (w.take m ++ [w.getD m 0 - 1])).take m = w.take m := by
    unfold fill
    rw [List.append_assoc, List.take_left' hmt]
  have e2 : (fill k w.length (w.take m ++ [w.getD m 0 - 1])).getD m 0 = w.getD m 0 - 1 := by
    rw [List.getD_eq_getElem?_getD]
    unfold fill
    rw [List.append_assoc, List.getElem?_append_right (by (first | lia | omega)), hmt, Nat.sub_self]
    rfl
  refine ⟨⟨hlen, okk_fill hk (okk_app.mpr ⟨hot, fun x hx => by rw [List.mem_singleton] at hx; (first | lia | omega)⟩), hl⟩, ?_, ?_⟩
  · intro hlt
    exact ltir _ (ltt hlt (lt_join (p := m) (by (first | lia | omega)) hm e1 (by (first | lia | omega))))
  · intro v hv hle hlt
    have hvl := hv.len
    obtain ⟨p, h1, h2, h3⟩ := h.part (by (first | lia | omega)) hv hle
    by_cases h5 : p = m
    · subst h5
      rcases Nat.lt_or_ge (v.getD p 0) (w.getD p 0 - 1) with h6 | h6
      · exact ltir _ (ltt hlt (lt_join (p := p) (by (first | lia | omega)) (by (first | lia | omega)) (by rw [e1, h2]) (by (first | lia | omega))))
      · have hs := take_split (w := v) (m := p) (by (first | lia | omega))
        have h7 := le_fill hv.ok (p := w.take p ++ [w.getD p 0 - 1]) (s := v.drop (p + 1)) (by
          rw [← h2, List.append_assoc, List.singleton_append, show w.getD p 0 - 1 = v.getD p 0 by (first | lia | omega)]
          exact hs)
        rw [hvl] at h7
        exact h7 hlt
    · refine ltir _ (ltt hlt (lt_join (p := p) (by (first | lia | omega)) (by (first | lia | omega)) ?_ ?_))
      · have := congrArg (List.take p) e1
        rw [List.take_take, List.take_take, Nat.min_eq_left (by (first | lia | omega))] at this
        rw [this, h2]
      · have : (fill k w.length (w.take m ++ [w.getD m 0 - 1])).getD p 0 = w.getD p 0 := getD_take (show p < m by (first | lia | omega)) e1
        (first | lia | omega)
theorem LL.self {k : Nat} {w : W} (ho : Okk k w) (h : Lst w) : LL k w w := ⟨⟨rfl, ho, h⟩, ltir _, fun _ _ h => h⟩
theorem lst_rep (c n : Nat) : Lst (List.replicate n c) := by
  rw [lst_iff]
  intro j hj
  have : rot j (List.replicate n c) = List.replicate n c := by
    apply ext_get
    · rw [rot_length]
    · intro i hi
      rw [rot_length] at hi
      have hn : 0 < (List.replicate n c).length := by omega
      rw [rot_get (Nat.le_of_lt hj) hi]
      rw [List.length_replicate] at *
      rw [List.getElem?_replicate_of_lt hi, List.getElem?_replicate_of_lt (Nat.mod_lt _ (by omega))]
  rw [this]
  exact ltir _
theorem rep_low {k : Nat} {w : W} (ho : Okk k w) : ¬ w < List.replicate w.length 97 := by
  intro h
  obtain ⟨p, h1, _, h3⟩ := lt_split (by rw [List.length_replicate]) h
  have := okk_getD ho h1
  rw [show (List.replicate w.length 97).getD p 0 = 97 by rw [List.getD_eq_getElem?_getD, List.getElem?_replicate_of_lt h1]; rfl] at h3
  (first | lia | omega)
theorem Jn.zero {k : Nat} {w : W} (hk : 0 < k) (ho : Okk k w) : ¬ Jn k w 0 := fun h => by
  refine h (List.replicate w.length 97) ⟨List.length_replicate .., fun c hc => ?_, lst_rep _ _⟩ (rep_low ho) rfl
  have := List.eq_of_mem_replicate hc
  (first | lia | omega)
end Wd

namespace Wd
theorem mem_allW {k n : Nat} {w : W} (hk : 0 < k) : w ∈ allW k n ↔ w.length = n ∧ Okk k w := by
  unfold allW
  rw [List.mem_map]
  constructor
  · rintro ⟨i, _, rfl⟩
    exact ⟨spell_len k n i, spell_mem hk n i⟩
  · rintro ⟨hl, ho⟩
    obtain ⟨h1, h2⟩ := spell_num n w hl ho
    exact ⟨num k w, List.mem_range.mpr h2, h1⟩
theorem allW_sorted {k n : Nat} (hk : 0 < k) : (allW k n).Pairwise (· < ·) := by
  unfold allW
  rw [List.pairwise_map]
  refine List.Pairwise.imp_of_mem ?_ List.pairwise_lt_range
  intro a b _ hb hab
  exact spell_lt hk n a b hab (List.mem_range.mp hb)
noncomputable def LO (k n : Nat) : List W := (allW k n).filter fun w => decide (least w = w)
theorem mem_LO {k n : Nat} {w : W} (hk : 0 < k) : w ∈ LO k n ↔ LW k n w := by
  unfold LO
  rw [List.mem_filter, mem_allW hk, decide_eq_true_iff]
  constructor
  · rintro ⟨⟨h1, h2⟩, h3⟩; exact ⟨h1, h2, h3.symm⟩
  · rintro ⟨h1, h2, h3⟩; exact ⟨⟨h1, h2⟩, Eq.symm h3⟩
theorem LO_sorted {k n : Nat} (hk : 0 < k) : (LO k n).Pairwise (· < ·) := (allW_sorted hk).filter _
theorem sorted_head {l : List W} {p : W → Bool} (h : l.Pairwise (· < ·)) {w : W} {r : List W} (e : l.filter p = w :: r) : w ∈ l ∧ p w = true ∧ ∀ v ∈ l, p v = true → ¬ v < w := by
  have h1 : w ∈ l.filter p := by rw [e]; exact List.mem_cons_self
  have h2 := h.filter p
  rw [e] at h2
  refine ⟨(List.mem_filter.mp h1).1, (List.mem_filter.mp h1).2, fun v hv hp hlt => ?_⟩
  have h3 : v ∈ w :: r := by rw [← e]; exact List.mem_filter.mpr ⟨hv, hp⟩
  rcases List.mem_cons.mp h3 with h4 | h4
  · rw [h4] at hlt; exact ltir _ hlt
  · exact ltir _ (ltt hlt ((List.pairwise_cons.mp h2).1 v h4))
noncomputable def begs (p w : W) : Bool := decide (w.take p.length = p)
theorem begs_iff {p w : W} : begs p w = true ↔ ∃ s, w = p ++ s := by
  unfold begs
  rw [decide_eq_true_iff]
  constructor
  · intro h
    exact ⟨w.drop p.length, by conv => lhs; rw [← List.take_append_drop p.length w, h]⟩
  · rintro ⟨s, rfl⟩
    exact List.take_left' rfl
theorem begs_head {k n : Nat} {p w : W} {r : List W} (hk : 0 < k) (e : (LO k n).filter (begs p) = w :: r) : LB k n p w := by
  obtain ⟨h1, h2, h3⟩ := sorted_head (LO_sorted hk) e
  refine ⟨(mem_LO hk).mp h1, begs_iff.mp h2, fun v hv hs => h3 v ((mem_LO hk).mpr hv) (begs_iff.mpr hs)⟩
theorem rep_letter (m c : Nat) : rep m [c] = List.replicate m c := by
  induction m with
  | zero => rfl
  | succ m ih => rw [rep_succ, ih, List.replicate_succ]; rfl
end Wd

namespace Wd
end Wd

namespace Wd
theorem okk_rot {k j : Nat} {w : W} (h : Okk k w) : Okk k (rot j w) := fun c hc => by
  unfold rot at hc
  rcases List.mem_append.mp hc with z | z
  · exact h c (List.mem_of_mem_drop z)
  · exact h c (List.mem_of_mem_take z)
theorem lw_least {k : Nat} {w : W} (h0 : 0 < w.length) (ho : Okk k w) : LW k w.length (least w) := by
  obtain ⟨i, hi, e⟩ := least_mem h0
  refine ⟨by rw [e, rot_length], by rw [e]; exact okk_rot ho, ?_⟩
  show least w = least (least w)
  conv => rhs; rw [e, least_rot hi]
theorem between {p a b v : W} (ha : ∃ s, a = p ++ s) (hb : ∃ s, b = p ++ s) (hv : p.length ≤ v.length) (h1 : ¬ v < a) (h2 : ¬ b < v) : ∃ s, v = p ++ s := by
  obtain ⟨x, rfl⟩ := ha
  obtain ⟨y, rfl⟩ := hb
  refine ⟨v.drop p.length, ?_⟩
  have hl : (v.take p.length).length = p.length := by rw [List.length_take]; (first | lia | omega)
  have e : v = v.take p.length ++ v.drop p.length := (List.take_append_drop _ _).symm
  have h3 : ¬ v.take p.length < p := fun z => h1 (by rw [e]; exact lt_app z (by (first | lia | omega)) _ _)
  have h4 : ¬ p < v.take p.length := fun z => h2 (by rw [e]; exact lt_app z (by (first | lia | omega)) _ _)
  conv => lhs; rw [e, tri h3 h4]
end Wd

namespace Wd
theorem rp_of_rots {w : W} {i j : Nat} (hij : i ≤ j) (hj : j ≤ w.length) (h : rot i w = rot j w) : Rp w (j - i) := by
  intro x
  rcases Nat.eq_zero_or_pos w.length with z | hn
  · have : w = [] := List.length_eq_zero_iff.mp z
    subst this
    rfl
  · have hm := Nat.mod_lt (x % w.length + w.length - i) hn
    have e := congrArg (fun l : W => l[(x % w.length + w.length - i) % w.length]?) h
    rw [rot_get (by (first | lia | omega)) hm, rot_get hj hm, Nat.add_mod_mod, Nat.add_mod_mod] at e
    rw [show i + (x % w.length + w.length - i) = x % w.length + w.length by (first | lia | omega), Nat.add_mod_right, Nat.mod_mod] at e
    rw [show j + (x % w.length + w.length - i) = (x % w.length + (j - i)) + w.length by (first | lia | omega), Nat.add_mod_right, Nat.mod_add_mod] at e
    exact e
theorem rot_mod {w : W} {p k : Nat} (h : Rp w p) (hk : k ≤ w.length) : rot k w = rot (k % p) w := by
  have hle : k % p ≤ w.length := Nat.le_trans (Nat.mod_le _ _) hk
  apply ext_get
  · rw [rot_length, rot_length]
  · intro m hm
    rw [rot_length] at hm
    rw [rot_get hk hm, rot_get hle hm]
    have e := h.mul (k / p) (k % p + m)
    rw [e]
    congr 2
    have := Nat.div_add_mod k p
    rw [Nat.mul_comm] at this
    (first | lia | omega)
theorem nodup_le : ∀ (a b : List W), a.Nodup → (∀ x ∈ a, x ∈ b) → a.length ≤ b.length
  | [], b, _, _ => Nat.zero_le _
  | x :: a, b, hn, hs => by
    obtain ⟨h1, h2⟩ := List.nodup_cons.mp hn
    have hx : x ∈ b := hs x List.mem_cons_self
    have := nodup_le a (b.erase x) h2 fun y hy => (List.mem_erase_of_ne (fun e => h1 (by rw [← e]; exact hy))).mpr (hs y (List.mem_cons_of_mem _ hy))
    rw [List.length_erase_of_mem hx] at this
    have hp : 0 < b.length := List.length_pos_of_mem hx
    rw [List.length_cons]
    (first | lia | omega)
theorem turns_count {w : W} {p : Nat} (h : RootLen w p) (u : List W) (hu : u.Nodup) (hm : ∀ x, x ∈ u ↔ x ∈ (List.range w.length).map fun k => rot k w) : u.length = p := by
  obtain ⟨r1, r2, r3⟩ := h.rp
  have hpos := h.pos
  have hle := h.le
  have hd : ((List.range p).map fun k => rot k w).Nodup := by
    unfold List.Nodup
    rw [List.pairwise_iff_getElem]
    intro i j hi hj hij e
    rw [List.length_map, List.length_range] at hi hj
    rw [List.getElem_map, List.getElem_map, List.getElem_range, List.getElem_range] at e
    exact r3 (j - i) (by (first | lia | omega)) (by (first | lia | omega)) (rp_of_rots (by (first | lia | omega)) (by (first | lia | omega)) e)
  have hs : ∀ x, x ∈ u ↔ x ∈ (List.range p).map fun k => rot k w := fun x => by
    rw [hm x, List.mem_map, List.mem_map]
    constructor
    · rintro ⟨k, hk, rfl⟩
      have hk' := List.mem_range.mp hk
      exact ⟨k % p, List.mem_range.mpr (Nat.mod_lt _ hpos), (rot_mod r1 (by (first | lia | omega))).symm⟩
    · rintro ⟨k, hk, rfl⟩
      have hk' := List.mem_range.mp hk
      exact ⟨k, List.mem_range.mpr (by (first | lia | omega)), rfl⟩
  have l1 := nodup_le u _ hu fun x hx => (hs x).mp hx
  have l2 := nodup_le _ u hd fun x hx => (hs x).mpr hx
  rw [List.length_map, List.length_range] at l1 l2
  (first | lia | omega)
end Wd

set_option Elab.async false
set_option linter.all false
namespace Wd
noncomputable def Ex (w s : W) : Prop := ∃ p, p < s.length ∧ p < w.length ∧ (∀ t, t < p → s.getD t 0 = w.getD t 0) ∧ w.getD p 0 < s.getD p 0
noncomputable def Pd (w v : W) : Prop := ∀ d, d < v.length → Ex w (v.drop d)
theorem getD_drop (v : W) (d t : Nat) : (v.drop d).getD t 0 = v.getD (d + t) 0 := by
  rw [List.getD_eq_getElem?_getD, List.getD_eq_getElem?_getD, List.getElem?_drop]
theorem getD_app_l {a b : W} {t : Nat} (h : t < a.length) : (a ++ b).getD t 0 = a.getD t 0 := by
  rw [List.getD_eq_getElem?_getD, List.getD_eq_getElem?_getD, List.getElem?_append_left h]
theorem getD_app_r {a b : W} {t : Nat} (h : a.length ≤ t) : (a ++ b).getD t 0 = b.getD (t - a.length) 0 := by
  rw [List.getD_eq_getElem?_getD, List.getD_eq_getElem?_getD, List.getElem?_append_right h]
theorem getD_tk {a : W} {t m : Nat} (h : t < m) : (a.take m).getD t 0 = a.getD t 0 := by
  rw [List.getD_eq_getElem?_getD, List.getD_eq_getElem?_getD, List.getElem?_take_of_lt h]
theorem ext_getD {a b : W} (hl : a.length = b.length) (h : ∀ i, i < a.length → a.getD i 0 = b.getD i 0) : a = b :=
  ext_get hl fun i hi => by rw [gD hi, gD (by (first | lia | omega)), h i hi]
theorem Ex.app {w s : W} (h : Ex w s) (r : W) : Ex w (s ++ r) := by
  obtain ⟨p, h1, h2, h3, h4⟩ := h
  refine ⟨p, by rw [List.length_append]; (first | lia | omega), h2, fun t ht => ?_, ?_⟩
  · rw [getD_app_l (by (first | lia | omega))]; exact h3 t ht
  · rw [getD_app_l h1]; exact h4
theorem ex_lt {w u : W} (hl : u.length = w.length) : Ex w u ↔ w < u := by
  constructor
  · rintro ⟨p, h1, h2, h3, h4⟩
    refine lt_join (p := p) h2 h1 (ext_getD ?_ fun i hi => ?_) h4
    · rw [List.length_take, List.length_take, hl]
    · rw [List.length_take] at hi
      rw [getD_tk (by (first | lia | omega)), getD_tk (by (first | lia | omega)), h3 i (by (first | lia | omega))]
  · intro h
    obtain ⟨p, h1, h2, h3⟩ := lt_split hl.symm h
    exact ⟨p, by (first | lia | omega), h1, fun t ht => (getD_take ht h2).symm, h3⟩
theorem Ex.uniq {w s : W} {p q : Nat} (h1 : ∀ t, t < p → s.getD t 0 = w.getD t 0) (h2 : w.getD p 0 < s.getD p 0) (h3 : ∀ t, t < q → s.getD t 0 = w.getD t 0) (h4 : w.getD q 0 < s.getD q 0) : p = q := by
  rcases Nat.lt_trichotomy p q with h | h | h
  · have := h3 p h; (first | lia | omega)
  · exact h
  · have := h1 q h; (first | lia | omega)
theorem lst_cmp {w : W} (hw : Lst w) {d : Nat} : ∀ m, d + m ≤ w.length → (∀ t, t < m → w.getD (d + t) 0 = w.getD t 0) ∨ ∃ i, i < m ∧ (∀ t, t < i → w.getD (d + t) 0 = w.getD t 0) ∧ w.getD i 0 < w.getD (d + i) 0
  | 0, _ => .inl fun t ht => absurd ht (by (first | lia | omega))
  | m + 1, hm => by
    rcases lst_cmp (d := d) hw m (by (first | lia | omega)) with h | ⟨i, hi, h1, h2⟩
    · have hno := lst_nle.mp hw d (by (first | lia | omega))
      have hle : ¬ w.getD (d + m) 0 < w.getD m 0 := fun hlt => hno ⟨m, by (first | lia | omega), fun t ht => by
        show w.getD ((d + t) % w.length) 0 = w.getD t 0
        rw [Nat.mod_eq_of_lt (by (first | lia | omega))]; exact h t ht, by
        show w.getD ((d + m) % w.length) 0 < w.getD m 0
        rw [Nat.mod_eq_of_lt (by (first | lia | omega))]; exact hlt⟩
      by_cases e : w.getD (d + m) 0 = w.getD m 0
      · refine .inl fun t ht => ?_
        by_cases et : t = m
        · rw [et]; exact e
        · exact h t (by (first | lia | omega))
      · exact .inr ⟨m, by (first | lia | omega), h, by (first | lia | omega)⟩
    · exact .inr ⟨i, by (first | lia | omega), h1, h2⟩
theorem ex_in {w r : W} (hw : Lst w) {p d x : Nat} (hp : p < w.length) (hd : d ≤ p) (hx : w.getD p 0 < x) : Ex w ((w.take p).drop d ++ x :: r) := by
  have hl : ((w.take p).drop d).length = p - d := by rw [List.length_drop, List.length_take]; (first | lia | omega)
  have hat : ∀ t, t < p - d → ((w.take p).drop d ++ x :: r).getD t 0 = w.getD (d + t) 0 := fun t ht => by
    rw [getD_app_l (by (first | lia | omega)), getD_drop, getD_tk (by (first | lia | omega))]
  have hend : ((w.take p).drop d ++ x :: r).getD (p - d) 0 = x := by
    rw [getD_app_r (by (first | lia | omega)), hl, Nat.sub_self]; rfl
  have hlen : ((w.take p).drop d ++ x :: r).length = p - d + 1 + r.length := by rw [List.length_append, hl, List.length_cons]; (first | lia | omega)
  rcases lst_cmp hw (d := d) (p - d) (by (first | lia | omega)) with h | ⟨i, hi, h1, h2⟩
  · refine ⟨p - d, by (first | lia | omega), by (first | lia | omega), fun t ht => by rw [hat t ht]; exact h t ht, ?_⟩
    rw [hend]
    rcases lst_cmp hw (d := d) (p - d + 1) (by (first | lia | omega)) with h' | ⟨i, hi, h1, h2⟩
    · have := h' (p - d) (by (first | lia | omega))
      rw [show d + (p - d) = p by (first | lia | omega)] at this
      (first | lia | omega)
    · have e : i = p - d := by
        refine Classical.byContradiction fun e => ?_
        have := h i (by (first | lia | omega))
        (first | lia | omega)
      subst e
      rw [show d + (p - d) = p by (first | lia | omega)] at h2
      (first | lia | omega)
  · exact ⟨i, by (first | lia | omega), by (first | lia | omega), fun t ht => by rw [hat t (by (first | lia | omega))]; exact h1 t ht, by rw [hat i hi]; exact h2⟩
theorem Pd.parts {w v : W} (h : Pd w v) (h0 : 0 < v.length) : ∃ p, p < v.length ∧ p < w.length ∧ v.take p = w.take p ∧ w.getD p 0 < v.getD p 0 ∧ v = w.take p ++ v.getD p 0 :: v.drop (p + 1) ∧ Pd w (v.drop (p + 1)) := by
  obtain ⟨p, h1, h2, h3, h4⟩ := h 0 h0
  rw [List.drop_zero] at h1 h3 h4
  have he : v.take p = w.take p := ext_getD (by rw [List.length_take, List.length_take]; (first | lia | omega)) fun i hi => by
    rw [List.length_take] at hi
    rw [getD_tk (by (first | lia | omega)), getD_tk (by (first | lia | omega)), h3 i (by (first | lia | omega))]
  refine ⟨p, h1, h2, he, h4, ?_, fun d hd => ?_⟩
  · rw [← he]; exact take_split h1
  · rw [List.length_drop] at hd
    rw [List.drop_drop]
    exact h (p + 1 + d) (by (first | lia | omega))
theorem drop_blk {w r : W} {p x d : Nat} (hp : p < w.length) (hd : d ≤ p) : (w.take p ++ x :: r).drop d = (w.take p).drop d ++ x :: r := List.drop_append_of_le_length (by rw [List.length_take]; (first | lia | omega))
theorem drop_rest {w r : W} {p x d : Nat} (hp : p < w.length) (hd : p < d) : (w.take p ++ x :: r).drop d = r.drop (d - p - 1) := by
  have hl : (w.take p).length = p := by rw [List.length_take]; (first | lia | omega)
  rw [List.drop_append, List.drop_eq_nil_of_le (by (first | lia | omega)), List.nil_append, hl, show d - p = (d - p - 1) + 1 by (first | lia | omega), List.drop_succ_cons]
  rfl
theorem blk_len {w r : W} {p x : Nat} (hp : p < w.length) : (w.take p ++ x :: r).length = p + 1 + r.length := by rw [List.length_append, List.length_take, List.length_cons]; (first | lia | omega)
theorem pd_blk {w r : W} (hw : Lst w) {p x : Nat} (hp : p < w.length) (hx : w.getD p 0 < x) (hr : Pd w r) : Pd w (w.take p ++ x :: r) := fun d hd => by
  rw [blk_len hp] at hd
  by_cases h : d ≤ p
  · rw [drop_blk hp h]; exact ex_in hw hp h hx
  · rw [drop_rest hp (by (first | lia | omega))]; exact hr _ (by (first | lia | omega))
noncomputable def gr (k : Nat) (w : W) (p : Nat) : List Nat := (List.range (96 + k - w.getD p 0)).map fun c => w.getD p 0 + 1 + c
theorem gr_len (k : Nat) (w : W) (p : Nat) : (gr k w p).length = 96 + k - w.getD p 0 := by rw [gr, List.length_map, List.length_range]
theorem mem_gr {k : Nat} {w : W} {p x : Nat} : x ∈ gr k w p ↔ w.getD p 0 < x ∧ x < 97 + k := by
  unfold gr
  rw [List.mem_map]
  constructor
  · rintro ⟨c, hc, rfl⟩
    have := List.mem_range.mp hc
    omega
  · intro h
    exact ⟨x - w.getD p 0 - 1, List.mem_range.mpr (by omega), by omega⟩
theorem gr_nodup (k : Nat) (w : W) (p : Nat) : (gr k w p).Nodup := List.pairwise_map.mpr (List.nodup_range.imp fun h e => h (by (first | lia | omega)))
noncomputable def pw (k : Nat) (w : W) : Nat → List W
  | 0 => [[]]
  | t + 1 => (List.range (t + 1)).flatMap fun p => (gr k w p).flatMap fun x => (pw k w (t - p)).map fun r => w.take p ++ x :: r
termination_by t => t
decreasing_by (first | lia | omega)
theorem pw_zero (k : Nat) (w : W) : pw k w 0 = [[]] := by rw [pw]
theorem pw_succ (k : Nat) (w : W) (t : Nat) : pw k w (t + 1) = (List.range (t + 1)).flatMap fun p => (gr k w p).flatMap fun x => (pw k w (t - p)).map fun r => w.take p ++ x :: r := by rw [pw]
theorem okk_take {k m : Nat} {w : W} (h : Okk k w) : Okk k (w.take m) := fun c hc => h c (List.mem_of_mem_take hc)
theorem okk_drop {k m : Nat} {w : W} (h : Okk k w) : Okk k (w.drop m) := fun c hc => h c (List.mem_of_mem_drop hc)
theorem mem_pw {k : Nat} {w : W} (hw : Lst w) (ho : Okk k w) : ∀ (n t : Nat), t ≤ n → t ≤ w.length → ∀ v, v ∈ pw k w t ↔ v.length = t ∧ Okk k v ∧ Pd w v := by
  intro n
  induction n with
  | zero =>
    intro t ht _ v
    obtain rfl : t = 0 := by (first | lia | omega)
    rw [pw_zero, List.mem_singleton]
    constructor
    · rintro rfl
      exact ⟨rfl, fun c hc => by simp at hc, fun d hd => by simp at hd⟩
    · rintro ⟨h, _⟩
      exact List.length_eq_zero_iff.mp h
  | succ n ih =>
    intro t ht htw v
    cases t with
    | zero => exact ih 0 (by (first | lia | omega)) (by (first | lia | omega)) v
    | succ t =>
      rw [pw_succ, List.mem_flatMap]
      constructor
      · rintro ⟨p, hp, h⟩
        have hp := List.mem_range.mp hp
        obtain ⟨x, hx, h⟩ := List.mem_flatMap.mp h
        obtain ⟨r, hr, rfl⟩ := List.mem_map.mp h
        obtain ⟨h1, h2, h3⟩ := (ih (t - p) (by (first | lia | omega)) (by (first | lia | omega)) r).mp hr
        obtain ⟨x1, x2⟩ := mem_gr.mp hx
        have hok := okk_getD ho (i := p) (by (first | lia | omega))
        refine ⟨by rw [blk_len (by (first | lia | omega))]; (first | lia | omega), okk_app.mpr ⟨okk_take ho, fun c hc => ?_⟩, pd_blk hw (by (first | lia | omega)) x1 h3⟩
        rcases List.mem_cons.mp hc with rfl | hc
        · (first | lia | omega)
        · exact h2 c hc
      · rintro ⟨h1, h2, h3⟩
        obtain ⟨p, hp1, hp2, he, hx, e, hr⟩ := h3.parts (by (first | lia | omega))
        have hv := okk_getD h2 hp1
        refine ⟨p, List.mem_range.mpr (by (first | lia | omega)), List.mem_flatMap.mpr ⟨v.getD p 0, mem_gr.mpr ⟨hx, hv.2⟩, List.mem_map.mpr ⟨v.drop (p + 1), (ih (t - p) (by (first | lia | omega)) (by (first | lia | omega)) _).mpr ⟨by rw [List.length_drop]; (first | lia | omega), okk_drop h2, hr⟩, e.symm⟩⟩⟩
theorem blk_inj {w r r' : W} {p p' x x' : Nat} (hp : p < w.length) (hp' : p' < w.length) (hx : w.getD p 0 < x) (hx' : w.getD p' 0 < x') (e : w.take p ++ x :: r = w.take p' ++ x' :: r') : p = p' ∧ x = x' ∧ r = r' := by
  have key : ∀ {p x : Nat} {r : W}, p < w.length → (∀ t, t < p → (w.take p ++ x :: r).getD t 0 = w.getD t 0) ∧ (w.take p ++ x :: r).getD p 0 = x := fun {p x r} hp => by
    have hl : (w.take p).length = p := by rw [List.length_take]; (first | lia | omega)
    refine ⟨fun t ht => by rw [getD_app_l (by (first | lia | omega)), getD_tk ht], ?_⟩
    rw [getD_app_r (by (first | lia | omega)), hl, Nat.sub_self]; rfl
  have k1 := key (x := x) (r := r) hp
  have k2 := key (x := x') (r := r') hp'
  rw [← e] at k2
  have hpp : p = p' := Ex.uniq (w := w) (s := w.take p ++ x :: r) k1.1 (by rw [k1.2]; exact hx) k2.1 (by rw [k2.2]; exact hx')
  subst hpp
  have := List.append_cancel_left e
  exact ⟨rfl, List.cons.inj this⟩
theorem nodup_fm {α β : Type} {l : List α} {f : α → List β} (hl : l.Nodup) (h1 : ∀ a ∈ l, (f a).Nodup) (h2 : ∀ a ∈ l, ∀ b ∈ l, ∀ x, x ∈ f a → x ∈ f b → a = b) : (l.flatMap f).Nodup := by
  induction l with
  | nil => exact List.nodup_nil
  | cons a l ih =>
    rw [List.flatMap_cons]
    have hl' := List.nodup_cons.mp hl
    refine List.nodup_append.mpr ⟨h1 a (List.mem_cons_self ..), ih hl'.2 (fun b hb => h1 b (List.mem_cons_of_mem _ hb)) (fun b hb c hc => h2 b (List.mem_cons_of_mem _ hb) c (List.mem_cons_of_mem _ hc)), fun x hx y hy e => ?_⟩
    subst e
    obtain ⟨b, hb, hy⟩ := List.mem_flatMap.mp hy
    have := h2 a (List.mem_cons_self ..) b (List.mem_cons_of_mem _ hb) x hx hy
    exact hl'.1 (this ▸ hb)
theorem nodup_mp {α β : Type} {l : List α} {f : α → β} (hl : l.Nodup) (h : ∀ a ∈ l, ∀ b ∈ l, f a = f b → a = b) : (l.map f).Nodup :=
  List.pairwise_map.mpr (List.Pairwise.imp_of_mem (fun {a b} ha hb hab e => hab (h a ha b hb e)) hl)
theorem pw_nodup {k : Nat} {w : W} (hw : Lst w) (ho : Okk k w) : ∀ (n t : Nat), t ≤ n → t ≤ w.length → (pw k w t).Nodup := by
  intro n
  induction n with
  | zero =>
    intro t ht _
    obtain rfl : t = 0 := by (first | lia | omega)
    rw [pw_zero]
    simp
  | succ n ih =>
    intro t ht htw
    cases t with
    | zero => exact ih 0 (by (first | lia | omega)) (by (first | lia | omega))
    | succ t =>
      rw [pw_succ]
      refine nodup_fm List.nodup_range (fun p hp => nodup_fm (gr_nodup ..) (fun x hx => nodup_mp (ih _ (by (first | lia | omega)) (by (first | lia | omega))) fun a _ b _ e => ?_) fun x hx y hy v hv hv' => ?_) fun p hp p' hp' v hv hv' => ?_
      · exact (List.cons.inj (List.append_cancel_left e)).2
      · obtain ⟨r, _, rfl⟩ := List.mem_map.mp hv
        obtain ⟨r', _, e⟩ := List.mem_map.mp hv'
        exact (List.cons.inj (List.append_cancel_left e)).1.symm
      · obtain ⟨x, hx, h⟩ := List.mem_flatMap.mp hv
        obtain ⟨r, _, rfl⟩ := List.mem_map.mp h
        obtain ⟨x', hx', h'⟩ := List.mem_flatMap.mp hv'
        obtain ⟨r', _, e⟩ := List.mem_map.mp h'
        have := List.mem_range.mp hp
        have := List.mem_range.mp hp'
        exact (blk_inj (by (first | lia | omega)) (by (first | lia | omega)) (mem_gr.mp hx').1 (mem_gr.mp hx).1 e).1.symm
theorem sum_const {α : Type} (l : List α) (c : Nat) : (l.map fun _ => c).sum = l.length * c := by
  induction l with
  | nil => simp
  | cons a l ih => rw [List.map_cons, List.sum_cons, ih, List.length_cons, Nat.succ_mul]; (first | lia | omega)
theorem fm_len {α β : Type} (l : List α) (f : α → List β) (c : Nat) (h : ∀ a, (f a).length = c) : (l.flatMap f).length = l.length * c := by
  rw [List.length_flatMap, show (l.map fun a => (f a).length) = l.map fun _ => c from List.map_congr_left fun a _ => h a, sum_const]
theorem pw_len (k : Nat) (w : W) (t : Nat) : (pw k w (t + 1)).length = ((List.range (t + 1)).map fun p => (96 + k - w.getD p 0) * (pw k w (t - p)).length).sum := by
  rw [pw_succ, List.length_flatMap]
  refine congrArg List.sum (List.map_congr_left fun p _ => ?_)
  rw [fm_len _ _ (pw k w (t - p)).length (fun x => List.length_map ..), gr_len]
theorem rot_inj {j : Nat} {a b : W} (hl : a.length = b.length) (h : rot j a = rot j b) : a = b := by
  unfold rot at h
  obtain ⟨h1, h2⟩ := List.append_inj h (by rw [List.length_drop, List.length_drop, hl])
  rw [← List.take_append_drop j a, ← List.take_append_drop j b, h1, h2]
theorem Pd.turns {w v : W} (h : Pd w v) (hl : v.length = w.length) {d : Nat} (hd : d < v.length) : w < rot d v :=
  (ex_lt (by rw [rot_length, hl])).mp ((h d hd).app _)
theorem least_lst {u : W} (h0 : 0 < u.length) : Lst (least u) := by
  obtain ⟨i, hi, e⟩ := least_mem h0
  show least u = least (least u)
  rw [e, least_rot hi, ← e]
theorem least_len (u : W) : (least u).length = u.length := by rw [least_eq, rot_length]
theorem turns_least {w u : W} (h0 : 0 < u.length) : (∀ d, d < u.length → w < rot d u) ↔ w < least u := by
  constructor
  · intro h
    obtain ⟨i, hi, e⟩ := least_mem h0
    rw [e]; exact h i hi
  · intro h d hd
    exact ltle h (least_min hd)
theorem least_pd {w u : W} (hw : Lst w) (hl : u.length = w.length) (h0 : 0 < u.length) (h : w < least u) : Pd w (least u) := by
  intro d hd
  have hlv : (least u).length = w.length := by rw [least_len, hl]
  have hv := least_lst h0
  have hnle := lst_nle.mp hv
  have hturn : w < rot d (least u) := ltle h (lst_iff.mp hv d hd)
  generalize least u = v at hlv hv hnle h hd hturn
  obtain ⟨p, h1, h2, h3, h4⟩ := (ex_lt (by rw [rot_length, hlv])).mpr hturn
  rw [rot_length] at h1
  have hrot : ∀ t, t < v.length → (rot d v).getD t 0 = v.getD ((d + t) % v.length) 0 := fun t ht => by
    rw [List.getD_eq_getElem?_getD, rot_get (by (first | lia | omega)) ht, ← List.getD_eq_getElem?_getD]
  by_cases hp : p < v.length - d
  · refine ⟨p, by rw [List.length_drop]; exact hp, h2, fun t ht => ?_, ?_⟩
    · rw [getD_drop, ← h3 t ht, hrot t (by (first | lia | omega)), Nat.mod_eq_of_lt (by (first | lia | omega))]
    · rw [getD_drop]
      rw [hrot p h1, Nat.mod_eq_of_lt (by (first | lia | omega))] at h4
      exact h4
  · exfalso
    have hd0 : 0 < d := by (first | lia | omega)
    obtain ⟨q, q1, q2, q3, q4⟩ := (ex_lt hlv).mpr h
    obtain ⟨m, hm⟩ : ∃ m, m = v.length - d := ⟨_, rfl⟩
    have a1 : ∀ t, t < m → v.getD (d + t) 0 = w.getD t 0 := fun t ht => by
      have := h3 t (by (first | lia | omega))
      rw [hrot t (by (first | lia | omega)), Nat.mod_eq_of_lt (by (first | lia | omega))] at this
      exact this
    have hq : m ≤ q := by
      refine Classical.byContradiction fun hq => hnle d hd ⟨q, q1, fun t ht => ?_, ?_⟩
      · show v.getD ((d + t) % v.length) 0 = v.getD t 0
        rw [Nat.mod_eq_of_lt (by (first | lia | omega)), a1 t (by (first | lia | omega)), q3 t ht]
      · show v.getD ((d + q) % v.length) 0 < v.getD q 0
        rw [Nat.mod_eq_of_lt (by (first | lia | omega)), a1 q (by (first | lia | omega))]
        exact q4
    have a2 : ∀ t, t < m → v.getD ((d + t) % v.length) 0 = v.getD t 0 := fun t ht => by
      rw [Nat.mod_eq_of_lt (by (first | lia | omega)), a1 t ht, q3 t (by (first | lia | omega))]
    have a3 : ∀ n t, t < n → t < d → v.getD (m + t) 0 = v.getD t 0 := by
      intro n
      induction n with
      | zero => intro t ht; (first | lia | omega)
      | succ n ih =>
        intro t ht htd
        have i1 : ¬ v.getD t 0 < v.getD (m + t) 0 := fun hlt => hnle d hd ⟨m + t, by (first | lia | omega), fun s hs => ?_, ?_⟩
        have i2 : ¬ v.getD (m + t) 0 < v.getD t 0 := fun hlt => hnle m (by (first | lia | omega)) ⟨t, by (first | lia | omega), fun s hs => ?_, ?_⟩
        · (first | lia | omega)
        · show v.getD ((m + s) % v.length) 0 = v.getD s 0
          rw [Nat.mod_eq_of_lt (by (first | lia | omega))]
          exact ih s (by (first | lia | omega)) (by (first | lia | omega))
        · show v.getD ((m + t) % v.length) 0 < v.getD t 0
          rw [Nat.mod_eq_of_lt (by (first | lia | omega))]
          exact hlt
        · show v.getD ((d + s) % v.length) 0 = v.getD s 0
          by_cases hsm : s < m
          · exact a2 s hsm
          · rw [show d + s = (s - m) + v.length by (first | lia | omega), Nat.add_mod_right, Nat.mod_eq_of_lt (by (first | lia | omega)), ← ih (s - m) (by (first | lia | omega)) (by (first | lia | omega)), show m + (s - m) = s by (first | lia | omega)]
        · show v.getD ((d + (m + t)) % v.length) 0 < v.getD (m + t) 0
          rw [show d + (m + t) = t + v.length by (first | lia | omega), Nat.add_mod_right, Nat.mod_eq_of_lt (by (first | lia | omega))]
          exact hlt
    refine lst_nle.mp hw m (by (first | lia | omega)) ⟨q - m, by (first | lia | omega), fun t ht => ?_, ?_⟩
    · show w.getD ((m + t) % w.length) 0 = w.getD t 0
      rw [Nat.mod_eq_of_lt (by (first | lia | omega)), ← q3 (m + t) (by (first | lia | omega)), ← q3 t (by (first | lia | omega))]
      exact a3 (t + 1) t (by (first | lia | omega)) (by (first | lia | omega))
    · show w.getD ((m + (q - m)) % w.length) 0 < w.getD (q - m) 0
      have := a3 (q - m + 1) (q - m) (by (first | lia | omega)) (by (first | lia | omega))
      rw [show m + (q - m) = q by (first | lia | omega)] at this ⊢
      rw [Nat.mod_eq_of_lt (by (first | lia | omega)), ← q3 (q - m) (by (first | lia | omega)), ← this]
      exact q4
theorem pd_next {w r : W} (hw : Lst w) {p x : Nat} (hp : p < w.length) (hx : w.getD p 0 < x) (hr : Pd w r) : Pd w (r ++ (w.take p ++ [x])) := fun d hd => by
  rw [List.length_append, blk_len hp] at hd
  by_cases h : d < r.length
  · rw [List.drop_append_of_le_length (by (first | lia | omega))]
    exact (hr d h).app _
  · have e : d = r.length + (d - r.length) := by (first | lia | omega)
    rw [e, List.drop_append]
    rw [show (r.drop (r.length + (d - r.length))) = [] from List.drop_eq_nil_of_le (by (first | lia | omega)), List.nil_append, show r.length + (d - r.length) - r.length = d - r.length by (first | lia | omega)]
    have : d - r.length ≤ p := by simp at hd; (first | lia | omega)
    rw [drop_blk hp this]
    exact ex_in hw hp this hx
theorem rot_back {u : W} {j : Nat} (hj : j < u.length) : rot j (rot ((u.length - j) % u.length) u) = u := by
  have h0 : 0 < u.length := by (first | lia | omega)
  rw [rot_rot hj (Nat.mod_lt _ h0), Nat.add_mod_mod, show j + (u.length - j) = u.length by (first | lia | omega), Nat.mod_self, rot_zero]
noncomputable def gl (k : Nat) (w : W) : List W := (List.range w.length).flatMap fun p => (List.range (p + 1)).flatMap fun j => (gr k w p).flatMap fun x => (pw k w (w.length - 1 - p)).map fun r => rot j (w.take p ++ x :: r)
theorem mem_gl {k : Nat} {w u : W} (hw : Lst w) (ho : Okk k w) : u ∈ gl k w ↔ (u.length = w.length ∧ Okk k u) ∧ w < least u := by
  unfold gl
  rw [List.mem_flatMap]
  constructor
  · rintro ⟨p, hp, h⟩
    have hp := List.mem_range.mp hp
    obtain ⟨j, hj, h⟩ := List.mem_flatMap.mp h
    have hj := List.mem_range.mp hj
    obtain ⟨x, hx, h⟩ := List.mem_flatMap.mp h
    obtain ⟨r, hr, rfl⟩ := List.mem_map.mp h
    obtain ⟨x1, x2⟩ := mem_gr.mp hx
    obtain ⟨r1, r2, r3⟩ := (mem_pw hw ho _ _ (Nat.le_refl _) (by (first | lia | omega)) r).mp hr
    have hvl : (w.take p ++ x :: r).length = w.length := by rw [blk_len hp]; (first | lia | omega)
    have hpd := pd_blk hw hp x1 r3
    have hok := okk_getD ho hp
    refine ⟨⟨by rw [rot_length, hvl], okk_rot (okk_app.mpr ⟨okk_take ho, fun c hc => ?_⟩)⟩, ?_⟩
    · rcases List.mem_cons.mp hc with rfl | hc
      · (first | lia | omega)
      · exact r2 c hc
    · rw [least_rot (by (first | lia | omega))]
      exact (turns_least (by (first | lia | omega))).mp fun d hd => hpd.turns hvl hd
  · rintro ⟨⟨hl, hok⟩, hlt⟩
    have h0 : 0 < u.length := by
      refine Nat.pos_of_ne_zero fun e => ?_
      rw [List.length_eq_zero_iff.mp e] at hlt hl
      rw [List.length_eq_zero_iff.mp hl.symm] at hlt
      exact ltir _ hlt
    -- the least j
    have hex : ∃ j, j < u.length ∧ Pd w (rot ((u.length - j) % u.length) u) := by
      obtain ⟨i, hi, e⟩ := least_mem h0
      have := least_pd hw hl h0 hlt
      rw [e] at this
      by_cases hi0 : i = 0
      · exact ⟨0, h0, by rw [Nat.sub_zero, Nat.mod_self]; rw [hi0] at this; exact this⟩
      · exact ⟨u.length - i, by (first | lia | omega), by rw [show u.length - (u.length - i) = i by (first | lia | omega), Nat.mod_eq_of_lt hi]; exact this⟩
    obtain ⟨j, ⟨hj, hpd⟩, hmin⟩ : ∃ j, (j < u.length ∧ Pd w (rot ((u.length - j) % u.length) u)) ∧ ∀ i, i < j → ¬ (i < u.length ∧ Pd w (rot ((u.length - i) % u.length) u)) := by
      obtain ⟨j, hj⟩ := hex
      have : ∀ n, ∀ j, j < n → (j < u.length ∧ Pd w (rot ((u.length - j) % u.length) u)) → ∃ j, (j < u.length ∧ Pd w (rot ((u.length - j) % u.length) u)) ∧ ∀ i, i < j → ¬ (i < u.length ∧ Pd w (rot ((u.length - i) % u.length) u)) := by
        intro n
        induction n with
        | zero => intro j hj; (first | lia | omega)
        | succ n ih =>
          intro j hj h
          by_cases hm : ∃ i, i < j ∧ (i < u.length ∧ Pd w (rot ((u.length - i) % u.length) u))
          · obtain ⟨i, hi, h'⟩ := hm
            exact ih i (by (first | lia | omega)) h'
          · exact ⟨j, h, fun i hi h' => hm ⟨i, hi, h'⟩⟩
      exact this (j + 1) j (by (first | lia | omega)) hj
    have hu := rot_back hj
    generalize hv : rot ((u.length - j) % u.length) u = v at hpd hu
    have hvl : v.length = u.length := by rw [← hv, rot_length]
    have hvo : Okk k v := by rw [← hv]; exact okk_rot hok
    obtain ⟨p, hp1, hp2, he, hx, e, hr⟩ := hpd.parts (by (first | lia | omega))
    have hjp : j ≤ p := by
      refine Classical.byContradiction fun hjp => hmin (j - p - 1) (by (first | lia | omega)) ⟨by (first | lia | omega), ?_⟩
      have h1 := pd_next hw hp2 hx hr
      have h2 : rot (p + 1) v = v.drop (p + 1) ++ (w.take p ++ [v.getD p 0]) := by
        unfold rot
        rw [← he, ← take_snoc hp1]
      rw [← h2, ← hv, rot_rot (by (first | lia | omega)) (Nat.mod_lt _ h0), Nat.add_mod_mod] at h1
      rw [show u.length - (j - p - 1) = p + 1 + (u.length - j) by (first | lia | omega)]
      exact h1
    refine ⟨p, List.mem_range.mpr hp2, List.mem_flatMap.mpr ⟨j, List.mem_range.mpr (by (first | lia | omega)), List.mem_flatMap.mpr ⟨v.getD p 0, mem_gr.mpr ⟨hx, (okk_getD hvo hp1).2⟩, List.mem_map.mpr ⟨v.drop (p + 1), (mem_pw hw ho _ _ (Nat.le_refl _) (by (first | lia | omega)) _).mpr ⟨by rw [List.length_drop]; (first | lia | omega), okk_drop hvo, hr⟩, ?_⟩⟩⟩⟩
    rw [← e]
    exact hu
theorem not_ex_self {w : W} {d : Nat} : ¬ Ex w (w.take d) := by
  rintro ⟨p, h1, h2, h3, h4⟩
  rw [List.length_take] at h1
  rw [getD_tk (by (first | lia | omega))] at h4
  (first | lia | omega)
theorem rot_blk_lt {w r r' : W} {p p' j j' x x' : Nat} (hp : p < w.length) (hp' : p' < w.length) (hj : j ≤ p) (hj' : j' ≤ p') (hx : w.getD p 0 < x) (hl : (w.take p ++ x :: r).length = w.length) (hl' : (w.take p' ++ x' :: r').length = w.length) (hpd : Pd w (w.take p ++ x :: r)) (e : rot j (w.take p ++ x :: r) = rot j' (w.take p' ++ x' :: r')) : ¬ j < j' := by
  intro hlt
  generalize hv : w.take p ++ x :: r = v at *
  have h1 : v = rot (j' - j) (w.take p' ++ x' :: r') := by
    refine rot_inj (j := j) (by rw [rot_length]; (first | lia | omega)) ?_
    rw [rot_rot (by (first | lia | omega)) (by (first | lia | omega)), show j + (j' - j) = j' by (first | lia | omega), Nat.mod_eq_of_lt (by (first | lia | omega))]
    exact e
  have h2 := hpd (w.length - (j' - j)) (by (first | lia | omega))
  have h3 : v.drop (w.length - (j' - j)) = w.take (j' - j) := by
    rw [h1]
    unfold rot
    rw [List.drop_append, List.length_drop, hl', Nat.sub_self, List.drop_zero, List.drop_eq_nil_of_le (by rw [List.length_drop, hl']; (first | lia | omega)), List.nil_append, List.take_append_of_le_length (by rw [List.length_take]; (first | lia | omega)), List.take_take, show min (j' - j) p' = j' - j by (first | lia | omega)]
  rw [h3] at h2
  exact not_ex_self h2
theorem gl_nodup {k : Nat} {w : W} (hw : Lst w) (ho : Okk k w) : (gl k w).Nodup := by
  have key : ∀ {p p' j j' x x' : Nat} {r r' : W}, p < w.length → p' < w.length → j ≤ p → j' ≤ p' → x ∈ gr k w p → x' ∈ gr k w p' → r ∈ pw k w (w.length - 1 - p) → r' ∈ pw k w (w.length - 1 - p') → rot j (w.take p ++ x :: r) = rot j' (w.take p' ++ x' :: r') → p = p' ∧ j = j' ∧ x = x' ∧ r = r' := fun {p p' j j' x x' r r'} hp hp' hj hj' hx hx' hr hr' e => by
    obtain ⟨x1, x2⟩ := mem_gr.mp hx
    obtain ⟨x1', x2'⟩ := mem_gr.mp hx'
    obtain ⟨r1, r2, r3⟩ := (mem_pw hw ho _ _ (Nat.le_refl _) (by (first | lia | omega)) r).mp hr
    obtain ⟨r1', r2', r3'⟩ := (mem_pw hw ho _ _ (Nat.le_refl _) (by (first | lia | omega)) r').mp hr'
    have hvl : (w.take p ++ x :: r).length = w.length := by rw [blk_len hp]; (first | lia | omega)
    have hvl' : (w.take p' ++ x' :: r').length = w.length := by rw [blk_len hp']; (first | lia | omega)
    have n1 := rot_blk_lt hp hp' hj hj' x1 hvl hvl' (pd_blk hw hp x1 r3) e
    have n2 := rot_blk_lt hp' hp hj' hj x1' hvl' hvl (pd_blk hw hp' x1' r3') e.symm
    obtain rfl : j = j' := by (first | lia | omega)
    have e2 := rot_inj (by (first | lia | omega)) e
    obtain ⟨h1, h2, h3⟩ := blk_inj hp hp' x1 x1' e2
    exact ⟨h1, rfl, h2, h3⟩
  have nle : ∀ {n j : Nat}, j ∈ List.range (n + 1) → j ≤ n := fun h => by have := List.mem_range.mp h; (first | lia | omega)
  refine nodup_fm List.nodup_range (fun p hp => nodup_fm List.nodup_range (fun j hj => nodup_fm (gr_nodup ..) (fun x hx => nodup_mp (pw_nodup hw ho _ _ (Nat.le_refl _) (by (first | lia | omega))) fun a ha b hb e => ?_) fun x hx y hy v hv hv' => ?_) fun j hj j' hj' v hv hv' => ?_) fun p hp p' hp' v hv hv' => ?_
  · have hp := List.mem_range.mp hp
    exact (key hp hp (nle hj) (nle hj) hx hx ha hb e).2.2.2
  · have hp := List.mem_range.mp hp
    obtain ⟨r, hr, rfl⟩ := List.mem_map.mp hv
    obtain ⟨r', hr', e⟩ := List.mem_map.mp hv'
    exact (key hp hp (nle hj) (nle hj) hx hy hr hr' e.symm).2.2.1
  · have hp := List.mem_range.mp hp
    obtain ⟨x, hx, h⟩ := List.mem_flatMap.mp hv
    obtain ⟨r, hr, rfl⟩ := List.mem_map.mp h
    obtain ⟨x', hx', h'⟩ := List.mem_flatMap.mp hv'
    obtain ⟨r', hr', e⟩ := List.mem_map.mp h'
    exact (key hp hp (nle hj) (nle hj') hx hx' hr hr' e.symm).2.1
  · have hp := List.mem_range.mp hp
    have hp' := List.mem_range.mp hp'
    obtain ⟨j, hj, h⟩ := List.mem_flatMap.mp hv
    obtain ⟨x, hx, h⟩ := List.mem_flatMap.mp h
    obtain ⟨r, hr, rfl⟩ := List.mem_map.mp h
    obtain ⟨j', hj', h'⟩ := List.mem_flatMap.mp hv'
    obtain ⟨x', hx', h'⟩ := List.mem_flatMap.mp h'
    obtain ⟨r', hr', e⟩ := List.mem_map.mp h'
    exact (key hp hp' (nle hj) (nle hj') hx hx' hr hr' e.symm).1
theorem gl_len (k : Nat) (w : W) : (gl k w).length = ((List.range w.length).map fun p => (p + 1) * (96 + k - w.getD p 0) * (pw k w (w.length - 1 - p)).length).sum := by
  unfold gl
  rw [List.length_flatMap]
  refine congrArg List.sum (List.map_congr_left fun p _ => ?_)
  rw [fm_len _ _ ((96 + k - w.getD p 0) * (pw k w (w.length - 1 - p)).length) (fun j => by rw [fm_len _ _ (pw k w (w.length - 1 - p)).length (fun x => List.length_map ..), gr_len]), List.length_range, Nat.mul_assoc]
noncomputable def upN (k : Nat) (w : W) : Nat := ((allW k w.length).filter fun u => !decide (w < least u)).length
theorem allW_nd {k n : Nat} (hk : 0 < k) : (allW k n).Nodup := (allW_sorted hk).imp fun h e => by rw [e] at h; exact ltir _ h
theorem LL.gt {k : Nat} {w l u : W} (h : LL k w l) (h0 : 0 < w.length) (hu : u.length = w.length) (ho : Okk k u) : l < least u ↔ w < least u := by
  obtain ⟨h1, h2, h3⟩ := h
  have hlw : LW k w.length (least u) := by rw [← hu]; exact lw_least (by (first | lia | omega)) ho
  constructor
  · intro hl
    refine Classical.byContradiction fun hn => ?_
    exact h3 _ hlw hn hl
  · intro hl
    exact Classical.byContradiction fun hn => hn (by
      rcases Classical.em (l < least u) with g | g
      · exact g
      · exact absurd (ltle hl (fun z => g z)) h2)
theorem filter_two (l : List W) (p : W → Bool) : (l.filter p).length + (l.filter fun u => !p u).length = l.length := by
  induction l with
  | nil => rfl
  | cons a l ih =>
    rw [List.filter_cons, List.filter_cons, List.length_cons]
    cases h : p a
    · simp only [Bool.false_eq_true, if_false, Bool.not_false, if_true, List.length_cons]; (first | lia | omega)
    · simp only [if_true, Bool.not_true, Bool.false_eq_true, if_false, List.length_cons]; (first | lia | omega)
theorem up_len {k : Nat} {w l : W} (hk : 0 < k) (h0 : 0 < w.length) (h : LL k w l) : upN k w + (gl k l).length = k ^ w.length := by
  obtain ⟨hl1, hl2, hl3⟩ := h.1
  have hperm : (gl k l).Perm ((allW k w.length).filter fun u => decide (w < least u)) := by
    refine (List.perm_ext_iff_of_nodup (gl_nodup hl3 hl2) ((allW_nd hk).filter _)).mpr fun u => ?_
    rw [mem_gl hl3 hl2, List.mem_filter, mem_allW hk, hl1, decide_eq_true_iff]
    constructor
    · rintro ⟨⟨a, b⟩, c⟩
      exact ⟨⟨a, b⟩, (LL.gt h h0 a b).mp c⟩
    · rintro ⟨⟨a, b⟩, c⟩
      exact ⟨⟨a, b⟩, (LL.gt h h0 a b).mpr c⟩
  rw [hperm.length_eq, upN, Nat.add_comm, ← allW_len k w.length]
  exact filter_two _ _
end Wd

set_option Elab.async false
set_option linter.all false
namespace Wd
theorem up_all {k : Nat} {w : W} (hk : 0 < k) (h0 : 0 < w.length) (h : ∀ v, LW k w.length v → ¬ w < v) : upN k w = k ^ w.length := by
  unfold upN
  rw [List.filter_eq_self.mpr, allW_len]
  intro u hu
  obtain ⟨h1, h2⟩ := (mem_allW hk).mp hu
  have : ¬ w < least u := h _ (by rw [← h1]; exact lw_least (by (first | lia | omega)) h2)
  simp [this]
theorem filter_or (l : List W) (p q : W → Bool) (h : ∀ x ∈ l, ¬ (p x = true ∧ q x = true)) : (l.filter fun x => p x || q x).length = (l.filter p).length + (l.filter q).length := by
  induction l with
  | nil => rfl
  | cons a l ih =>
    have ih := ih fun x hx => h x (List.mem_cons_of_mem _ hx)
    have ha := h a (List.mem_cons_self ..)
    rw [List.filter_cons, List.filter_cons, List.filter_cons]
    cases hp : p a <;> cases hq : q a
    · simp only [Bool.or_self, Bool.false_eq_true, if_false]; exact ih
    · simp only [Bool.false_or, if_true, Bool.false_eq_true, if_false, List.length_cons, ih]; (first | lia | omega)
    · simp only [Bool.or_false, if_true, Bool.false_eq_true, if_false, List.length_cons, ih]; (first | lia | omega)
    · exact absurd ⟨hp, hq⟩ ha
theorem least_count {k : Nat} {r : W} {p : Nat} (hk : 0 < k) (h0 : 0 < r.length) (hr : LW k r.length r) (hp : RootLen r p) : ((allW k r.length).filter fun u => decide (least u = r)).length = p := by
  refine turns_count hp _ ((allW_nd hk).filter _) fun u => ?_
  rw [List.mem_filter, mem_allW hk, decide_eq_true_iff, List.mem_map]
  constructor
  · rintro ⟨⟨h1, h2⟩, h3⟩
    have ht := turnBy_lt (w := u) (by (first | lia | omega))
    rw [least_eq] at h3
    refine ⟨(u.length - turnBy u) % u.length, List.mem_range.mpr (by rw [← h1]; exact Nat.mod_lt _ (by (first | lia | omega))), ?_⟩
    rw [← h3, rot_rot (Nat.mod_lt _ (by (first | lia | omega))) ht, Nat.mod_add_mod, show u.length - turnBy u + turnBy u = u.length by (first | lia | omega), Nat.mod_self, rot_zero]
  · rintro ⟨i, hi, rfl⟩
    have hi := List.mem_range.mp hi
    exact ⟨⟨rot_length .., okk_rot hr.ok⟩, by rw [least_rot hi]; exact hr.lst.symm⟩
theorem up_next {k : Nat} {w r : W} {p : Nat} (hk : 0 < k) (h0 : 0 < w.length) (h : NX k w r) (hp : RootLen r p) : upN k r = upN k w + p := by
  have hl := h.lw.len
  have hc := least_count hk (by (first | lia | omega)) (by rw [hl]; exact h.lw) hp
  unfold upN
  rw [hl] at hc ⊢
  rw [← hc, ← filter_or]
  · refine congrArg List.length (List.filter_congr fun u hu => ?_)
    obtain ⟨h1, h2⟩ := (mem_allW hk).mp hu
    have hlw : LW k w.length (least u) := by rw [← h1]; exact lw_least (by (first | lia | omega)) h2
    rw [Bool.eq_iff_iff, Bool.or_eq_true, Bool.not_eq_true', decide_eq_false_iff_not, Bool.not_eq_true', decide_eq_false_iff_not, decide_eq_true_iff]
    constructor
    · intro hn
      by_cases hw : w < least u
      · exact .inr (tri (h.low _ hlw hw) hn)
      · exact .inl hw
    · rintro (hn | rfl)
      · exact fun hlt => hn (ltt h.gt hlt)
      · exact ltir _
  · rintro u hu ⟨h1, h2⟩
    have h2 := of_decide_eq_true h2
    rw [h2] at h1
    simp [h.gt] at h1
end Wd

set_option Elab.async false
set_option linter.all false
namespace Wd
noncomputable def dvt (n j : Nat) : List Nat := ((List.range j).map (· + 1)).filter fun e => decide (n % e = 0)
open Classical in
noncomputable def prs (k : Nat) (w : W) (e : Nat) : List W := (allW k e).filter fun q => decide (Prime q ∧ ¬ w < rep (w.length / e) q)
noncomputable def rl (k : Nat) (w : W) : List W := (dvt w.length w.length).flatMap fun e => (prs k w e).map (rep (w.length / e))
theorem num_lt {k n : Nat} {a b : W} (hk : 0 < k) (ha : a.length = n ∧ Okk k a) (hb : b.length = n ∧ Okk k b) : a < b ↔ num k a < num k b := by
  obtain ⟨a1, a2⟩ := spell_num n a ha.1 ha.2
  obtain ⟨b1, b2⟩ := spell_num n b hb.1 hb.2
  have key : ∀ {x y : W}, x.length = n ∧ Okk k x → y.length = n ∧ Okk k y → num k x < num k y → x < y := fun {x y} hx hy h => by
    obtain ⟨x1, x2⟩ := spell_num n x hx.1 hx.2
    obtain ⟨y1, y2⟩ := spell_num n y hy.1 hy.2
    have := spell_lt hk n _ _ h y2
    rwa [x1, y1] at this
  refine ⟨fun h => ?_, key ha hb⟩
  rcases Nat.lt_trichotomy (num k a) (num k b) with g | g | g
  · exact g
  · have : a = b := by rw [← a1, ← b1, g]
    rw [this] at h
    exact absurd h (ltir _)
  · exact absurd (ltt h (key hb ha g)) (ltir _)
end Wd

set_option Elab.async false
set_option linter.all false
namespace Wd
noncomputable def topW (k n : Nat) : W := List.replicate n (96 + k)
theorem topW_len (k n : Nat) : (topW k n).length = n := List.length_replicate
theorem topW_ok {k n : Nat} (hk : 0 < k) : Okk k (topW k n) := fun c hc => by rw [(List.mem_replicate.mp hc).2]; (first | lia | omega)
theorem top_le {k n : Nat} {v : W} (hl : v.length = n) (ho : Okk k v) : ¬ topW k n < v := fun h => by
  obtain ⟨p, h1, h2, h3⟩ := lt_split (by rw [topW_len, hl]) h
  rw [topW_len] at h1
  have hd : (topW k n).getD p 0 = 96 + k := by
    unfold topW
    rw [List.getD_eq_getElem?_getD, List.getElem?_replicate, if_pos h1]; rfl
  have := okk_getD ho (i := p) (by (first | lia | omega))
  (first | lia | omega)
theorem up_top {k n : Nat} (hk : 0 < k) (hn : 0 < n) : upN k (topW k n) = k ^ n := by
  have := up_all (w := topW k n) hk (by rw [topW_len]; exact hn) fun v hv => top_le (by rw [hv.len, topW_len]) hv.ok
  rw [topW_len] at this
  exact this
end Wd

set_option Elab.async false
set_option linter.all false
namespace Wd
theorem spell_top {k n : Nat} (hk : 0 < k) : spell k n (k ^ n - 1) = topW k n := by
  have hp : 0 < k ^ n := Nat.pow_pos hk
  obtain ⟨h1, h2⟩ := spell_num n (topW k n) (topW_len k n) (topW_ok hk)
  have h3 : num k (topW k n) = k ^ n - 1 := by
    refine Classical.byContradiction fun z => ?_
    have := spell_lt hk n _ (k ^ n - 1) (show num k (topW k n) < k ^ n - 1 by omega) (by omega)
    rw [h1] at this
    exact top_le (spell_len ..) (spell_mem hk _ _) this
  rw [← h3, h1]
end Wd

namespace Wd
noncomputable def ringAt (t : W) (n i : Nat) : W := (List.range n).map fun k => t.getD ((i + k) % t.length) 0
theorem ringAt_len (t : W) (n i : Nat) : (ringAt t n i).length = n := by rw [ringAt, List.length_map, List.length_range]
theorem ringAt_get {t : W} {n i k : Nat} (h : k < n) (ht : 0 < t.length) : (ringAt t n i)[k]? = t[(i + k) % t.length]? := by
  rw [ringAt, List.getElem?_map, List.getElem?_range h]
  show some (t.getD ((i + k) % t.length) 0) = _
  rw [List.getD_eq_getElem?_getD, List.getElem?_eq_getElem (Nat.mod_lt _ ht)]
  rfl
theorem row_at {t : W} {n i : Nat} (h : i + n ≤ t.length) : (t.drop i).take n = ringAt t n i := by
  apply ext_get
  · rw [List.length_take, List.length_drop, ringAt_len]
    (first | lia | omega)
  · intro k hk
    rw [List.length_take, List.length_drop] at hk
    rw [List.getElem?_take_of_lt (by (first | lia | omega)), List.getElem?_drop, ringAt_get (by (first | lia | omega)) (by (first | lia | omega)), Nat.mod_eq_of_lt (by (first | lia | omega))]
noncomputable def ringW (t : W) (n : Nat) : List W := (List.range t.length).map (ringAt t n)
theorem ringW_len (t : W) (n : Nat) : (ringW t n).length = t.length := by rw [ringW, List.length_map, List.length_range]
end Wd

set_option linter.all false
namespace Wd
theorem ringAt_mod {t : W} {n i : Nat} : ringAt t n (i % t.length) = ringAt t n i := by
  unfold ringAt
  refine List.map_congr_left fun k _ => ?_
  rw [Nat.mod_add_mod]
theorem ringW_get {t : W} {n i : Nat} (h : i < t.length) : (ringW t n)[i]? = some (ringAt t n i) := by
  rw [ringW, List.getElem?_map, List.getElem?_range h]; rfl
end Wd

set_option Elab.async false
set_option linter.all false
namespace Wd
noncomputable def rootL (w : W) : Nat := if h : 0 < w.length then Classical.choose (rootLen_ex h) else 0
theorem rootL_is {w : W} (h : 0 < w.length) : RootLen w (rootL w) := by
  unfold rootL
  rw [dif_pos h]
  exact Classical.choose_spec (rootLen_ex h)
theorem rootL_eq {w : W} {p : Nat} (h : RootLen w p) : rootL w = p := (rootL_is (Nat.lt_of_lt_of_le h.pos h.le)).uniq h
noncomputable def rootW (w : W) : W := w.take (rootL w)
theorem rootW_len {w : W} (h : 0 < w.length) : (rootW w).length = rootL w := by
  have := (rootL_is h).le
  rw [rootW, List.length_take]
  (first | lia | omega)
theorem rootW_is {w : W} (h : 0 < w.length) : ∃ t, 0 < t ∧ w = rep t (rootW w) ∧ t * rootL w = w.length := by
  have h1 := rootL_is h
  obtain ⟨_, h2, _⟩ := h1.rp
  exact ⟨w.length / rootL w, Nat.div_pos h1.le h1.pos, h1.is.symm, Nat.div_mul_cancel (Nat.dvd_of_mod_eq_zero h2)⟩
theorem rep_snoc (t : Nat) (q : W) : rep (t + 1) q = rep t q ++ q := by
  induction t with
  | zero => rw [rep_succ, rep_zero, List.append_nil]; rfl
  | succ t ih =>
    calc rep (t + 1 + 1) q = q ++ rep (t + 1) q := rep_succ ..
      _ = q ++ (rep t q ++ q) := by rw [ih]
      _ = (q ++ rep t q) ++ q := by rw [List.append_assoc]
      _ = rep (t + 1) q ++ q := by rw [← rep_succ]
noncomputable def ringOf (ls : List W) : W := (ls.map rootW).flatten
theorem ringOf_cons (l : W) (ls : List W) : ringOf (l :: ls) = rootW l ++ ringOf ls := by unfold ringOf; rw [List.map_cons, List.flatten_cons]
theorem ringOf_app (a b : List W) : ringOf (a ++ b) = ringOf a ++ ringOf b := by unfold ringOf; rw [List.map_append, List.flatten_append]
theorem LO_nodup {k n : Nat} (hk : 0 < k) : (LO k n).Nodup := (LO_sorted hk).imp fun h e => by rw [e] at h; exact ltir _ h
theorem nx_of {k n : Nat} {pre post : List W} {l l' : W} (hk : 0 < k) (e : LO k n = pre ++ l :: l' :: post) : NX k l l' := by
  have hs := LO_sorted (k := k) (n := n) hk
  rw [e] at hs
  obtain ⟨_, h2, h3⟩ := List.pairwise_append.mp hs
  obtain ⟨h4, h5⟩ := List.pairwise_cons.mp h2
  obtain ⟨h6, _⟩ := List.pairwise_cons.mp h5
  have hm : ∀ v, v ∈ LO k n ↔ LW k n v := fun v => mem_LO hk
  have hl : LW k n l := (hm l).mp (by rw [e]; simp)
  have hl' : LW k n l' := (hm l').mp (by rw [e]; simp)
  refine ⟨by rw [hl.len]; exact hl', h4 l' (by simp), fun v hv hlv hvl => ?_⟩
  rw [hl.len] at hv
  have hv := (hm v).mpr hv
  rw [e] at hv
  rcases List.mem_append.mp hv with g | g
  · exact ltir _ (ltt (h3 v g l (by simp)) hlv)
  · rcases List.mem_cons.mp g with rfl | g
    · exact ltir _ hlv
    · rcases List.mem_cons.mp g with rfl | g
      · exact ltir _ hvl
      · exact ltir _ (ltt (h6 v g) hvl)
theorem topW_LW {k n : Nat} (hk : 0 < k) : LW k n (topW k n) := ⟨topW_len k n, topW_ok hk, lst_rep _ _⟩
theorem last_top {k n : Nat} {pre : List W} {l : W} (hk : 0 < k) (e : LO k n = pre ++ [l]) : l = topW k n := by
  have hs := LO_sorted (k := k) (n := n) hk
  have ht : topW k n ∈ LO k n := (mem_LO hk).mpr (topW_LW hk)
  have hl : l ∈ LO k n := by rw [e]; simp
  have hl := (mem_LO hk).mp hl
  rw [e] at hs ht
  obtain ⟨_, _, h3⟩ := List.pairwise_append.mp hs
  rcases List.mem_append.mp ht with g | g
  · exact absurd (h3 _ g l (by simp)) (top_le hl.len hl.ok)
  · exact (List.mem_singleton.mp g).symm
theorem next_begins {k n : Nat} {l l' y x : W} (hk : 0 < k) (hl : LW k n l) (h : NX k l l') (e : l = y ++ x) (hx : ∃ c ∈ x, c ≠ 96 + k) : ∃ s, l' = y ++ s := by
  obtain ⟨c, hc, hne⟩ := hx
  obtain ⟨x1, x2, rfl⟩ := List.append_of_mem hc
  have hcb := hl.ok c (by rw [e]; simp)
  have e2 : l = (y ++ x1) ++ c :: x2 := by rw [e, List.append_assoc]
  have hg := lst_grow (k := k) (p := y ++ x1) (r := x2) (c := c) (d := c + 1) hk (by rw [← e2]; exact hl.lst) (by rw [← e2]; exact hl.ok) (by (first | lia | omega)) (by (first | lia | omega))
  have hlen : ((y ++ x1) ++ c :: x2).length = n := by rw [← e2]; exact hl.len
  rw [hlen] at hg
  have hpl : ((y ++ x1) ++ [c + 1]).length ≤ n := by rw [← hlen]; simp
  have hv : LW k n (fill k n ((y ++ x1) ++ [c + 1])) := ⟨fill_len hpl, okk_fill hk (okk_app.mpr ⟨fun d hd => hl.ok d (by rw [e2]; exact List.mem_append_left _ hd), fun d hd => by rw [List.mem_singleton.mp hd]; (first | lia | omega)⟩), hg⟩
  have hf : fill k n ((y ++ x1) ++ [c + 1]) = (y ++ x1) ++ (c + 1) :: List.replicate (n - ((y ++ x1) ++ [c + 1]).length) (96 + k) := by unfold fill; rw [List.append_assoc]; rfl
  have hgt : l < fill k n ((y ++ x1) ++ [c + 1]) := by
    rw [hf, e2]
    exact (lt_app_left _).mpr (List.cons_lt_cons_iff.mpr (.inl (Nat.lt_succ_self c)))
  refine between (a := l) (b := fill k n ((y ++ x1) ++ [c + 1])) ⟨_, e⟩ ⟨x1 ++ (c + 1) :: _, by rw [hf, List.append_assoc]⟩ ?_ (fun z => ltir _ (ltt z h.gt)) (fun z => h.low _ (by rw [hl.len]; exact hv) hgt z)
  have := h.lw.len
  rw [hl.len] at this
  have : l.length = y.length + (x1 ++ c :: x2).length := by rw [e, List.length_append]
  rw [hl.len] at this
  (first | lia | omega)
theorem all_top {k : Nat} {x : W} (h : ¬ ∃ c ∈ x, c ≠ 96 + k) : x = topW k x.length :=
  List.eq_replicate_iff.mpr ⟨rfl, fun c hc => Classical.byContradiction fun z => h ⟨c, hc, z⟩⟩
theorem rep_top {k t p : Nat} : rep t (topW k p) = topW k (t * p) := by
  induction t with
  | zero => rw [Nat.zero_mul]; rfl
  | succ t ih => rw [rep_succ, ih, topW, topW, topW, List.replicate_append_replicate, Nat.succ_mul, Nat.add_comm]
theorem top_begins {k n : Nat} {l : W} {c : Nat} {s : W} (hl : LW k n l) (e : l = (96 + k) :: s) : l = topW k n := by
  refine Classical.byContradiction fun hne => ?_
  have hlen := hl.len
  have hx : ∃ c ∈ l, c ≠ 96 + k := Classical.byContradiction fun z => hne (by rw [all_top z, hlen])
  obtain ⟨c, hc, hcn⟩ := hx
  have hcb := hl.ok c hc
  obtain ⟨i, hi⟩ := List.getElem?_of_mem hc
  have hil := (List.getElem?_eq_some_iff.mp hi).1
  have h0 : 0 < l.length := by (first | lia | omega)
  refine lst_iff.mp hl.lst i hil (lt_at (j := 0) (fun j hj => absurd hj (by (first | lia | omega))) (c := c) (d := 96 + k) ?_ (by rw [e]; rfl) (by (first | lia | omega)))
  rw [rot_get (by (first | lia | omega)) h0, Nat.add_zero, Nat.mod_eq_of_lt hil]
  exact hi
theorem read_self {k n : Nat} (hk : 0 < k) (hn : 0 < n) : ∀ (ls : List W) (l : W) (pre : List W), LO k n = pre ++ l :: ls → l ≠ topW k n → ∃ z, ringOf (l :: ls) = l ++ z
  | [], l, pre, e, hne => absurd (last_top hk e) hne
  | l' :: ls, l, pre, e, hne => by
    have hl : LW k n l := (mem_LO hk).mp (by rw [e]; simp)
    have hl' : LW k n l' := (mem_LO hk).mp (by rw [e]; simp)
    have hnx := nx_of hk e
    have h0 : 0 < l.length := by rw [hl.len]; exact hn
    obtain ⟨t, ht, hrep, htl⟩ := rootW_is h0
    rw [ringOf_cons]
    by_cases h1 : t = 1
    · rw [h1, rep_one] at hrep
      exact ⟨ringOf (l' :: ls), by rw [← hrep]⟩
    · have hq : ∃ c ∈ rootW l, c ≠ 96 + k := Classical.byContradiction fun z => hne (by
        have := all_top z
        rw [hrep, this, rep_top, rootW_len h0, htl, hl.len])
      have hsp : l = rep (t - 1) (rootW l) ++ rootW l := by
        rw [← rep_snoc, show t - 1 + 1 = t by (first | lia | omega)]
        exact hrep
      obtain ⟨s, hs⟩ := next_begins hk hl hnx hsp hq
      have hne' : l' ≠ topW k n := fun z => by
        obtain ⟨c, hc, hcn⟩ := hq
        have hm : c ∈ l' := by
          rw [hs, show t - 1 = (t - 2) + 1 by (first | lia | omega), rep_succ]
          exact List.mem_append_left _ (List.mem_append_left _ hc)
        rw [z] at hm
        exact hcn (List.mem_replicate.mp hm).2
      obtain ⟨z, hz⟩ := read_self hk hn ls l' (pre ++ [l]) (by rw [e]; simp) hne'
      refine ⟨s ++ z, ?_⟩
      rw [hz, hs]
      conv => rhs; rw [hrep, show t = t - 1 + 1 by (first | lia | omega), rep_succ]
      simp only [List.append_assoc]
theorem ahead_ends {k n : Nat} {y b u : W} (hk : 0 < k) (hn : 0 < n) (hb : LB k n y b) (hu : LW k n u) (h : NX k u b) : ∃ z, rootW u = z ++ topW k (n - y.length) := by
  obtain ⟨s, hs⟩ := hb.pre
  have hbl := hb.lw.len
  have hyl : y.length ≤ n := by rw [← hbl, hs, List.length_append]; (first | lia | omega)
  have hul := hu.len
  have htl : (u.take y.length).length = y.length := by rw [List.length_take]; (first | lia | omega)
  have hne : u.take y.length ≠ y := fun z => hb.low u hu ⟨u.drop y.length, by conv => lhs; rw [← List.take_append_drop y.length u, z]⟩ h.gt
  have hlt : u.take y.length < y := by
    have h1 := h.gt
    rw [hs] at h1
    conv at h1 => lhs; rw [← List.take_append_drop y.length u]
    rcases lt_of_app htl h1 with g | ⟨g, _⟩
    · exact g
    · exact absurd g hne
  have hisb := hu.isB hk (List.take_append_drop y.length u).symm
  have hv := hisb.lw hk (fun c hc => hu.ok c (List.mem_of_mem_take hc))
  have hf : fill k n (u.take y.length) = u.take y.length ++ topW k (n - y.length) := by unfold fill topW; rw [htl]
  have hvb : fill k n (u.take y.length) < b := by
    rw [hf, hs]
    exact lt_app hlt (by (first | lia | omega)) _ _
  have hle := le_fill (k := k) (v := u) (p := u.take y.length) (s := u.drop y.length) hu.ok (List.take_append_drop y.length u).symm
  rw [hul] at hle
  have hueq : u = u.take y.length ++ topW k (n - y.length) := by
    rw [← hf]
    exact tri (fun z => h.low _ (by rw [hul]; exact hv) z hvb) hle
  have h0 : 0 < u.length := by (first | lia | omega)
  obtain ⟨t, ht, hrep, hp⟩ := rootW_is h0
  have hsuf : u = rep (t - 1) (rootW u) ++ rootW u := by
    rw [← rep_snoc, show t - 1 + 1 = t by (first | lia | omega)]
    exact hrep
  have hrl := rootW_len h0
  have hle2 := (rootL_is h0).le
  generalize rootL u = p at hrl hp hle2
  generalize rootW u = q at hrl hrep hsuf ⊢
  have hql : (rep (t - 1) q).length = n - p := by
    have := congrArg List.length hsuf
    rw [List.length_append, hrl, hul] at this
    (first | lia | omega)
  by_cases hc : n - y.length ≤ p
  · refine ⟨q.take (p - (n - y.length)), ?_⟩
    have h1 : u.drop y.length = topW k (n - y.length) := by
      conv => lhs; rw [hueq]
      exact List.drop_left' htl
    have h2 : u.drop y.length = q.drop (p - (n - y.length)) := by
      conv => lhs; rw [hsuf]
      rw [List.drop_append, List.drop_eq_nil_of_le (by (first | lia | omega)), List.nil_append, hql]
      congr 1
      (first | lia | omega)
    rw [← h1, h2, List.take_append_drop]
  · exfalso
    have hq : q = topW k p := by
      have h1 : u.drop (n - p) = q := by
        conv => lhs; rw [hsuf]
        exact List.drop_left' hql
      have h2 : u.drop (n - p) = topW k p := by
        conv => lhs; rw [hueq]
        rw [List.drop_append, List.drop_eq_nil_of_le (by (first | lia | omega)), List.nil_append, htl, topW, List.drop_replicate, topW]
        congr 1
        (first | lia | omega)
      rw [← h1, h2]
    have : u = topW k n := by rw [hrep, hq, rep_top, hp, hul]
    rw [this] at h
    exact top_le hbl hb.lw.ok h.gt
end Wd

set_option Elab.async false
set_option linter.all false
namespace Wd
noncomputable def cb (k : Nat) (l : W) : Nat := ((allW k l.length).filter fun u => decide (least u < l)).length
theorem up_cb {k : Nat} {l : W} (hk : 0 < k) (h0 : 0 < l.length) (hl : LW k l.length l) : upN k l = cb k l + rootL l := by
  have hc := least_count hk h0 hl (rootL_is h0)
  unfold upN cb
  rw [← hc, ← filter_or]
  · refine congrArg List.length (List.filter_congr fun u hu => ?_)
    rw [Bool.eq_iff_iff, Bool.or_eq_true, Bool.not_eq_true', decide_eq_false_iff_not, decide_eq_true_iff, decide_eq_true_iff]
    constructor
    · intro h
      by_cases c : least u < l
      · exact .inl c
      · exact .inr (tri c h)
    · rintro (h | h)
      · exact fun z => ltir _ (ltt h z)
      · rw [h]; exact ltir _
  · rintro u hu ⟨h1, h2⟩
    have h1 := of_decide_eq_true h1
    have h2 := of_decide_eq_true h2
    rw [h2] at h1
    exact ltir _ h1
theorem cb_next {k n : Nat} {l l' : W} (hk : 0 < k) (hn : 0 < n) (hl : LW k n l) (h : NX k l l') : cb k l' = cb k l + rootL l := by
  have hll := hl.len
  have hll' : l'.length = n := by rw [h.lw.len, hll]
  have h1 := up_next hk (by (first | lia | omega)) h (rootL_is (w := l') (by (first | lia | omega)))
  have h2 := up_cb (l := l') hk (by (first | lia | omega)) (by rw [hll', ← hll]; exact h.lw)
  have h3 := up_cb (l := l) hk (by (first | lia | omega)) (by rw [hll]; exact hl)
  (first | lia | omega)
theorem ring_len {k n : Nat} (hk : 0 < k) (hn : 0 < n) : ∀ (a pre b : List W) (l f : W), LO k n = pre ++ (a ++ l :: b) → (a ++ l :: b).head? = some f → (ringOf a).length + cb k f = cb k l
  | [], pre, b, l, f, e, hf => by
    obtain rfl : l = f := Option.some.inj hf
    show 0 + cb k l = cb k l
    (first | lia | omega)
  | g :: a, pre, b, l, f, e, hf => by
    obtain rfl : g = f := Option.some.inj hf
    have hg : LW k n g := (mem_LO hk).mp (by rw [e]; simp)
    obtain ⟨f', t', e2⟩ : ∃ f' t', a ++ l :: b = f' :: t' := by
      cases a with
      | nil => exact ⟨_, _, rfl⟩
      | cons x a => exact ⟨_, _, rfl⟩
    have hnx : NX k g f' := nx_of (pre := pre) (post := t') hk (by rw [e, List.cons_append, e2])
    have ih := ring_len hk hn a (pre ++ [g]) b l f' (by rw [e]; simp) (by rw [e2]; rfl)
    have hc := cb_next hk hn hg hnx
    rw [ringOf_cons, List.length_append, rootW_len (by rw [hg.len]; exact hn)]
    (first | lia | omega)
theorem rootL_top {k n : Nat} (hn : 0 < n) : rootL (topW k n) = 1 := by
  refine rootL_eq ⟨Nat.one_pos, by rw [topW_len]; exact hn, ?_, fun q h1 h2 => by (first | lia | omega)⟩
  rw [topW_len, Nat.div_one]
  have : (topW k n).take 1 = topW k 1 := by unfold topW; rw [List.take_replicate, show min 1 n = 1 by (first | lia | omega)]
  rw [this, rep_top, Nat.mul_one]
theorem rootW_top {k n : Nat} (hn : 0 < n) : rootW (topW k n) = topW k 1 := by
  unfold rootW
  rw [rootL_top hn]
  unfold topW
  rw [List.take_replicate, show min 1 n = 1 by (first | lia | omega)]
theorem ends_top {k n : Nat} {pre ls : List W} {f : W} (hk : 0 < k) (e : LO k n = pre ++ f :: ls) : ∃ a, f :: ls = a ++ [topW k n] := by
  obtain ⟨a, x, hx⟩ : ∃ a x, f :: ls = a ++ [x] := ⟨(f :: ls).dropLast, (f :: ls).getLast (by simp), (List.dropLast_concat_getLast (by simp)).symm⟩
  have := last_top (pre := pre ++ a) (l := x) hk (by rw [e, hx, List.append_assoc])
  exact ⟨a, by rw [hx, this]⟩
theorem ring_total {k n : Nat} {pre ls : List W} {f : W} (hk : 0 < k) (hn : 0 < n) (e : LO k n = pre ++ f :: ls) : (ringOf (f :: ls)).length + cb k f = k ^ n := by
  obtain ⟨a, ha⟩ := ends_top hk e
  have h1 := ring_len hk hn a pre [] (topW k n) f (by rw [e, ha]) (by rw [← ha]; rfl)
  have h2 := up_cb (l := topW k n) hk (by rw [topW_len]; exact hn) (by rw [topW_len]; exact topW_LW hk)
  have h3 := up_top hk hn
  rw [ha, ringOf_app, List.length_append, ringOf_cons, List.length_append, rootW_len (by rw [topW_len]; exact hn)]
  show (ringOf a).length + (rootL (topW k n) + 0) + cb k f = k ^ n
  (first | lia | omega)
theorem ring_end {k n : Nat} {pre ls : List W} {f : W} (hk : 0 < k) (hn : 0 < n) (e : LO k n = pre ++ f :: ls) (hf : f ≠ topW k n) : ∃ z, ringOf (f :: ls) = z ++ topW k n := by
  obtain ⟨a, ha⟩ := ends_top hk e
  have hane : a ≠ [] := fun z => by rw [z] at ha; exact hf (List.cons.inj ha).1
  obtain ⟨c, u, rfl⟩ : ∃ c u, a = c ++ [u] := ⟨a.dropLast, a.getLast hane, (List.dropLast_concat_getLast hane).symm⟩
  have e2 : LO k n = (pre ++ c) ++ u :: topW k n :: [] := by rw [e, ha]; simp
  have hu : LW k n u := (mem_LO hk).mp (by rw [e2]; simp)
  have hnx := nx_of hk e2
  have hlb : LB k n [96 + k] (topW k n) := ⟨topW_LW hk, ⟨topW k (n - 1), by unfold topW; rw [show n = n - 1 + 1 by (first | lia | omega), List.replicate_succ]; rfl⟩, fun v hv ⟨s, hs⟩ => by rw [top_begins (c := 0) hv hs]; exact ltir _⟩
  obtain ⟨z, hz⟩ := ahead_ends hk hn hlb hu hnx
  refine ⟨ringOf c ++ z, ?_⟩
  rw [ha, ringOf_app, ringOf_app, ringOf_cons, ringOf_cons, hz, rootW_top hn]
  show (ringOf c ++ (z ++ topW k (n - 1) ++ [])) ++ (topW k 1 ++ []) = ringOf c ++ z ++ topW k n
  have h1 : topW k n = topW k (n - 1) ++ topW k 1 := by
    unfold topW
    rw [List.replicate_append_replicate, show n - 1 + 1 = n by (first | lia | omega)]
  rw [h1]
  simp only [List.append_nil, List.append_assoc]
theorem ringAt_mid {t a v b : W} (e : t = a ++ v ++ b) : ringAt t v.length a.length = v := by
  rw [← row_at (by rw [e, List.length_append, List.length_append]; (first | lia | omega)), e, List.append_assoc, List.drop_left' rfl, List.take_left' rfl]
theorem ring_wrap {t a x y b : W} (h1 : t = a ++ x) (h2 : t = y ++ b) (h0 : 0 < t.length) : ringAt t (x.length + y.length) a.length = x ++ y := by
  have l1 : t.length = a.length + x.length := by rw [h1, List.length_append]
  have l2 : t.length = y.length + b.length := by conv => lhs; rw [h2, List.length_append]
  apply ext_get
  · rw [ringAt_len, List.length_append]
  · intro i hi
    rw [ringAt_len] at hi
    rw [ringAt_get hi h0]
    by_cases c : i < x.length
    · rw [Nat.mod_eq_of_lt (by (first | lia | omega)), List.getElem?_append_left c]
      conv => lhs; rw [h1]
      rw [List.getElem?_append_right (by (first | lia | omega)), Nat.add_sub_cancel_left]
    · rw [show a.length + i = (i - x.length) + t.length by (first | lia | omega), Nat.add_mod_right, Nat.mod_eq_of_lt (by (first | lia | omega)), List.getElem?_append_right (by (first | lia | omega))]
      conv => lhs; rw [h2]
      rw [List.getElem?_append_left (by (first | lia | omega))]
theorem turn_root {w : W} (h0 : 0 < w.length) : turnBy w < rootL (least w) := by
  have hl0 : 0 < (least w).length := by rw [least_len]; exact h0
  have hp := rootL_is hl0
  obtain ⟨r1, _, _⟩ := hp.rp
  have hb := turnBy_lt h0
  have hle := hp.le
  rw [least_len] at hle
  have hpos := hp.pos
  refine Classical.byContradiction fun hc => ?_
  have hj := turnBy_first (w := w) (j := turnBy w - rootL (least w)) (by (first | lia | omega))
  have h1 := (rp_rot hp.le).mpr r1
  have hrl : (rot (turnBy w - rootL (least w)) w).length = w.length := rot_length ..
  have h2 : rot (rootL (least w)) (rot (turnBy w - rootL (least w)) w) = rot (turnBy w) w := by
    by_cases e : rootL (least w) = w.length
    · exfalso; (first | lia | omega)
    · rw [rot_rot (by (first | lia | omega)) (by (first | lia | omega)), show rootL (least w) + (turnBy w - rootL (least w)) = turnBy w by (first | lia | omega), Nat.mod_eq_of_lt hb]
  rw [← least_eq] at h2 hj
  -- both turn to the least by as many letters
  have h3 : rot (rootL (least w)) (rot (turnBy w - rootL (least w)) w) = rot (rootL (least w)) (least w) := by rw [h2, h1]
  have h4 := rot_inj (by rw [rot_length, least_len]) h3
  rw [h4] at hj
  exact ltir _ hj
set_option genInjectivity false in
structure At (R : W) (n : Nat) (w : W) (i : Nat) : Prop where
  lt : i < R.length
  is : ringAt R n i = w
section
variable {k n : Nat} {pre ls : List W} {f : W}
theorem split_at (hk : 0 < k) (e : LO k n = pre ++ f :: ls) {l : W} (hl : LW k n l) (hge : ¬ l < f) : ∃ a b, f :: ls = a ++ l :: b := by
  have hm : l ∈ LO k n := (mem_LO hk).mpr hl
  have hs := LO_sorted (k := k) (n := n) hk
  rw [e] at hm hs
  obtain ⟨_, _, h3⟩ := List.pairwise_append.mp hs
  rcases List.mem_append.mp hm with g | g
  · exact absurd (h3 l g f (by simp)) hge
  · exact List.append_of_mem g
theorem ring_pos (hk : 0 < k) (hn : 0 < n) (e : LO k n = pre ++ f :: ls) : 0 < (ringOf (f :: ls)).length := by
  have hf : LW k n f := (mem_LO hk).mp (by rw [e]; simp)
  rw [ringOf_cons, List.length_append, rootW_len (by rw [hf.len]; exact hn)]
  have := (rootL_is (w := f) (by rw [hf.len]; exact hn)).pos
  (first | lia | omega)
theorem at_top (hk : 0 < k) (hn : 0 < n) (e : LO k n = pre ++ f :: ls) : ∃ i : Nat, ((((ringOf (f :: ls)).length : Nat) : Int) - (n : Int)) % (((ringOf (f :: ls)).length : Nat) : Int) = (i : Int) ∧ At (ringOf (f :: ls)) n (topW k n) i := by
  have hpos := ring_pos hk hn e
  by_cases hf : f = topW k n
  · have hls : ls = [] := by
      obtain ⟨a, ha⟩ := ends_top hk e
      cases a with
      | nil => exact (List.cons.inj ha).2
      | cons x a =>
        exfalso
        have hnd := LO_nodup (k := k) (n := n) hk
        rw [e] at hnd
        have h2 := (List.nodup_append.mp hnd).2.1
        rw [ha, hf.symm] at h2
        have hx : x = f := (List.cons.inj ha).1.symm
        rw [hx] at h2
        have := (List.nodup_cons.mp h2).1
        exact this (by simp)
    have hR : ringOf (f :: ls) = topW k 1 := by rw [hls, hf, ringOf_cons, rootW_top hn]; exact List.append_nil _
    refine ⟨0, by rw [hR, topW_len]; (first | lia | omega), by rw [hR, topW_len]; (first | lia | omega), ?_⟩
    rw [hR]
    apply ext_get
    · rw [ringAt_len, topW_len]
    · intro i hi
      rw [ringAt_len] at hi
      rw [ringAt_get hi (by rw [topW_len]; (first | lia | omega)), topW_len, Nat.mod_one]
      unfold topW
      rw [List.getElem?_replicate, List.getElem?_replicate, if_pos (by (first | lia | omega)), if_pos hi]
  · obtain ⟨z, hz⟩ := ring_end hk hn e hf
    have hl : (ringOf (f :: ls)).length = z.length + n := by rw [hz, List.length_append, topW_len]
    refine ⟨z.length, ?_, by (first | lia | omega), ?_⟩
    · rw [hl, show (((z.length + n : Nat) : Int)) - (n : Int) = (z.length : Int) by (first | lia | omega), Int.emod_eq_of_lt (by (first | lia | omega)) (by (first | lia | omega))]
    · have := ringAt_mid (t := ringOf (f :: ls)) (a := z) (v := topW k n) (b := []) (by rw [hz, List.append_nil])
      rw [topW_len] at this
      exact this
theorem rot_parts (w : W) : w = w.take (turnBy w) ++ w.drop (turnBy w) ∧ least w = w.drop (turnBy w) ++ w.take (turnBy w) := ⟨(List.take_append_drop _ _).symm, least_eq w⟩
theorem at_in (hk : 0 < k) (hn : 0 < n) (e : LO k n = pre ++ f :: ls) {w : W} (hw : w.length = n ∧ Okk k w) (hge : ¬ least w < f) (hx : w.take (turnBy w) ≠ topW k (turnBy w)) :
    cb k f ≤ cb k (least w) ∧ turnBy w ≤ rootL (least w) ∧ At (ringOf (f :: ls)) n w (cb k (least w) - cb k f + rootL (least w) - turnBy w) := by
  have h0 : 0 < w.length := by (first | lia | omega)
  have hlw : LW k n (least w) := by rw [← hw.1]; exact lw_least h0 hw.2
  have hby := turn_root h0
  have hbl := turnBy_lt h0
  obtain ⟨p1, p2⟩ := rot_parts w
  have hxl : (w.take (turnBy w)).length = turnBy w := by rw [List.length_take]; (first | lia | omega)
  have hyl : (w.drop (turnBy w)).length = n - turnBy w := by rw [List.length_drop, hw.1]
  generalize hxe : w.take (turnBy w) = x at *
  generalize hye : w.drop (turnBy w) = y at *
  have hxc : ∃ c ∈ x, c ≠ 96 + k := Classical.byContradiction fun z => hx (by have := all_top z; rw [hxl] at this; exact this)
  obtain ⟨a, b, hab⟩ := split_at hk e hlw hge
  have hlen := ring_len hk hn a pre b (least w) f (by rw [e, hab]) (by rw [← hab]; rfl)
  have hl0 : 0 < (least w).length := by rw [hlw.len]; exact hn
  have hltop : least w ≠ topW k n := fun z => by
    obtain ⟨c, hc, hcn⟩ := hxc
    have : c ∈ least w := by rw [p2]; exact List.mem_append_right _ hc
    rw [z] at this
    exact hcn (List.mem_replicate.mp this).2
  cases b with
  | nil => exact absurd (last_top (pre := pre ++ a) hk (by rw [e, hab, List.append_assoc])) hltop
  | cons l' b =>
    have e2 : LO k n = (pre ++ a) ++ least w :: l' :: b := by rw [e, hab]; simp
    obtain ⟨s, hs⟩ := next_begins hk hlw (nx_of hk e2) p2 hxc
    have hl' : LW k n l' := (mem_LO hk).mp (by rw [e2]; simp)
    have hl'top : l' ≠ topW k n := fun z => by
      cases y with
      | nil => simp at hyl; (first | lia | omega)
      | cons c y =>
        rw [hs] at z
        have hc : c = 96 + k := by
          have := congrArg List.head? z
          unfold topW at this
          rw [show n = n - 1 + 1 by (first | lia | omega), List.replicate_succ] at this
          exact Option.some.inj this
        exact hltop (top_begins (c := 0) (s := y ++ x) hlw (by rw [p2, hc]; rfl))
    obtain ⟨z, hz⟩ := read_self hk hn b l' (pre ++ a ++ [least w]) (by rw [e2]; simp) hl'top
    obtain ⟨t, ht, hrep, htl⟩ := rootW_is hl0
    have hrl := rootW_len hl0
    -- the root ends in x
    obtain ⟨q1, hq1⟩ : ∃ q1, rootW (least w) = q1 ++ x := by
      refine ⟨(rootW (least w)).take (rootL (least w) - turnBy w), ?_⟩
      have hsuf : least w = rep (t - 1) (rootW (least w)) ++ rootW (least w) := by
        rw [← rep_snoc, show t - 1 + 1 = t by (first | lia | omega)]
        exact hrep
      generalize rootW (least w) = q at hsuf hrl ⊢
      generalize rootL (least w) = p at hrl hby ⊢
      have h1 : (y ++ x).drop (n - turnBy w) = x := List.drop_left' hyl
      rw [← p2, hsuf, List.drop_append] at h1
      have h2 : (rep (t - 1) q).length = n - p := by
        have := congrArg List.length hsuf
        rw [List.length_append, hrl, hlw.len] at this
        (first | lia | omega)
      rw [List.drop_eq_nil_of_le (by (first | lia | omega)), List.nil_append, h2] at h1
      have hpn : p ≤ n := by
        have := congrArg List.length hsuf
        rw [List.length_append, hrl, hlw.len] at this
        (first | lia | omega)
      rw [show n - turnBy w - (n - p) = p - turnBy w by (first | lia | omega)] at h1
      conv => lhs; rw [← List.take_append_drop (p - turnBy w) q, h1]
    have hR : ringOf (f :: ls) = (ringOf a ++ q1) ++ w ++ (s ++ z) := by
      rw [hab, ringOf_app, ringOf_cons, hz, hq1, hs]
      conv => rhs; rw [p1]
      simp only [List.append_assoc]
    have hq1l : q1.length = rootL (least w) - turnBy w := by
      have := congrArg List.length hq1
      rw [List.length_append, hrl, hxl] at this
      (first | lia | omega)
    have hpos : cb k (least w) - cb k f + rootL (least w) - turnBy w = (ringOf a ++ q1).length := by rw [List.length_append]; (first | lia | omega)
    refine ⟨by (first | lia | omega), by (first | lia | omega), ?_, ?_⟩
    · have h9 := congrArg List.length hR
      have h8 := hw.1
      rw [hpos]
      simp only [List.length_append] at h9 ⊢
      (first | lia | omega)
    · rw [hpos]
      have := ringAt_mid hR
      rw [hw.1] at this
      exact this
theorem at_begin (hk : 0 < k) (hn : 0 < n) (e : LO k n = pre ++ f :: ls) {w bb : W} (hw : w.length = n ∧ Okk k w) (hge : ¬ least w < f) (hx : w.take (turnBy w) = topW k (turnBy w)) (hne : w ≠ topW k n) (hb : LB k n (w.drop (turnBy w)) bb) :
    ∃ i : Nat, (((cb k (if f < bb then bb else f) : Nat) : Int) - ((cb k f : Nat) : Int) - ((turnBy w : Nat) : Int)) % (((ringOf (f :: ls)).length : Nat) : Int) = (i : Int) ∧ At (ringOf (f :: ls)) n w i := by
  have h0 : 0 < w.length := by (first | lia | omega)
  have hpos := ring_pos hk hn e
  have hlw : LW k n (least w) := by rw [← hw.1]; exact lw_least h0 hw.2
  have hbl := turnBy_lt h0
  obtain ⟨p1, p2⟩ := rot_parts w
  have hxl : (w.take (turnBy w)).length = turnBy w := by rw [List.length_take]; (first | lia | omega)
  have hyl : (w.drop (turnBy w)).length = n - turnBy w := by rw [List.length_drop, hw.1]
  rw [hx] at p1 p2
  generalize hye : w.drop (turnBy w) = y at *
  generalize hbe : turnBy w = by_ at *
  have hf : LW k n f := (mem_LO hk).mp (by rw [e]; simp)
  -- what begins with y is not the top word
  have hyt : ∀ {v s : W}, v = y ++ s → v ≠ topW k n := fun {v s} hv z => by
    cases y with
    | nil => simp at hyl; (first | lia | omega)
    | cons c y =>
      rw [hv] at z
      have hc : c = 96 + k := by
        have := congrArg List.head? z
        unfold topW at this
        rw [show n = n - 1 + 1 by (first | lia | omega), List.replicate_succ] at this
        exact Option.some.inj this
      have hlt : least w = topW k n := top_begins (c := 0) (s := y ++ topW k by_) hlw (by rw [p2, hc]; rfl)
      have h1 : y = topW k (n - by_ - 1) ∧ True := by
        refine ⟨?_, trivial⟩
        rw [hlt] at p2
        have h2 : ∀ d ∈ (c :: y) ++ topW k by_, d = 96 + k := fun d hd => by rw [← p2] at hd; exact (List.mem_replicate.mp hd).2
        refine List.eq_replicate_iff.mpr ⟨by simp at hyl; (first | lia | omega), fun d hd => h2 d (by simp [hd])⟩
      refine hne ?_
      rw [p1, h1.1, hc]
      refine List.eq_replicate_iff.mpr ⟨by simp [topW_len]; (first | lia | omega), fun d hd => ?_⟩
      simp [topW] at hd
      (first | lia | omega)
  obtain ⟨s, hs⟩ := hb.pre
  by_cases hlt : f < bb
  · rw [if_pos hlt]
    obtain ⟨a, b, hab⟩ := split_at hk e hb.lw (fun z => ltir _ (ltt z hlt))
    have hane : a ≠ [] := fun z => by
      rw [z] at hab
      have := (List.cons.inj hab).1
      rw [this] at hlt
      exact ltir _ hlt
    obtain ⟨c, u, rfl⟩ : ∃ c u, a = c ++ [u] := ⟨a.dropLast, a.getLast hane, (List.dropLast_concat_getLast hane).symm⟩
    have e2 : LO k n = (pre ++ c) ++ u :: bb :: b := by rw [e, hab]; simp
    have hu : LW k n u := (mem_LO hk).mp (by rw [e2]; simp)
    obtain ⟨z1, hz1⟩ := ahead_ends hk hn hb hu (nx_of hk e2)
    rw [hyl, show n - (n - by_) = by_ by (first | lia | omega)] at hz1
    obtain ⟨z2, hz2⟩ := read_self hk hn b bb (pre ++ (c ++ [u])) (by rw [e, hab]; simp) (hyt hs)
    have hlen := ring_len hk hn (c ++ [u]) pre b bb f (by rw [e, hab]) (by rw [← hab]; rfl)
    have hR : ringOf (f :: ls) = (ringOf c ++ z1) ++ w ++ (s ++ z2) := by
      rw [hab, ringOf_app, ringOf_app, ringOf_cons, hz2, hs, hz1]
      conv => rhs; rw [p1]
      show (ringOf c ++ (z1 ++ topW k by_ ++ [])) ++ (y ++ s ++ z2) = ringOf c ++ z1 ++ (topW k by_ ++ y) ++ (s ++ z2)
      simp only [List.append_nil, List.append_assoc]
    have hl1 : (ringOf (c ++ [u])).length = (ringOf c ++ z1).length + by_ := by
      rw [ringOf_app, ringOf_cons, hz1]
      show (ringOf c ++ (z1 ++ topW k by_ ++ [])).length = _
      simp only [List.append_nil, List.length_append, topW_len]
      (first | lia | omega)
    have hRl : (ringOf (f :: ls)).length = (ringOf c ++ z1).length + n + (s ++ z2).length := by rw [hR, List.length_append, List.length_append, hw.1]
    refine ⟨(ringOf c ++ z1).length, ?_, by (first | lia | omega), ?_⟩
    · rw [show ((cb k bb : Nat) : Int) - ((cb k f : Nat) : Int) - ((by_ : Nat) : Int) = (((ringOf c ++ z1).length : Nat) : Int) by (first | lia | omega)]
      exact Int.emod_eq_of_lt (by (first | lia | omega)) (by (first | lia | omega))
    · have := ringAt_mid hR
      rw [hw.1] at this
      exact this
  · rw [if_neg hlt]
    obtain ⟨s', hs'⟩ : ∃ s', f = y ++ s' := between ⟨s, hs⟩ ⟨topW k by_, p2⟩ (by rw [hyl, hf.len]; (first | lia | omega)) hlt hge
    obtain ⟨z0, hz0⟩ := read_self hk hn ls f pre e (hyt hs')
    obtain ⟨z, hz⟩ := ring_end hk hn e (hyt hs')
    have htop : topW k n = topW k (n - by_) ++ topW k by_ := by unfold topW; rw [List.replicate_append_replicate, show n - by_ + by_ = n by (first | lia | omega)]
    have hR1 : ringOf (f :: ls) = (z ++ topW k (n - by_)) ++ topW k by_ := by rw [hz, htop, List.append_assoc]
    have hR2 : ringOf (f :: ls) = y ++ (s' ++ z0) := by rw [hz0, hs', List.append_assoc]
    have hw2 := ring_wrap hR1 hR2 hpos
    rw [topW_len, hyl, show by_ + (n - by_) = n by (first | lia | omega), ← p1] at hw2
    have hl1 : (ringOf (f :: ls)).length = (z ++ topW k (n - by_)).length + by_ := by rw [hR1, List.length_append, topW_len]
    refine ⟨(z ++ topW k (n - by_)).length % (ringOf (f :: ls)).length, ?_, Nat.mod_lt _ hpos, by rw [ringAt_mod]; exact hw2⟩
    rw [Int.sub_self, Int.natCast_emod, show (0 : Int) - ((by_ : Nat) : Int) = (((z ++ topW k (n - by_)).length : Nat) : Int) - (((ringOf (f :: ls)).length : Nat) : Int) by (first | lia | omega), Int.sub_emod_right]
end
end Wd

set_option Elab.async false
set_option linter.all false
namespace Wd
theorem nodup_of_all : ∀ {a b : List W}, b.Nodup → (∀ x ∈ b, x ∈ a) → a.length ≤ b.length → a.Nodup
  | [], _, _, _, _ => List.nodup_nil
  | x :: a, b, hb, h, hl => by
    have hx : x ∉ a := fun hx => by
      have := nodup_le b a hb fun y hy => by
        rcases List.mem_cons.mp (h y hy) with rfl | g
        · exact hx
        · exact g
      rw [List.length_cons] at hl
      (first | lia | omega)
    refine List.nodup_cons.mpr ⟨hx, nodup_of_all (b := b.erase x) (hb.erase x) (fun y hy => ?_) ?_⟩
    · have h1 := (List.Nodup.mem_erase_iff hb).mp hy
      exact (List.mem_cons.mp (h y h1.2)).resolve_left h1.1
    · rw [List.length_cons] at hl
      have := List.length_erase (a := x) (l := b)
      split at this <;> (first | lia | omega)
noncomputable def due (k n : Nat) (f : W) : List W := (allW k n).filter fun w => !decide (least w < f)
theorem mem_due {k n : Nat} {f w : W} (hk : 0 < k) : w ∈ due k n f ↔ (w.length = n ∧ Okk k w) ∧ ¬ least w < f := by
  unfold due
  rw [List.mem_filter, mem_allW hk]
  simp
theorem due_nodup {k n : Nat} {f : W} (hk : 0 < k) : (due k n f).Nodup := (allW_nd hk).filter _
section
variable {k n : Nat} {pre ls : List W} {f : W}
theorem due_len (hk : 0 < k) (hn : 0 < n) (e : LO k n = pre ++ f :: ls) : (due k n f).length = (ringOf (f :: ls)).length := by
  have hf : LW k n f := (mem_LO hk).mp (by rw [e]; simp)
  have h1 := ring_total hk hn e
  have h2 := filter_two (allW k n) fun u => decide (least u < f)
  rw [allW_len] at h2
  have h3 : cb k f = ((allW k n).filter fun u => decide (least u < f)).length := by unfold cb; rw [hf.len]
  unfold due
  (first | lia | omega)
theorem lb_ex (hk : 0 < k) {y x : W} (h : LW k n (y ++ x)) : ∃ b, LB k n y b := by
  have hm : y ++ x ∈ (LO k n).filter (begs y) := List.mem_filter.mpr ⟨(mem_LO hk).mpr h, begs_iff.mpr ⟨x, rfl⟩⟩
  cases he : (LO k n).filter (begs y) with
  | nil => rw [he] at hm; cases hm
  | cons b r => exact ⟨b, begs_head hk he⟩
theorem stands (hk : 0 < k) (hn : 0 < n) (e : LO k n = pre ++ f :: ls) {w : W} (hw : w ∈ due k n f) : ∃ i, At (ringOf (f :: ls)) n w i := by
  obtain ⟨h1, h2⟩ := (mem_due hk).mp hw
  by_cases ht : w = topW k n
  · obtain ⟨i, _, hi⟩ := at_top hk hn e
    exact ⟨i, by rw [ht]; exact hi⟩
  · by_cases hx : w.take (turnBy w) = topW k (turnBy w)
    · obtain ⟨b, hb⟩ := lb_ex (n := n) (y := w.drop (turnBy w)) (x := w.take (turnBy w)) hk (by rw [← (rot_parts w).2, ← h1.1]; exact lw_least (by (first | lia | omega)) h1.2)
      obtain ⟨i, _, hi⟩ := at_begin hk hn e h1 h2 hx ht hb
      exact ⟨i, hi⟩
    · exact ⟨_, (at_in hk hn e h1 h2 hx).2.2⟩
theorem At.get {R : W} {w : W} {i : Nat} (h : At R n w i) : (ringW R n)[i]? = some w := by rw [ringW_get h.lt, h.is]
theorem At.mem {R : W} {w : W} {i : Nat} (h : At R n w i) : w ∈ ringW R n := List.mem_of_getElem? h.get
theorem fkm (hk : 0 < k) (hn : 0 < n) (e : LO k n = pre ++ f :: ls) : (ringW (ringOf (f :: ls)) n).Nodup ∧ (ringW (ringOf (f :: ls)) n).Perm (due k n f) := by
  have hl : (ringW (ringOf (f :: ls)) n).length = (due k n f).length := by rw [ringW_len, due_len hk hn e]
  have hall : ∀ w ∈ due k n f, w ∈ ringW (ringOf (f :: ls)) n := fun w hw => (stands hk hn e hw).elim fun _ h => h.mem
  have hnd := nodup_of_all (due_nodup hk) hall (by (first | lia | omega))
  refine ⟨hnd, (List.perm_ext_iff_of_nodup hnd (due_nodup hk)).mpr fun w => ⟨fun hw => ?_, hall w⟩⟩
  refine Classical.byContradiction fun hno => ?_
  have := nodup_le (w :: due k n f) (ringW (ringOf (f :: ls)) n) (List.nodup_cons.mpr ⟨hno, due_nodup hk⟩) fun y hy => by
    rcases List.mem_cons.mp hy with rfl | hy
    · exact hw
    · exact hall y hy
  rw [List.length_cons] at this
  (first | lia | omega)
theorem root_at : ∀ (ls : List W) (i : Nat), i < (ringOf ls).length → (∀ l ∈ ls, 0 < l.length) → ∃ a l b, ls = a ++ l :: b ∧ (ringOf a).length ≤ i ∧ i < (ringOf a).length + rootL l
  | [], i, h, _ => absurd h (by show ¬ i < 0; (first | lia | omega))
  | l :: ls, i, h, hp => by
    rw [ringOf_cons, List.length_append, rootW_len (hp l (by simp))] at h
    by_cases c : i < rootL l
    · exact ⟨[], l, ls, rfl, Nat.zero_le _, by show i < 0 + rootL l; (first | lia | omega)⟩
    · obtain ⟨a, l', b, e1, e2, e3⟩ := root_at ls (i - rootL l) (by (first | lia | omega)) fun x hx => hp x (by simp [hx])
      refine ⟨l :: a, l', b, by rw [e1]; rfl, ?_, ?_⟩ <;> rw [ringOf_cons, List.length_append, rootW_len (hp l (by simp))] <;> (first | lia | omega)
theorem filter_le : ∀ (l : List W) (p q : W → Bool), (∀ u, p u = true → q u = true) → (l.filter p).length ≤ (l.filter q).length
  | [], _, _, _ => Nat.le_refl _
  | a :: l, p, q, h => by
    have ih := filter_le l p q h
    rw [List.filter_cons, List.filter_cons]
    cases hp : p a with
    | true => rw [h a hp]; simp only [if_true, List.length_cons]; (first | lia | omega)
    | false =>
      cases hq : q a with
      | true => simp only [Bool.false_eq_true, if_false, if_true, List.length_cons]; (first | lia | omega)
      | false => simp only [Bool.false_eq_true, if_false]; exact ih
theorem up_thr {l w : W} {N : Nat} (hk : 0 < k) (hl : LW k n l) (hw : w.length = n) (h1 : cb k l ≤ N) (h2 : N < upN k l) : N < upN k w ↔ ¬ w < l := by
  have hll := hl.len
  constructor
  · intro h hlt
    have : upN k w ≤ cb k l := by
      unfold upN cb
      rw [hw, hll]
      refine filter_le _ _ _ fun u hu => ?_
      have hu : ¬ w < least u := by simpa using hu
      have : least u < l := Classical.byContradiction fun z => hu (ltle hlt z)
      simp [this]
    (first | lia | omega)
  · intro h
    refine Nat.lt_of_lt_of_le h2 ?_
    unfold upN
    rw [hw, hll]
    refine filter_le _ _ _ fun u hu => ?_
    have hu : ¬ l < least u := by simpa using hu
    have : ¬ w < least u := lele hu h
    simp [this]
theorem first_thr {l : W} {m : Nat} (hk : 0 < k) (hl : l.length = n ∧ Okk k l) (hm : m < k ^ n) (h1 : ¬ spell k n m < l) (h2 : m = 0 ∨ spell k n (m - 1) < l) : spell k n m = l := by
  have hsp : ∀ j, (spell k n j).length = n ∧ Okk k (spell k n j) := fun j => ⟨spell_len .., spell_mem hk _ _⟩
  obtain ⟨s1, s2⟩ := spell_num n l hl.1 hl.2
  have g1 : ¬ m < num k l := fun z => h1 ((num_lt hk (hsp m) hl).mpr (by rw [num_spell hk n m hm]; exact z))
  have g2 : m = 0 ∨ m - 1 < num k l := h2.imp id fun h => by
    have := (num_lt hk (hsp (m - 1)) hl).mp h
    rwa [num_spell hk n (m - 1) (by (first | lia | omega))] at this
  have : num k l = m := by (first | lia | omega)
  rw [← s1, this]
set_option genInjectivity false in
structure Walk (R : W) (f : W) (k : Nat) (ls : List W) (p : Nat) (t u : W) : Prop where
  mem : u ∈ ls
  rd : t = ringAt R t.length p
  at_ : (p + t.length) % R.length = cb k u - cb k f
  ge : cb k f ≤ cb k u
theorem Walk.step (hk : 0 < k) (hn : 0 < n) (e : LO k n = pre ++ f :: ls) {p : Nat} {t u : W} (h : Walk (ringOf (f :: ls)) f k (f :: ls) p t u) : t ++ rootW u = ringAt (ringOf (f :: ls)) (t ++ rootW u).length p ∧ cb k u - cb k f + rootL u ≤ (ringOf (f :: ls)).length ∧ (p + (t ++ rootW u).length) % (ringOf (f :: ls)).length = (cb k u - cb k f + rootL u) % (ringOf (f :: ls)).length := by
  have hpos := ring_pos hk hn e
  obtain ⟨a, b, hab⟩ := List.append_of_mem h.mem
  have hu : LW k n u := (mem_LO hk).mp (by rw [e, hab]; simp)
  have hu0 : 0 < u.length := by rw [hu.len]; exact hn
  have hlen := ring_len hk hn a pre b u f (by rw [e, hab]) (by rw [← hab]; rfl)
  have hrl := rootW_len hu0
  have hR : ringOf (f :: ls) = ringOf a ++ rootW u ++ ringOf b := by rw [hab, ringOf_app, ringOf_cons, List.append_assoc]
  have hRl : (ringOf (f :: ls)).length = (ringOf a).length + rootL u + (ringOf b).length := by rw [hR, List.length_append, List.length_append, hrl]
  have hbeg : cb k u - cb k f = (ringOf a).length := by (first | lia | omega)
  have hat := h.at_
  rw [hbeg] at hat
  refine ⟨?_, by (first | lia | omega), ?_⟩
  · apply ext_get
    · rw [ringAt_len]
    · intro i hi
      rw [List.length_append] at hi
      rw [ringAt_get (by rw [List.length_append]; exact hi) hpos]
      by_cases c : i < t.length
      · rw [List.getElem?_append_left c]
        conv => lhs; rw [h.rd]
        rw [ringAt_get c hpos]
      · rw [List.getElem?_append_right (by (first | lia | omega))]
        have e1 : (p + i) % (ringOf (f :: ls)).length = (ringOf a).length + (i - t.length) := by
          rw [show p + i = (p + t.length) + (i - t.length) by (first | lia | omega), Nat.add_mod, hat]
          rw [hrl] at hi
          rw [Nat.mod_eq_of_lt (show i - t.length < (ringOf (f :: ls)).length by (first | lia | omega)), Nat.mod_eq_of_lt (by (first | lia | omega))]
        rw [e1]
        conv => rhs; rw [hR, List.append_assoc]
        rw [List.getElem?_append_right (by (first | lia | omega)), Nat.add_sub_cancel_left, List.getElem?_append_left (by (first | lia | omega))]
  · rw [List.length_append, hrl, ← Nat.add_assoc, Nat.add_mod, hat, hbeg]
    conv => rhs; rw [Nat.add_mod]
    rw [Nat.mod_eq_of_lt (show (ringOf a).length < (ringOf (f :: ls)).length by have := (rootL_is hu0).pos; (first | lia | omega))]
theorem Walk.next (hk : 0 < k) (hn : 0 < n) (e : LO k n = pre ++ f :: ls) {p : Nat} {t u v : W} (h : Walk (ringOf (f :: ls)) f k (f :: ls) p t u) (hv : (NX k u v) ∨ (v = f ∧ ∀ x, LW k n x → ¬ u < x)) : Walk (ringOf (f :: ls)) f k (f :: ls) p (t ++ rootW u) v := by
  obtain ⟨h1, h2, h3⟩ := h.step hk hn e
  have hu : LW k n u := (mem_LO hk).mp (by rw [e]; exact List.mem_append_right _ h.mem)
  rcases hv with hv | ⟨rfl, hno⟩
  · have hc := cb_next hk hn hu hv
    have hvl : LW k n v := by have := hv.lw; rwa [hu.len] at this
    have hge := h.ge
    have hm : v ∈ f :: ls := by
      have hfu : ¬ u < f := fun z => by
        obtain ⟨a, b, hab⟩ := List.append_of_mem h.mem
        have hs := LO_sorted (k := k) (n := n) hk
        rw [e] at hs
        obtain ⟨_, h2, _⟩ := List.pairwise_append.mp hs
        rcases List.mem_cons.mp h.mem with rfl | hm
        · exact ltir _ z
        · exact ltir _ (ltt z ((List.pairwise_cons.mp h2).1 u hm))
      obtain ⟨a, b, hab⟩ := split_at hk e hvl (fun z => hfu (ltt hv.gt z))
      rw [hab]; simp
    refine ⟨hm, h1, ?_, by (first | lia | omega)⟩
    rw [h3, hc, show cb k u + rootL u - cb k f = cb k u - cb k f + rootL u by (first | lia | omega)]
    refine Nat.mod_eq_of_lt ?_
    have hvp := (rootL_is (w := v) (by rw [hvl.len]; exact hn)).pos
    obtain ⟨a, b, hab⟩ := List.append_of_mem hm
    have hlen := ring_len hk hn a pre b v f (by rw [e, hab]) (by rw [← hab]; rfl)
    have hRl : (ringOf (f :: ls)).length = (ringOf a).length + (rootL v + (ringOf b).length) := by rw [hab, ringOf_app, List.length_append, ringOf_cons, List.length_append, rootW_len (by rw [hvl.len]; exact hn)]
    (first | lia | omega)
  · have htop : u = topW k n := tri (hno _ (topW_LW hk)) (top_le hu.len hu.ok) |>.symm ▸ rfl
    have htot := ring_total hk hn e
    have hup := up_top (k := k) (n := n) hk hn
    have hucb := up_cb (l := topW k n) hk (by rw [topW_len]; exact hn) (by rw [topW_len]; exact topW_LW hk)
    have hge := h.ge
    rw [htop] at h1 h2 h3 hge ⊢
    refine ⟨by simp, h1, ?_, Nat.le_refl _⟩
    rw [h3, show cb k (topW k n) - cb k v + rootL (topW k n) = (ringOf (v :: ls)).length by (first | lia | omega), Nat.mod_self, Nat.sub_self]
end
end Wd

set_option Elab.async false
set_option linter.all false
namespace Wd
noncomputable def ringF (k : Nat) (f : W) : W := ringOf ((LO k f.length).filter fun v => !decide (v < f))
theorem ringF_is {k n : Nat} {f : W} (hk : 0 < k) (hf : LW k n f) : ∃ pre ls, LO k n = pre ++ f :: ls ∧ ringF k f = ringOf (f :: ls) := by
  obtain ⟨pre, ls, e⟩ := List.append_of_mem ((mem_LO hk).mpr hf)
  refine ⟨pre, ls, e, ?_⟩
  have hs := LO_sorted (k := k) (n := n) hk
  rw [e] at hs
  obtain ⟨_, h2, h3⟩ := List.pairwise_append.mp hs
  obtain ⟨h4, _⟩ := List.pairwise_cons.mp h2
  unfold ringF
  rw [hf.len, e, List.filter_append, List.filter_eq_nil_iff.mpr (fun v hv => by simp [h3 v hv f (by simp)]), List.nil_append]
  rw [List.filter_eq_self.mpr]
  intro v hv
  rcases List.mem_cons.mp hv with rfl | hv
  · simp [ltir]
  · have : ¬ v < f := fun z => ltir _ (ltt z (h4 v hv))
    simp [this]
theorem ringF_len {k n : Nat} {f : W} (hk : 0 < k) (hn : 0 < n) (hf : LW k n f) : (ringF k f).length + cb k f = k ^ n ∧ 0 < (ringF k f).length := by
  obtain ⟨pre, ls, e, h⟩ := ringF_is hk hf
  rw [h]
  exact ⟨ring_total hk hn e, ring_pos hk hn e⟩
theorem ringF_at {k n : Nat} {f : W} {i : Nat} (hk : 0 < k) (hn : 0 < n) (hf : LW k n f) (hi : i < (ringF k f).length) : ∃ l, LW k n l ∧ ¬ l < f ∧ cb k f ≤ cb k l ∧ cb k l ≤ cb k f + i ∧ cb k f + i < upN k l := by
  obtain ⟨pre, ls, e, h⟩ := ringF_is hk hf
  rw [h] at hi
  have hall : ∀ x ∈ f :: ls, LW k n x := fun x hx => (mem_LO hk).mp (by rw [e]; exact List.mem_append_right _ hx)
  obtain ⟨a, l, b, h1, h2, h3⟩ := root_at (f :: ls) i hi fun x hx => by rw [(hall x hx).len]; exact hn
  have hl := hall l (by rw [h1]; simp)
  have hlen := ring_len hk hn a pre b l f (by rw [e, h1]) (by rw [← h1]; rfl)
  have hup := up_cb (l := l) hk (by rw [hl.len]; exact hn) (by rw [hl.len]; exact hl)
  refine ⟨l, hl, fun z => ?_, by (first | lia | omega), by (first | lia | omega), by (first | lia | omega)⟩
  have hs := LO_sorted (k := k) (n := n) hk
  rw [e] at hs
  obtain ⟨_, g2, _⟩ := List.pairwise_append.mp hs
  have hm : l ∈ f :: ls := by rw [h1]; simp
  rcases List.mem_cons.mp hm with rfl | hm
  · exact ltir _ z
  · exact ltir _ (ltt z ((List.pairwise_cons.mp g2).1 l hm))
theorem first_up {k n N m : Nat} {l : W} (hk : 0 < k) (hl : LW k n l) (hm : m < k ^ n) (h1 : N < upN k (spell k n m)) (h2 : m = 0 ∨ upN k (spell k n (m - 1)) ≤ N) (h3 : cb k l ≤ N) (h4 : N < upN k l) : spell k n m = l := by
  refine first_thr hk ⟨hl.len, hl.ok⟩ hm ((up_thr hk hl (spell_len ..) h3 h4).mp h1) (h2.imp id fun h => ?_)
  exact Classical.byContradiction fun z => by have := (up_thr hk hl (spell_len k n (m - 1)) h3 h4).mpr z; (first | lia | omega)
theorem ringAt_part {R t : W} {p s m : Nat} (hR : 0 < R.length) (h : t = ringAt R t.length p) (hl : s + m ≤ t.length) : (t.drop s).take m = ringAt R m (p + s) := by
  apply ext_get
  · rw [List.length_take, List.length_drop, ringAt_len]; (first | lia | omega)
  · intro i hi
    rw [List.length_take, List.length_drop] at hi
    rw [List.getElem?_take_of_lt (by (first | lia | omega)), List.getElem?_drop, ringAt_get (by (first | lia | omega)) hR]
    conv => lhs; rw [h]
    rw [ringAt_get (by (first | lia | omega)) hR, Nat.add_assoc]
theorem ringAt_all {R : W} (hR : 0 < R.length) : ringAt R R.length 0 = R := by
  apply ext_get
  · rw [ringAt_len]
  · intro i hi
    rw [ringAt_len] at hi
    rw [ringAt_get hi hR, Nat.zero_add, Nat.mod_eq_of_lt hi]
end Wd

set_option Elab.async false
set_option linter.all false
set_option maxRecDepth 100000
namespace Wd
section
variable {k n : Nat} {pre ls : List W} {f : W}
theorem least_at (hk : 0 < k) (hn : 0 < n) (e : LO k n = pre ++ f :: ls) {l : W} (hl : LW k n l) (hge : ¬ l < f) (hne : l ≠ topW k n) : cb k f ≤ cb k l ∧ At (ringOf (f :: ls)) n l (cb k l - cb k f) := by
  obtain ⟨a, b, hab⟩ := split_at hk e hl hge
  have h1 := ring_len hk hn a pre b l f (by rw [← hab]; exact e) (by rw [← hab]; rfl)
  obtain ⟨z, hz⟩ := read_self hk hn b l (pre ++ a) (by rw [List.append_assoc, ← hab]; exact e) hne
  have hR : ringOf (f :: ls) = ringOf a ++ l ++ z := by rw [hab, ringOf_app, hz, List.append_assoc]
  have hll := hl.len
  refine ⟨by (first | lia | omega), ?_, ?_⟩
  · rw [hR, List.length_append, List.length_append]; (first | lia | omega)
  · have := ringAt_mid hR
    rw [hll] at this
    rw [show cb k l - cb k f = (ringOf a).length by (first | lia | omega)]
    exact this
theorem top_alone (hk : 0 < k) (hn : 0 < n) (e : LO k n = pre ++ f :: ls) (hf : f = topW k n) : (ringOf (f :: ls)).length = 1 := by
  have h1 := ring_total hk hn e
  have h2 := up_cb (k := k) (l := topW k n) hk (by rw [topW_len]; exact hn) (by rw [topW_len]; exact topW_LW hk)
  rw [up_top hk hn, rootL_top hn, ← hf] at h2
  (first | lia | omega)
theorem first_at (hk : 0 < k) (hn : 0 < n) (e : LO k n = pre ++ f :: ls) : At (ringOf (f :: ls)) n f 0 := by
  have hf : LW k n f := (mem_LO hk).mp (by rw [e]; simp)
  by_cases h : f = topW k n
  · obtain ⟨i, _, hat⟩ := at_top hk hn e
    have := hat.lt
    rw [top_alone hk hn e h] at this
    obtain rfl : i = 0 := by (first | lia | omega)
    rw [h] at hat ⊢
    exact hat
  · have := (least_at hk hn e hf (ltir _) h).2
    rw [Nat.sub_self] at this
    exact this
end
section
variable {k n : Nat} {f : W}
theorem ringF_first (hk : 0 < k) (hn : 0 < n) (hf : LW k n f) : At (ringF k f) n f 0 := by
  obtain ⟨pre, ls, e, hR⟩ := ringF_is hk hf
  rw [hR]
  exact first_at hk hn e
end
end Wd
namespace Wd
end Wd
namespace Wd
section
variable {k n : Nat} {f : W}
end
end Wd

set_option Elab.async false
set_option linter.all false
set_option maxRecDepth 100000
namespace Wd
theorem no_lt_as : ∀ (n : Nat) (v : W), v.length = n → (∀ c ∈ v, 97 ≤ c) → ¬ v < List.replicate n 97
  | 0, [], _, _ => by simp
  | n + 1, c :: v, hl, h => by
    rw [List.replicate_succ, List.cons_lt_cons_iff]
    rintro (z | ⟨_, z⟩)
    · have := h c (List.mem_cons_self ..); (first | lia | omega)
    · exact no_lt_as n v (by simpa using hl) (fun d hd => h d (List.mem_cons_of_mem _ hd)) z
theorem cb_as {k n : Nat} (hk : 0 < k) (hn : 0 < n) : cb k (List.replicate n 97) = 0 := by
  unfold cb
  rw [List.length_replicate, List.length_eq_zero_iff, List.filter_eq_nil_iff]
  intro u hu z
  have hm := (mem_allW hk).mp hu
  have hlw : LW k n (least u) := by rw [← hm.1]; exact lw_least (by (first | lia | omega)) hm.2
  exact no_lt_as n _ hlw.len (fun c hc => (hlw.ok c hc).1) (of_decide_eq_true z)
theorem as_LW {k n : Nat} (hk : 0 < k) : LW k n (List.replicate n 97) := ⟨List.length_replicate, fun c hc => by rw [(List.mem_replicate.mp hc).2]; (first | lia | omega), lst_rep _ _⟩
theorem ring_as {k n : Nat} (hk : 0 < k) (hn : 0 < n) : (ringF k (List.replicate n 97)).length = k ^ n := by
  have h1 := (ringF_len hk hn (as_LW (n := n) hk)).1
  rw [cb_as hk hn] at h1
  exact h1
theorem aab_LW : LW 4 7 [97, 97, 97, 97, 97, 97, 98] := ⟨rfl, by unfold Okk; decide, by unfold Lst; decide⟩
theorem ring_aab : 4096 < (ringF 4 [97, 97, 97, 97, 97, 97, 98]).length := by
  have h1 := (ringF_len (n := 7) (by decide) (by decide) aab_LW).1
  have hx : NX 4 (List.replicate 7 97) [97, 97, 97, 97, 97, 97, 98] := ⟨aab_LW, by decide, fun v hv z1 z2 => by
    have a1 := (num_lt (n := 7) (by decide) ⟨rfl, by unfold Okk; decide⟩ ⟨hv.len, hv.ok⟩).mp z1
    have a2 := (num_lt (n := 7) (by decide) ⟨hv.len, hv.ok⟩ ⟨rfl, by unfold Okk; decide⟩).mp z2
    have e1 : num 4 (List.replicate 7 97) = 0 := by decide
    have e2 : num 4 [97, 97, 97, 97, 97, 97, 98] = 1 := by decide
    (first | lia | omega)⟩
  have h2 := cb_next (n := 7) (by decide) (by decide) (as_LW (by decide)) hx
  rw [cb_as (by decide) (by decide)] at h2
  have h3 := (rootL_is (w := List.replicate 7 97) (by decide)).le
  rw [List.length_replicate] at h3
  have e : (4 : Nat) ^ 7 = 16384 := by decide
  (first | lia | omega)
theorem abb_LW : LW 2 13 ([97, 97, 98] ++ List.replicate 10 98) := ⟨rfl, by unfold Okk; decide, by unfold Lst; decide +kernel⟩
theorem abb_gl : (gl 2 ([97, 97, 98] ++ List.replicate 10 98)).length ≤ 4000 := by decide +kernel
theorem abb_sum {R c u r g : Nat} (h1 : R + c = 8192) (h2 : u = c + r) (h3 : u + g = 8192) (h4 : r ≤ 13) (h5 : g ≤ 4000) : R ≤ 4096 := by (first | lia | omega)
theorem ring_abb : (ringF 2 ([97, 97, 98] ++ List.replicate 10 98)).length ≤ 4096 := by
  have h1 := (ringF_len (n := 13) (by decide) (by decide) abb_LW).1
  have e : ([97, 97, 98] ++ List.replicate 10 98).length = 13 := rfl
  have h2 := up_cb (k := 2) (l := [97, 97, 98] ++ List.replicate 10 98) (by decide) (by decide) (by rw [e]; exact abb_LW)
  have h3 := up_len (k := 2) (by decide) (by decide) (LL.self abb_LW.ok abb_LW.lst)
  have h4 := (rootL_is (w := [97, 97, 98] ++ List.replicate 10 98) (by decide)).le
  rw [e] at h3 h4
  exact abb_sum h1 h2 h3 h4 abb_gl
end Wd
namespace Wd
theorem wrap_as {R : W} {m : Nat} (hl : m + 1 ≤ R.length) (h : ringAt R (m + 1) 0 = List.replicate (m + 1) 97) : R ++ List.replicate m 97 = ringAt R (R.length + m) 0 := by
  have h0 : 0 < R.length := by (first | lia | omega)
  apply List.ext_getElem?
  intro k
  by_cases h1 : k < R.length
  · rw [List.getElem?_append_left h1, ringAt_get (by (first | lia | omega)) h0, Nat.zero_add, Nat.mod_eq_of_lt h1]
  · rw [List.getElem?_append_right (by (first | lia | omega))]
    by_cases h2 : k < R.length + m
    · rw [ringAt_get h2 h0, Nat.zero_add, Nat.mod_eq_sub_mod (by (first | lia | omega)), Nat.mod_eq_of_lt (by (first | lia | omega)), List.getElem?_replicate, if_pos (by (first | lia | omega))]
      have g := ringAt_get (t := R) (n := m + 1) (i := 0) (k := k - R.length) (by (first | lia | omega)) h0
      rw [h, Nat.zero_add, Nat.mod_eq_of_lt (by (first | lia | omega)), List.getElem?_replicate, if_pos (by (first | lia | omega))] at g
      exact g
    · rw [List.getElem?_eq_none (by rw [List.length_replicate]; (first | lia | omega)), List.getElem?_eq_none (by rw [ringAt_len]; (first | lia | omega))]
end Wd

set_option Elab.async false
set_option linter.all false
set_option maxRecDepth 100000
set_option maxHeartbeats 4000000

namespace L2
open PySem PySem.Spec PyProof.Rows

noncomputable def tx (l : List Nat) : Str := ⟨l.toArray⟩
noncomputable abbrev T (l : List Nat) : V := .str (tx l)
theorem tx_len (l : List Nat) : (tx l).length = l.length := by simp [tx, Str.length]
theorem tx_cps (l : List Nat) : (tx l).cps.toList = l := by simp [tx]
theorem tx_eta (x : Str) : tx x.cps.toList = x := by cases x; simp [tx]
theorem tx_inj {a b : List Nat} (h : tx a = tx b) : a = b := by
  have e := congrArg (fun x : Str => x.cps.toList) h
  simpa [tx] using e
theorem T_inj {a b : List Nat} (h : T a = T b) : a = b := tx_inj (V.str.inj h)
theorem T_dec {a b : List Nat} : decide (T a = T b) = decide (a = b) := by
  rw [Bool.eq_iff_iff, decide_eq_true_iff, decide_eq_true_iff]
  exact ⟨T_inj, fun h => by rw [h]⟩
theorem tx_app (a b : List Nat) : tx a ++ tx b = tx (a ++ b) := by
  rw [← tx_eta (tx a ++ tx b), PySem.W.KT.app_list, tx_cps, tx_cps]

section
variable {X : Cx}
theorem op_add_T : OpR X (binaryOp .Add) (fun x y H Q => ∃ a, x = T a ∧ ∃ b, y = T b ∧ a.length + b.length ≤ sizeLine ∧ Q (T (a ++ b)) H) := by
  intro pins s σ H x y v u Q I rx ry h
  obtain ⟨a, e1, b, e2, hz, q⟩ := h
  exact op_add_str pins s σ H x y v u Q I rx ry ⟨tx a, tx b, e1, e2, by rw [tx_len, tx_len]; exact hz, by rw [tx_app]; exact q⟩
theorem op_lt_T : OpR X (compareOp .Lt) (fun x y H Q => ∃ a, x = T a ∧ ∃ b, y = T b ∧ Q (.bl (decide (a < b))) H) := by
  intro pins s σ H x y v u Q I rx ry h
  obtain ⟨a, e1, b, e2, q⟩ := h
  exact op_lt_str pins s σ H x y v u Q I rx ry ⟨tx a, tx b, e1, e2, by rw [tx_cps, tx_cps]; exact q⟩
theorem op_gt_T : OpR X (compareOp .Gt) (fun x y H Q => ∃ a, x = T a ∧ ∃ b, y = T b ∧ Q (.bl (decide (b < a))) H) := by
  intro pins s σ H x y v u Q I rx ry h
  obtain ⟨a, rfl, b, rfl, q⟩ := h
  obtain ⟨t, rfl⟩ := rx
  obtain ⟨t', rfl⟩ := ry
  exact PySem.P.gt_str (fin_bl I q (by rw [tx_cps, tx_cps]))
theorem op_eq_T : OpR X (compareOp .Eq) (fun x y H Q => ∃ a, x = T a ∧ ∃ b, y = T b ∧ Q (.bl (decide (a = b))) H) := by
  intro pins s σ H x y v u Q I rx ry h
  obtain ⟨a, rfl, b, rfl, q⟩ := h
  exact op_eq pins s σ H _ _ v u Q I rx ry ⟨rfl, by rw [T_dec]; exact q⟩
theorem op_ne_T : OpR X (compareOp .NotEq) (fun x y H Q => ∃ a, x = T a ∧ ∃ b, y = T b ∧ Q (.bl (!decide (a = b))) H) := by
  intro pins s σ H x y v u Q I rx ry h
  obtain ⟨a, rfl, b, rfl, q⟩ := h
  exact op_ne pins s σ H _ _ v u Q I rx ry ⟨rfl, by rw [T_dec]; exact q⟩
theorem op_eq_I : OpR X (compareOp .Eq) (fun x y H Q => ∃ a, x = .int a ∧ ∃ b, y = .int b ∧ Q (.bl (decide (a = b))) H) := by
  intro pins s σ H x y v u Q I rx ry h
  obtain ⟨a, rfl, b, rfl, q⟩ := h
  exact op_eq pins s σ H _ _ v u Q I rx ry ⟨rfl, by rw [dec_int, Bool.beq_eq_decide_eq]; exact q⟩
theorem op_ne_I : OpR X (compareOp .NotEq) (fun x y H Q => ∃ a, x = .int a ∧ ∃ b, y = .int b ∧ Q (.bl (!decide (a = b))) H) := by
  intro pins s σ H x y v u Q I rx ry h
  obtain ⟨a, rfl, b, rfl, q⟩ := h
  exact op_ne pins s σ H _ _ v u Q I rx ry ⟨rfl, by rw [dec_int, Bool.beq_eq_decide_eq]; exact q⟩
noncomputable def cutL (l : List Nat) (lo hi : Option Int) : List Nat := (l.drop (HT.sIx l.length 0 lo)).take (HT.sIx l.length l.length hi - HT.sIx l.length 0 lo)
theorem cutL_length_le (l : List Nat) (lo hi : Option Int) : (cutL l lo hi).length ≤ l.length := by
  unfold cutL
  rw [List.length_take, List.length_drop]
  (first | lia | omega)
theorem clip_sIx (v : Option Int) (n d : Nat) : (match v with | none => (d : Int) | some i => max 0 (min (if i < 0 then i + (n : Int) else i) (n : Int))) = ((HT.sIx n d v : Nat) : Int) := by
  cases v with
  | none => rfl
  | some i =>
    show max 0 (min (if i < 0 then i + (n : Int) else i) (n : Int)) = (((if i < 0 then (i + (n : Int)).toNat else min i.toNat n) : Nat) : Int)
    by_cases hi : i < 0
    · simp only [if_pos hi]; (first | lia | omega)
    · simp only [if_neg hi]; (first | lia | omega)
theorem indices_sIx (lo hi : Option Int) (n : Nat) : Builtin.Str.strSliceIndices lo hi 1 n = Builtin.Str.strSliceIndices (some ((HT.sIx n 0 lo : Nat) : Int)) (some ((HT.sIx n n hi : Nat) : Int)) 1 n := by
  have h1 := HT.sIx_le n 0 (Nat.zero_le _) lo
  have h2 := HT.sIx_le n n (Nat.le_refl _) hi
  have c1 := clip_sIx lo n 0
  have c2 := clip_sIx hi n n
  have d1 := clip_sIx (some ((HT.sIx n 0 lo : Nat) : Int)) n 0
  have d2 := clip_sIx (some ((HT.sIx n n hi : Nat) : Int)) n n
  rw [HT.sIx_nat, Nat.min_eq_left h1] at d1
  rw [HT.sIx_nat, Nat.min_eq_left h2] at d2
  unfold Builtin.Str.strSliceIndices
  simp only [show ((1 : Int) > 0) from by decide, if_true]
  have g : ∀ a b c d : Int, a = c → b = d → sliceRange a b 1 = sliceRange c d 1 := fun a b c d h1 h2 => by rw [h1, h2]
  exact g _ _ _ _ (c1.trans d1.symm) (c2.trans d2.symm)
theorem slice_tx (l : List Nat) (lo hi : Option Int) : Txt.slice (tx l) lo hi = tx (cutL l lo hi) := by
  have h1 := HT.sIx_le l.length 0 (Nat.zero_le _) lo
  have h2 := HT.sIx_le l.length l.length (Nat.le_refl _) hi
  unfold Txt.slice
  rw [tx_len, indices_sIx]
  by_cases hab : HT.sIx l.length 0 lo ≤ HT.sIx l.length l.length hi
  · have e := StrLaws.sliceText_nat (tx l) hab (by rw [tx_len]; exact h2)
    unfold StrLaws.sliceText at e
    rw [tx_len, tx_cps] at e
    exact e
  · have e0 : Builtin.Str.strSliceIndices (some ((HT.sIx l.length 0 lo : Nat) : Int)) (some ((HT.sIx l.length l.length hi : Nat) : Int)) 1 l.length = [] := by
      unfold Builtin.Str.strSliceIndices sliceRange
      have n1 : ¬ (((HT.sIx l.length 0 lo : Nat) : Int) < 0) := by (first | lia | omega)
      have n2 : ¬ (((HT.sIx l.length l.length hi : Nat) : Int) < 0) := by (first | lia | omega)
      simp only [show ((1 : Int) > 0) from by decide, if_true, if_neg n1, if_neg n2]
      have n3 : ¬ (max (0 : Int) (min ((HT.sIx l.length 0 lo : Nat) : Int) (l.length : Int)) < max (0 : Int) (min ((HT.sIx l.length l.length hi : Nat) : Int) (l.length : Int))) := by (first | lia | omega)
      simp [n3]
    have e1 : cutL l lo hi = [] := by
      unfold cutL
      rw [show HT.sIx l.length l.length hi - HT.sIx l.length 0 lo = 0 by (first | lia | omega), List.take_zero]
    rw [e0, e1]
    cases l with
    | nil => rfl
    | cons c r => rfl
theorem sl_T : SlR X (fun x lo hi H Q => ∃ a, x = T a ∧ a.length ≤ sizeLine ∧ Q (T (cutL a lo hi)) H) := by
  intro pins s σ H x v vl vu lo hi sl Q I rx hs pl pu h
  obtain ⟨a, rfl, hz, q⟩ := h
  obtain ⟨t, rfl⟩ := rx
  obtain ⟨l, hl1, hl2⟩ : ∃ l : Option (Int × Tok), partValue l = vl ∧ l.map (·.1) = lo := by
    cases pl with
    | none => exact ⟨none, rfl, rfl⟩
    | int i t => exact ⟨some (i, t), rfl, rfl⟩
  obtain ⟨u, hu1, hu2⟩ : ∃ u : Option (Int × Tok), partValue u = vu ∧ u.map (·.1) = hi := by
    cases pu with
    | none => exact ⟨none, rfl, rfl⟩
    | int i t => exact ⟨some (i, t), rfl, rfl⟩
  refine ⟨"str", _, F.slot_str_getitem.lookup, typeIs_str _ _ _, ?_⟩
  have hsl : s.heap.IsSlice sl l u none := by
    obtain ⟨o, ho, hc, hd⟩ := hs
    exact ⟨o, ho, hc, by rw [hl1, hu1]; exact hd⟩
  refine wpAny_getItem_str_slice hsl rfl ?_
  have key : (if ((1 : Int) == 1 && (Builtin.Str.strSliceIndices lo hi 1 (tx a).length).length == (tx a).length) = true then (tx a) else ⟨((Builtin.Str.strSliceIndices lo hi 1 (tx a).length).filterMap ((tx a).cps[·]?)).toArray⟩) = tx (cutL a lo hi) := slice_tx a lo hi
  unfold sliceMade slicePicked
  rw [hl2, hu2]
  refine post_val_or_str ⟨?_, fun t' k => ?_⟩
  · show (Txt.slice (tx a) lo hi).length ≤ sizeLine
    exact Nat.le_trans (Txt.slice_le _ _ _) (by rw [tx_len]; exact hz)
  · refine ⟨T (cutL a lo hi), H, I.tok _, ⟨t', ?_⟩, q⟩
    exact congrArg (fun z => Value.str z t') key

theorem rep_length (n : Nat) (l : List Nat) : (Wd.rep n l).length = n * l.length := Wd.rep_len n l
theorem foldl_cps (n : Nat) (c : Array Nat) : ∀ acc : Array Nat, (List.replicate n c).foldl (· ++ ·) acc = acc ++ (Wd.rep n c.toList).toArray := by
  induction n with
  | zero => intro acc; simp [Wd.rep]
  | succ n ih =>
    intro acc
    rw [List.replicate_succ, List.foldl_cons, ih]
    rw [Wd.rep_succ, Array.append_assoc]
    congr 1
    apply Array.ext'
    simp
theorem mul_tx (n : Nat) (l : List Nat) : Txt.mul (tx l) (n : Int) = tx (Wd.rep n l) := by
  unfold Txt.mul
  by_cases h1 : (n : Int) < 1
  · have e : n = 0 := by (first | lia | omega)
    subst e
    rw [if_pos h1]
    rfl
  · rw [if_neg h1]
    by_cases h2 : ((n : Int) == 1 || (tx l).length == 0) = true
    · rw [if_pos h2]
      rw [Bool.or_eq_true, beq_iff_eq, beq_iff_eq, tx_len] at h2
      rcases h2 with h2 | h2
      · have e : n = 1 := by (first | lia | omega)
        subst e
        rw [Wd.rep_one]
      · have e : l = [] := List.length_eq_zero_iff.mp h2
        subst e
        have : Wd.rep n [] = [] := List.length_eq_zero_iff.mp (by rw [rep_length]; simp)
        rw [this]
    · rw [if_neg h2, Int.toNat_natCast, foldl_cps]
      simp [tx]
theorem op_mul_T : OpR X (binaryOp .Mult) (fun x y H Q => ∃ a, x = T a ∧ ∃ n : Nat, y = .int n ∧ (n ≤ sizeLine ∧ n * a.length ≤ sizeLine) ∧ Q (T (Wd.rep n a)) H) := by
  intro pins s σ H x y v u Q I rx ry h
  obtain ⟨a, rfl, n, rfl, ⟨h1, h2⟩, q⟩ := h
  obtain ⟨t, rfl⟩ := rx
  obtain ⟨t', rfl⟩ := ry
  have hs : sizeLine = 16777216 := sizeLine_eq
  refine SB.mul ⟨?_, ?_, ?_⟩ fun t' k => ⟨T (Wd.rep n a), H, I.tok _, ⟨t', by rw [mul_tx]⟩, q⟩
  · have e1 : decide ((n : Int) < -(2 ^ 63 : Int)) = false := decide_eq_false (by (first | lia | omega))
    have e2 : decide ((n : Int) ≥ 2 ^ 63) = false := decide_eq_false (by (first | lia | omega))
    rw [e1, e2]
    rfl
  · intro hn _
    rw [tx_len]
    have h3 : n * a.length ≤ 16777216 := by (first | lia | omega)
    intro hc
    have h4 : ((n * a.length : Nat) : Int) ≤ 16777216 := by (first | lia | omega)
    have hn' : (0 : Int) < n := by (first | lia | omega)
    have h5 : ((2 ^ 63 - 1) / (n : Int)) * n ≤ 2 ^ 63 - 1 := Int.ediv_mul_le _ (by (first | lia | omega))
    have h6 : (2 ^ 63 - 1 : Int) < ((2 ^ 63 - 1) / (n : Int) + 1) * n := Int.lt_ediv_add_one_mul_self _ hn'
    have h7 : ((2 ^ 63 - 1) / (n : Int) + 1) * n ≤ (a.length : Int) * n := Int.mul_le_mul_of_nonneg_right (by (first | lia | omega)) (by (first | lia | omega))
    have h8 : ((n * a.length : Nat) : Int) = (a.length : Int) * n := by rw [Int.natCast_mul, Int.mul_comm]
    (first | lia | omega)
  · intro hn _
    rw [tx_len, Int.toNat_natCast, Nat.mul_comm]
    unfold Builtin.Str.tooLong
    exact decide_eq_false (by (first | lia | omega))

theorem strsAre_T : ∀ {ls : List (List Nat)} {us : List Value}, Vals (ls.map T) us → StrsAre us (ls.map tx)
  | [], us, r => by
    cases r
    exact .nil
  | l :: ls, us, r => by
    rw [List.map_cons] at r
    cases r with
    | cons r1 r2 =>
      obtain ⟨t, rfl⟩ := r1
      exact .cons _ _ (strsAre_T r2)
theorem glued_empty : ∀ (ls : List (List Nat)) (acc : Array Nat), (ls.map tx).foldl (fun acc p => acc ++ (tx []).cps ++ p.cps) acc = acc ++ ls.flatten.toArray
  | [], acc => by simp
  | l :: ls, acc => by
    rw [List.map_cons, List.foldl_cons, glued_empty ls]
    simp [tx]
theorem join_tx (ls : List (List Nat)) : Txt.join (tx []) (ls.map tx) = tx ls.flatten := by
  unfold Txt.join Builtin.Str.glued
  cases ls with
  | nil => rfl
  | cons l ls =>
    rw [List.map_cons, List.drop_succ_cons, List.drop_zero, List.headD_cons, glued_empty]
    simp [tx]
theorem sum_len_tx (ls : List (List Nat)) : ((ls.map tx).map (·.length)).sum = ls.flatten.length := by
  induction ls with
  | nil => rfl
  | cons l ls ih => rw [List.map_cons, List.map_cons, List.sum_cons, ih, List.flatten_cons, List.length_append, tx_len]
end
end L2
namespace L2
theorem cutL_from {w : List Nat} {k : Nat} (h : k ≤ w.length) : cutL w (some (k : Int)) none = w.drop k := by
  unfold cutL
  rw [HT.sIx_nat, HT.sIx_none, Nat.min_eq_left h]
  exact List.take_of_length_le (by rw [List.length_drop]; (first | lia | omega))
theorem cutL_to {w : List Nat} {k : Nat} (h : k ≤ w.length) : cutL w none (some (k : Int)) = w.take k := by
  unfold cutL
  rw [HT.sIx_nat, HT.sIx_none, Nat.min_eq_left h, List.drop_zero, Nat.sub_zero]
theorem cutL_mid {w : List Nat} {a b : Nat} (hb : b ≤ w.length) (hab : a ≤ b) : cutL w (some (a : Int)) (some (b : Int)) = (w.drop a).take (b - a) := by
  unfold cutL
  rw [HT.sIx_nat, HT.sIx_nat, Nat.min_eq_left hb, Nat.min_eq_left (show a ≤ w.length by (first | lia | omega))]
end L2

set_option Elab.async false
set_option linter.all false
set_option maxRecDepth 100000
set_option maxHeartbeats 4000000

namespace L2
open PySem PySem.Spec PyProof.Rows

set_option genInjectivity false in
structure CompSc (N N' : List Str) (sc scope : Scope) (x : Str) : Prop where
  kind : scope.kind = .function
  cell : ∀ y ∈ scope.names, y.2 ≠ .cell
  names : ∀ y ∈ scope.names, y.2 = .local → scope.names.lookup y.1 = some .local
  var : scope.names.lookup x = some .local
  ok : ∀ y ∈ scope.names, y.2 = .free → sc.names.lookup y.1 = some .cell ∨ sc.names.lookup y.1 = some .free
  hd : N'[0]? = some x
  len : N'.length = N.length + 1
  sub : ∀ i, i < N.length → N'[i + 1]? = N[i]? ∨ N'[i + 1]? = some ("" : Str)
  noe : scope.names.lookup ("" : Str) = none
  nol : ∀ y ∈ N'.tail, scope.names.lookup y ≠ some .local
  nd : N'.Nodup

noncomputable def closOf (cells : List (Str × Addr)) : List (Str × NameKind) → List (Str × Addr) → List (Str × Addr)
  | [], acc => acc
  | (n, k) :: r, acc => closOf cells r (if k == .free then (n, (cells.lookup n).getD 0) :: acc else acc)
theorem clos_sound {cells : List (Str × Addr)} {y : Str} {c : Addr} : ∀ (names : List (Str × NameKind)) (acc : List (Str × Addr)), (∀ z ∈ names, z.2 = .free → ∃ c, cells.lookup z.1 = some c) →
    (acc.lookup y = some c → cells.lookup y = some c) → (closOf cells names acc).lookup y = some c → cells.lookup y = some c
  | [], acc, _, ha, h => ha h
  | (n, k) :: r, acc, hz, ha, h => by
    unfold closOf at h
    refine clos_sound r _ (fun z hm => hz z (List.mem_cons_of_mem _ hm)) (fun q => ?_) h
    split at q
    · rename_i hk
      obtain ⟨c', e⟩ := hz (n, k) List.mem_cons_self (by simpa using hk)
      rw [List.lookup_cons] at q
      split at q
      · rename_i he
        have : y = n := by simpa using he
        subst this
        rw [e] at q
        rw [e]
        exact q
      · exact ha q
    · exact ha q
theorem clos_acc {cells : List (Str × Addr)} {y : Str} : ∀ (names : List (Str × NameKind)) (acc : List (Str × Addr)), (∃ c, acc.lookup y = some c) → ∃ c, (closOf cells names acc).lookup y = some c
  | [], acc, h => h
  | (n, k) :: r, acc, ⟨c, h⟩ => by
    unfold closOf
    refine clos_acc r _ ?_
    split
    · rw [List.lookup_cons]
      split
      · exact ⟨_, rfl⟩
      · exact ⟨c, h⟩
    · exact ⟨c, h⟩
theorem clos_has {cells : List (Str × Addr)} {y : Str} : ∀ (names : List (Str × NameKind)) (acc : List (Str × Addr)), (y, NameKind.free) ∈ names → ∃ c, (closOf cells names acc).lookup y = some c
  | (n, k) :: r, acc, h => by
    unfold closOf
    rcases List.mem_cons.mp h with e | h
    · cases e
      refine clos_acc r _ ⟨(cells.lookup y).getD 0, ?_⟩
      simp
    · exact clos_has r _ h
theorem clos_eq {scope : Scope} {env : Env} (h : ∀ z ∈ scope.names, z.2 = .free → ∃ c, env.cells.lookup z.1 = some c) : closureFor scope env = pure (closOf env.cells scope.names []) := by
  have gen : ∀ (names : List (Str × NameKind)) (acc : List (Str × Addr)), (∀ z ∈ names, z.2 = .free → ∃ c, env.cells.lookup z.1 = some c) →
      (forIn names acc fun (x : Str × NameKind) (r : List (Str × Addr)) => (if (x.2 == NameKind.free) = true then (do let a ← cellOf env x.1; pure (ForInStep.yield ((x.1, a) :: r))) else pure (ForInStep.yield r) : Sem (ForInStep (List (Str × Addr))))) = (pure (closOf env.cells names acc) : Sem (List (Str × Addr))) := by
    intro names
    induction names with
    | nil => intro acc _; rfl
    | cons z r ih =>
      intro acc hz
      obtain ⟨n, k⟩ := z
      rw [List.forIn_cons]
      unfold closOf
      by_cases hk : (k == NameKind.free) = true
      · obtain ⟨c, e⟩ := hz (n, k) List.mem_cons_self (by simpa using hk)
        have e' : env.cells.lookup n = some c := e
        simp only [hk, if_true, cellOf, e', pure_bind, Option.getD_some]
        exact ih _ fun z hm => hz z (List.mem_cons_of_mem _ hm)
      · simp only [hk, Bool.false_eq_true, if_false, pure_bind]
        exact ih _ fun z hm => hz z (List.mem_cons_of_mem _ hm)
  have g := gen scope.names [] h
  unfold closureFor
  refine Eq.trans ?_ (congrArg (fun (m : Sem (List (Str × Addr))) => m >>= fun cs => pure cs) g)
  rfl
theorem relabel_lookup (scope : Scope) (env : Env) (y : Str) : (relabel scope env).names.lookup y = (scope.names.lookup y).map fun k => if (k == NameKind.free && env.scope.kind == .function && env.kindOf y == some .cell) = true then NameKind.cell else k := by
  unfold relabel
  show List.lookup y (scope.names.map fun (n, k) => if (k == NameKind.free && env.scope.kind == .function && env.kindOf n == some .cell) = true then (n, NameKind.cell) else (n, k)) = _
  induction scope.names with
  | nil => rfl
  | cons z r ih =>
    obtain ⟨n, k⟩ := z
    rw [List.map_cons]
    by_cases hy : (y == n) = true
    · have e : y = n := by simpa using hy
      subst e
      by_cases hc : (k == NameKind.free && env.scope.kind == .function && env.kindOf y == some .cell) = true
      · simp only [hc, if_true, List.lookup_cons, beq_self_eq_true, Option.map_some]
      · simp only [hc, if_false, List.lookup_cons, beq_self_eq_true, Option.map_some, Bool.false_eq_true]
    · have hy' : (y == n) = false := by simpa using hy
      by_cases hc : (k == NameKind.free && env.scope.kind == .function && env.kindOf n == some .cell) = true
      · simp only [hc, if_true, List.lookup_cons, hy']
        exact ih
      · simp only [hc, if_false, List.lookup_cons, hy', Bool.false_eq_true]
        exact ih
theorem lookup_mem {κ : Type} : ∀ {l : List (Str × κ)} {y : Str} {k : κ}, l.lookup y = some k → (y, k) ∈ l := fun h => PySem.mem_of_lookup h

noncomputable abbrev cxComp (X : Cx) (N' : List Str) (scope : Scope) (cl : List (Str × Addr)) (C : Addr) (s : Shared) (H : Hp) (fp : List Addr) : Cx :=
  { X with env := compEnvC scope cl C X.env, N := N', s₀ := s, H₀ := H, outer := X.stack, stack := X.stack, ex := fp, fn := fun _ => false, xe := fun _ _ => False }

noncomputable abbrev tstF (cds : List Expr) (env : Env) : Sem Bool := forIn cds true fun c r => if r = true then do let ok ← isTrue c env (eval c env); pure (ForInStep.yield ok) else pure (ForInStep.yield r)
noncomputable def PTL (X : Cx) (cds : List Expr) (t : TT) : Prop :=
  ∀ (pins : List (Addr × Obj)) (s : Shared) (σ : St) (H : Hp) (Q : Bool → Hp → Prop), Inv X pins σ H s → t σ H Q → wpAny (model X.prog X.w) X.A (tstF cds X.env) (TP X pins σ Q) X.xe s
theorem ptl_nil {X : Cx} : PTL X [] (fun _ H k => k true H) := fun pins s σ H Q I q => wpAny_tests_nil ⟨H, I, q⟩
theorem ptl_one {X : Cx} {cd : Expr} {tc : TT} (h : PT X cd tc) : PTL X [cd] tc := fun pins s σ H Q I q => wpAny_tests_one (h pins s σ H Q I q)
theorem codeAny_compLoop_ts {prog : Program} {w : World} {A : Around} {R : Result → Shared → Prop} {s : Shared} {elt target iter : Expr} {cds : List Expr} {scope : Scope} {pos : Pos} {it acc : Value} {env : Env} (I : Nat → Shared → Prop)
    (turn : ∀ n s, I n s → wpAny (model prog w) A (pyNext it) (fun r s₁ => match r with
      | none => R (.ok .next) s₁
      | some v => wpAny (model prog w) A (letOwnedTupleGo target it v) (fun _ s₁' => wpAny (model prog w) A (assign target env v) (fun _ s₂ => wpAny (model prog w) A (tstF cds env) (fun ok s₂' =>
          if ok = true then wpAny (model prog w) A (eval elt env) (fun x s₃ =>
            wpAny (model prog w) A (call (.builtin "list.append") [acc, x]) (fun _ s₄ => ∃ m, m < n ∧ I m s₄) (fun _ _ => False) s₃) (fun _ _ => False) s₂'
          else ∃ m, m < n ∧ I m s₂') (fun _ _ => False) s₂) (fun _ _ => False) s₁') (fun _ _ => False) s₁) (fun _ _ => False) s)
    (n : Nat) (h : I n s) :
    codeAny (model prog w) A (.compLoop (.ListComp elt [⟨target, iter, cds, 0⟩] scope pos) 0 it acc env) R s := by
  refine codeAny_loop rfl I (fun n s hI => ?_) n h
  show wpAny _ A ((compTurn (.ListComp elt [⟨target, iter, cds, 0⟩] scope pos) 0 it acc env).onRaise (fun x => do noteFrame x env; theTreesLotGoes x)) _ _ s
  refine wpAny_noted ?_
  rw [compTurn_list]
  refine wpAny_bind (wpAny_standAt (wpAny_bind (wpAny_mono (turn n s hI) (fun r s₁ h₁ => ?_) fun _ _ h' => h'.elim)))
  cases r with
  | none => exact wpAny_pure h₁
  | some v =>
    refine wpAny_bind (wpAny_mono h₁ (fun _ s₀ h₀ => ?_) fun _ _ h' => h'.elim)
    refine wpAny_bind (wpAny_mono h₀ (fun _ s₂ h₂ => ?_) fun _ _ h' => h'.elim)
    refine wpAny_bind ((wpAny_mono h₂ (fun ok s₃ h₃ => ?_) fun _ _ h' => h'.elim))
    cases ok with
    | false => exact wpAny_pure ⟨rfl, by simpa using h₃⟩
    | true =>
      have h₃' := h₃
      simp only [if_true] at h₃'
      exact wpAny_bind (wpAny_bind (wpAny_mono h₃' (fun x s₄ h₄ => wpAny_bind (wpAny_mono h₄ (fun _ s₅ h₅ => wpAny_pure (wpAny_pure ⟨rfl, h₅⟩)) fun _ _ h' => h'.elim)) fun _ _ h' => h'.elim))
noncomputable def compAt (te : TE) (σ : St) (Q : VK) (J : It) (H1 : Hp) : Prop := ∀ D, H1 D = none → ∃ W : Nat → Nat → List V → Hp → Prop, (∃ m, W 0 m [] (upd H1 D (.lst []))) ∧ ∀ i m ys H2, W i m ys H2 →
  (J.stop i H2 ∧ Q (.ref D) H2) ∨ (J.go i H2 ∧ ys.length < sizeLine ∧ ∃ N : V → Hp → Prop, (∀ v H', N v H' → H' D = some (.lst ys) ∧ ∃ m', m' < m ∧ W (i + 1) m' (ys ++ [v]) (upd H' D (.lst (ys ++ [v])))) ∧
    ∀ y H', J.yld i H2 y H' → te (some y :: σ) H' N)
noncomputable def tComp (wi : TI) (te : TE) : TE := fun σ H Q => wi σ H (compAt te σ Q)

noncomputable def compAtF (tc : TT) (te : TE) (σ : St) (Q : VK) (J : It) (H1 : Hp) : Prop := ∀ D, H1 D = none → ∃ W : Nat → Nat → List V → Hp → Prop, (∃ m, W 0 m [] (upd H1 D (.lst []))) ∧ ∀ i m ys H2, W i m ys H2 →
  (J.stop i H2 ∧ Q (.ref D) H2) ∨ (J.go i H2 ∧ ys.length < sizeLine ∧ ∃ N : V → Hp → Prop, (∀ v H', N v H' → H' D = some (.lst ys) ∧ ∃ m', m' < m ∧ W (i + 1) m' (ys ++ [v]) (upd H' D (.lst (ys ++ [v])))) ∧
    ∃ Nn : Hp → Prop, (∀ H', Nn H' → ∃ m', m' < m ∧ W (i + 1) m' ys H') ∧
    ∀ y H', J.yld i H2 y H' → tc (some y :: σ) H' fun b H'' => if b = true then te (some y :: σ) H'' N else Nn H'')
noncomputable def tCompF (wi : TI) (tc : TT) (te : TE) : TE := fun σ H Q => wi σ H (compAtF tc te σ Q)

section
variable {X : Cx} {N' : List Str} {scope : Scope} {x : Str} {px : Pos} {elt iter : Expr} {cds : List Expr} {pos : Pos} {te : TE} {tc : TT} {wi : TI}

theorem compx_core (S : CompSc X.N N' X.env.scope scope x) (hc : X.calm = true) (ht : ∀ cl C s H fp, PTL (cxComp X N' scope cl C s H fp) cds tc) (he : ∀ cl C s H fp, PE (cxComp X N' scope cl C s H fp) elt te)
    {pins : List (Addr × Obj)} {σ : St} {H : Hp} {s : Shared} {Q : VK} {E : Value → Shared → Prop} {RR : Value → Addr → Result → Shared → Prop} {it : Addr} {fp : List Addr} {tn : Nat → Heap → Prop} {J : It}
    (I : Inv X pins σ H s) (T : Turn X.prog X.w X.K (.Name x px) J fp it tn) (st : tn 0 s.heap) (f2 : ∀ b ∈ fp, FpOk X pins H b)
    (hw : compAtF tc te σ Q J H)
    (hRR : ∀ D C s' H', Inv X pins σ H' s' → (∃ m, s'.heap.Ns C m) → C ≠ X.env.locals → (∀ y c, X.env.cells.lookup y = some c → c ≠ C) → H' C = none → X.s₀.heap.objs.size ≤ C → (∀ p ∈ X.pn ++ pins, p.1 ≠ C) → Q (.ref D) H' → RR (.ref D) C (.ok .next) s') :
    ∃ cl, closureFor scope X.env = pure cl ∧ wpAny (model X.prog X.w) X.A (newList []) (fun acc s₃ => wpAny (model X.prog X.w) X.A (newFunctionEnv scope X.env.globals cl [] X.env.qual none .none (some X.env)) (fun cenv s₄ =>
      codeAny (model X.prog X.w) X.A (.compStart (.ListComp elt [⟨.Name x px, iter, cds, 0⟩] scope pos) 0 (.ref it) acc { cenv with scope := relabel scope X.env }) (RR acc cenv.locals) s₄) E s₃) E s := by
  have hfree : ∀ z ∈ scope.names, z.2 = .free → ∃ c, X.env.cells.lookup z.1 = some c := fun z hz hk => by
    rcases S.ok z hz hk with q | q
    · exact I.ok.has z.1 (.inl q)
    · exact I.ok.has z.1 (.inr q)
  refine ⟨_, clos_eq hfree, ?_⟩
  have clS : ∀ y c, (closOf X.env.cells scope.names []).lookup y = some c → X.env.cells.lookup y = some c := fun y c => clos_sound scope.names [] hfree fun q => by cases q
  generalize hcl : closOf X.env.cells scope.names [] = cl at clS
  have clH : ∀ y, scope.names.lookup y = some .free → ∃ c, cl.lookup y = some c := fun y hy => by
    rw [← hcl]
    exact clos_has scope.names [] (lookup_mem hy)
  refine wpAny_newObj_type (wpAny_newFunctionEnv S.cell (by intro y hy; simp at hy) (fun h₁ hns₁ hsb₁ => ?_) S.kind)
  have I3 : Inv X pins σ (upd H s.heap.objs.size (.lst [])) { s with heap := s.heap.push { cls := .type "list", data := .seq ([] : List Value).toArray } } := I.lnew (t' := s.toks) .nil (Nat.zero_le _)
  obtain ⟨W, ⟨m0, w0⟩, turn⟩ := hw s.heap.objs.size I.fresh
  dsimp only at hns₁ hsb₁ ⊢
  generalize hs3 : ({ s with heap := s.heap.push { cls := .type "list", data := .seq ([] : List Value).toArray } } : Shared) = s3 at I3
  have hh3 : s3.heap = s.heap.push { cls := .type "list", data := .seq ([] : List Value).toArray } := by rw [← hs3]
  have hsz3 : s3.heap.objs.size = s.heap.objs.size + 1 := by rw [hh3, Heap.size_push]
  rw [← hh3] at hns₁ hsb₁ ⊢
  have old : ∀ b o, s3.heap.get? b = some o → h₁.get? b = some o := fun b o e => hsb₁.extBut b o (by have := Heap.lt_size e; exact Nat.ne_of_lt this) (Heap.get?_push_of_some _ e)
  have old0 : ∀ b o, s.heap.get? b = some o → h₁.get? b = some o := fun b o e => old b o (by rw [hh3]; exact Heap.get?_push_of_some _ e)
  have CneL : s3.heap.objs.size ≠ X.env.locals := Nat.ne_of_gt I3.lt
  have CneC : ∀ y c, X.env.cells.lookup y = some c → c ≠ s3.heap.objs.size := fun y c e z => by
    obtain ⟨v, q⟩ := I3.cell y c e
    have := q.lt
    rw [z] at this
    exact absurd this (Nat.lt_irrefl _)
  have CneP : ∀ p ∈ X.pn ++ pins, p.1 ≠ s3.heap.objs.size := fun p hp z => by
    have := Heap.lt_size (I3.pin p hp).1
    rw [z] at this
    exact absurd this (Nat.lt_irrefl _)
  have CfreeH : ∀ b o, s3.heap.get? b = some o → b < s3.heap.objs.size := fun b o e => by have := Heap.lt_size e; exact this
  have fpLt : ∀ b ∈ fp, b < s3.heap.objs.size := fun b hb => by
    obtain ⟨o, e, _⟩ := T.obj 0 s.heap st b hb
    rw [hsz3]
    exact Nat.lt_succ_of_lt (Heap.lt_size e)
  have fpD : ∀ b ∈ fp, b ≠ s.heap.objs.size := fun b hb => by
    obtain ⟨o, e, _⟩ := T.obj 0 s.heap st b hb
    exact Nat.ne_of_lt (Heap.lt_size e)
  -- the block's context
  have ok' : (cxComp X N' scope cl s3.heap.objs.size s3 (upd H s.heap.objs.size (.lst [])) fp).Ok := by
    refine ⟨I3.ok.mod, ?_, I3.ok.glob, I3.ok.blt, Nat.le_refl _, fun y z c h1 h2 => I3.ok.inj y z c (clS y c h1) (clS z c h2), fun y hy => ?_, fun y c hf => (by cases hf), I3.ok.hd, I3.ok.frames, .inl rfl, fun b hb => ⟨Nat.ne_of_lt (fpLt b hb), fun y c e => (f2 b hb).2.2.2.2.1 y c (clS y c e)⟩,
      fun b o e => I3.bs b o e, Nat.le_trans I3.ok.bsz I3.sz, fun b o e hb => ?_, fun b hb z => ?_, I3.stack, I3.stkFree⟩
    · show (relabel scope X.env).kind = .function
      exact S.kind
    · have hy' : (relabel scope X.env).names.lookup y = some .cell ∨ (relabel scope X.env).names.lookup y = some .free := hy
      rw [relabel_lookup] at hy'
      cases q : scope.names.lookup y with
      | none => rw [q] at hy'; rcases hy' with z | z <;> cases z
      | some k =>
        have hm := lookup_mem q
        cases k with
        | free => exact clH y q
        | cell => exact absurd rfl (S.cell _ hm)
        | «local» => rw [q] at hy'; rcases hy' with z | z <;> simp at z
        | globalExplicit => rw [q] at hy'; rcases hy' with z | z <;> simp at z
        | globalImplicit => rw [q] at hy'; rcases hy' with z | z <;> simp at z
    · rcases (f2 b hb).2.2.2.1 with z | z
      · exact I.ok.noex b o e z
      · exact absurd (Nat.lt_of_lt_of_le (Heap.lt_size e) (Nat.le_trans I.ok.bsz z)) (Nat.lt_irrefl _)
    · rcases List.mem_cons.mp (I3.stkSub b z) with q | q
      · exact (f2 b hb).2.1 q
      · exact (f2 b hb).2.2.1 q
  have fpOk' : ∀ {H' : Hp}, (∀ b ∈ fp, H' b = none) → ∀ b ∈ fp, FpOk (cxComp X N' scope cl s3.heap.objs.size s3 (upd H s.heap.objs.size (.lst [])) fp) pins H' b := fun hn b hb =>
    ⟨hn b hb, Nat.ne_of_lt (fpLt b hb), fun z => by
      rcases List.mem_cons.mp (I3.stkSub b z) with q | q
      · exact (f2 b hb).2.1 q
      · exact (f2 b hb).2.2.1 q, .inl hb, fun y c e => (f2 b hb).2.2.2.2.1 y c (clS y c e), (f2 b hb).2.2.2.2.2⟩
  have I4 : Inv (cxComp X N' scope cl s3.heap.objs.size s3 (upd H s.heap.objs.size (.lst [])) fp) pins (none :: σ) (upd H s.heap.objs.size (.lst [])) { s3 with heap := h₁, toks := s3.toks + ([] : List (Str × Value)).length } := by
    refine ⟨ok', rfl, I3.bare, Un.kept old, ⟨_, hns₁, fun i y v e1 e2 vis => ?_⟩, fun y c e => ?_, ?_, fun y c e => I3.freeC y c (clS y c e), fun p hp => ?_, I3.hok.kept old, ?_⟩
    · cases i with
      | zero => cases e2
      | succ i =>
        have e2' : σ[i]? = some (some v) := by simpa using e2
        have hi : i < X.N.length := by rw [← I3.len]; exact (List.getElem?_eq_some_iff.mp e2').1
        have vis' : (relabel scope X.env).names.lookup y = some .local ∨ (relabel scope X.env).names.lookup y = some .cell ∨ (relabel scope X.env).names.lookup y = some .free := vis
        have e1' : N'[i + 1]? = some y := e1
        rcases S.sub i hi with q | q
        · rw [e1'] at q
          have hy : X.N[i]? = some y := q.symm
          have hmem : y ∈ N'.tail := by
            rw [List.mem_iff_getElem?]
            exact ⟨i, by rw [List.getElem?_tail]; exact e1'⟩
          have hfr : scope.names.lookup y = some .free := by
            rw [relabel_lookup] at vis'
            cases q2 : scope.names.lookup y with
            | none => rw [q2] at vis'; rcases vis' with z | z | z <;> cases z
            | some k =>
              cases k with
              | free => rfl
              | cell => exact absurd rfl (S.cell _ (lookup_mem q2))
              | «local» => exact absurd q2 (S.nol y hmem)
              | globalExplicit => rw [q2] at vis'; rcases vis' with z | z | z <;> simp at z
              | globalImplicit => rw [q2] at vis'; rcases vis' with z | z | z <;> simp at z
          have hok := S.ok (y, .free) (lookup_mem hfr) rfl
          obtain ⟨m, hn, hl⟩ := I3.loc
          have visX : Vis X.env.scope y := by
            rcases hok with z | z
            · exact .inr (.inl z)
            · exact .inr (.inr z)
          obtain ⟨u, r, l⟩ := hl i y v hy e2' visX
          refine ⟨u, r, .inr ⟨?_, ?_⟩⟩
          · show (relabel scope X.env).names.lookup y = some .cell ∨ (relabel scope X.env).names.lookup y = some .free
            rw [relabel_lookup, hfr, Option.map_some]
            by_cases hcnd : (NameKind.free == NameKind.free && X.env.scope.kind == .function && X.env.kindOf y == some .cell) = true
            · left
              rw [if_pos hcnd]
            · right
              rw [if_neg hcnd]
          · rcases l with ⟨k, _⟩ | ⟨k, c, e, z⟩
            · have k' : X.env.scope.names.lookup y = some .local := k
              have hok' : X.env.scope.names.lookup y = some .cell ∨ X.env.scope.names.lookup y = some .free := hok
              rw [k'] at hok'
              rcases hok' with z | z <;> cases z
            · obtain ⟨c', e'⟩ := clH y hfr
              have e3 := clS y c' e'
              rw [e] at e3
              cases e3
              obtain ⟨o, ho, hd⟩ := z
              exact ⟨c, e', o, old c o ho, hd⟩
        · rw [e1'] at q
          cases q
          rw [relabel_lookup, S.noe] at vis'
          rcases vis' with z | z | z <;> cases z
    · obtain ⟨v, o, ho, hd⟩ := I3.cell y c (clS y c e)
      exact ⟨v, o, old c o ho, hd⟩
    · show upd H s.heap.objs.size (.lst []) s3.heap.objs.size = none
      exact I3.hok.fresh (Nat.le_refl _)
    · obtain ⟨e, n, ne, nf, d⟩ := I3.pin p hp
      refine ⟨old _ _ e, n, CneP p hp, fun z => ?_, d⟩
      rcases List.mem_cons.mp (I3.stkSub p.1 z) with q | q
      · exact ne q
      · exact nf q
    · show (none :: σ).length = N'.length
      rw [S.len, List.length_cons, I3.len]
  have st4 : tn 0 h₁ := T.keep 0 s.heap h₁ st fun b _ o e => old0 b o e
  -- the loop
  have loop : ∀ s₄ : Shared, s₄ = { s3 with heap := h₁, toks := s3.toks + ([] : List (Str × Value)).length } →
      codeAny (model X.prog X.w) X.A (.compLoop (.ListComp elt [⟨.Name x px, iter, cds, 0⟩] scope pos) 0 (.ref it) (.ref s.heap.objs.size) (compEnvC scope cl s3.heap.objs.size X.env)) (RR (.ref s.heap.objs.size) s3.heap.objs.size) s₄ := by
    rintro s₄ rfl
    refine codeAny_compLoop_ts (fun n s' => ∃ i v0 ys H', Inv (cxComp X N' scope cl s3.heap.objs.size s3 (upd H s.heap.objs.size (.lst [])) fp) pins (v0 :: σ) H' s' ∧ tn i s'.heap ∧ (∀ b ∈ fp, H' b = none) ∧ W i n ys H') ?_ m0
      ⟨0, none, [], _, I4, st4, fun b hb => by rw [upd_ne (fpD b hb)]; exact (f2 b hb).1, w0⟩
    rintro n s5 ⟨i, v0, ys, H5, I5, st5, fr5, w5⟩
    rcases turn i n ys H5 w5 with ⟨stop, qn⟩ | ⟨go, hz, N, hN, Nn, hNn, step⟩
    · refine thn (T.done (cxComp X N' scope cl s3.heap.objs.size s3 (upd H s.heap.objs.size (.lst [])) fp) rfl rfl rfl hc i pins s5 (v0 :: σ) H5 (fun _ _ => False) I5 (fpOk' fr5) st5 stop) fun r s6 ⟨hr, I6⟩ => ?_
      subst hr
      have hch : ∀ b ∈ fp, (b ∈ X.ex ∨ X.s₀.heap.objs.size ≤ b) ∧ b ≠ X.env.locals ∧ (∀ x c, X.env.cells.lookup x = some c → c ≠ b) ∧ ∀ p ∈ X.pn ++ pins, p.1 ≠ b := fun b hb =>
        ⟨(f2 b hb).2.2.2.1, (f2 b hb).2.1, (f2 b hb).2.2.2.2.1, (f2 b hb).2.2.2.2.2⟩
      have I7 : Inv X pins σ H5 s6 := I3.call' (ch := fp) I6.os I6.base I6.hok I6.bare hch
      obtain ⟨m, hm, _⟩ := I6.loc
      exact hRR s.heap.objs.size s3.heap.objs.size s6 H5 I7 ⟨m, hm⟩ CneL CneC I6.free (Nat.le_trans I3.sz (Nat.le_refl _)) CneP qn
    · refine thn (T.item (cxComp X N' scope cl s3.heap.objs.size s3 (upd H s.heap.objs.size (.lst [])) fp) rfl rfl rfl hc i pins s5 (v0 :: σ) H5 (fun _ _ => False) I5 (fpOk' fr5) st5 go) fun r s6 ⟨u, hr, h6⟩ => ?_
      subst hr
      refine thn h6 fun _ s7 ⟨y, H7, I7, r7, y7, st7, fr7⟩ => ?_
      have I7' := I7.pinned (fpOk' fr7) (T.obj _ _ st7)
      refine wpAny_assign_Name (store_ok (i := 0) (v := y) I7' S.nd S.hd (.inl (lookup_relabel_local S.var)) r7 (fun s8 I8 => ?_) (.inr (lookup_relabel_local S.var)))
      have I8' : Inv (cxComp X N' scope cl s3.heap.objs.size s3 (upd H s.heap.objs.size (.lst [])) fp) (pins ++ pinsAt fp s7.heap) (some y :: σ) H7 s8 := I8
      refine thn (ht cl s3.heap.objs.size s3 (upd H s.heap.objs.size (.lst [])) fp _ s8 (some y :: σ) H7 (fun b H'' => if b = true then te (some y :: σ) H'' N else Nn H'') I8' (step y H7 y7)) fun okb s8 ⟨H8, I8, q8⟩ => ?_
      cases okb with
      | false =>
        have q8' : Nn H8 := by simpa using q8
        obtain ⟨m', hm, w9⟩ := hNn H8 q8'
        refine ⟨m', hm, i + 1, some y, ys, _, I8.unpinned, T.keep _ _ _ st7 fun b hb o e => (I8.pin (b, o) (List.mem_append_right _ (List.mem_append_right _ (mem_pinsAt hb e)))).1, fun b hb => ?_, w9⟩
        obtain ⟨o, e, d⟩ := T.obj _ _ st7 b hb
        exact (I8.pin (b, o) (List.mem_append_right _ (List.mem_append_right _ (mem_pinsAt hb e)))).2.1
      | true =>
        refine thn (he cl s3.heap.objs.size s3 (upd H s.heap.objs.size (.lst [])) fp _ s8 (some y :: σ) H8 N I8 (by simpa using q8)) fun w s9 ⟨v, H9, I9, r9, q9⟩ => ?_
        obtain ⟨hD9, m', hm, w9⟩ := hN v H9 q9
        refine thn (mt_append _ s9 (some y :: σ) H9 (.ref s.heap.objs.size) [v] (.ref s.heap.objs.size) [w] (fun z H10 => z = .non ∧ H10 = upd H9 s.heap.objs.size (.lst (ys ++ [v]))) I9 rfl (.cons r9 .nil) ⟨s.heap.objs.size, ys, v, rfl, rfl, hD9, hz, rfl, rfl⟩) fun _ s10 ⟨z, H10, I10, _, ez, e10⟩ => ?_
        subst e10
        refine ⟨m', hm, i + 1, some y, ys ++ [v], _, I10.unpinned, T.keep _ _ _ st7 fun b hb o e => (I10.pin (b, o) (List.mem_append_right _ (List.mem_append_right _ (mem_pinsAt hb e)))).1, fun b hb => ?_, w9⟩
        obtain ⟨o, e, d⟩ := T.obj _ _ st7 b hb
        exact (I10.pin (b, o) (List.mem_append_right _ (List.mem_append_right _ (mem_pinsAt hb e)))).2.1
  exact codeAny_compStart_list (loop _ (by rw [← hs3])) (T.self X.A 0 _ _ _ st4 (loop _ (by rw [← hs3])))
theorem compAt.toF {te : TE} {σ : St} {Q : VK} {J : It} {H : Hp} (hw : compAt te σ Q J H) : compAtF (fun _ H k => k true H) te σ Q J H := fun D hD => by
  obtain ⟨W, h0, hW⟩ := hw D hD
  refine ⟨W, h0, fun i m ys H2 hw2 => ?_⟩
  rcases hW i m ys H2 hw2 with g | ⟨g1, g2, N, g3, g4⟩
  · exact .inl g
  · exact .inr ⟨g1, g2, N, g3, fun _ => False, fun _ z => z.elim, fun y H' hy => iteT (g4 y H' hy)⟩
theorem pe_compx {at' : St → VK → It → Hp → Prop} (S : CompSc X.N N' X.env.scope scope x) (hc : X.calm = true) (hi : PI X (.Name x px) iter wi) (ht : ∀ cl C s H fp, PTL (cxComp X N' scope cl C s H fp) cds tc) (he : ∀ cl C s H fp, PE (cxComp X N' scope cl C s H fp) elt te) (cv : ∀ σ Q J H, at' σ Q J H → compAtF tc te σ Q J H)
    (hs : ∀ x, foldedSetIterable iter X.env x = pure x := by intro _; rfl) : PE X (.ListComp elt [⟨.Name x px, iter, cds, 0⟩] scope pos) (fun σ H Q => wi σ H (at' σ Q)) := by
  intro pins s σ H Q I h
  rw [eval_ListComp]
  have hfree : ∀ z ∈ scope.names, z.2 = .free → ∃ c, X.env.cells.lookup z.1 = some c := fun z hz hk => by
    rcases S.ok z hz hk with q | q
    · exact I.ok.has z.1 (.inl q)
    · exact I.ok.has z.1 (.inr q)
  refine wpAny_comprehension_free (use := none) rfl hs (clos_eq hfree) S.kind S.names (thn (hi pins s σ H _ I h) fun xv s1 h1 => thn h1 fun itv s2 h2 => ?_)
  obtain ⟨it, fp, tn, J, H2, e, I2, T, st2, f2, hw⟩ := h2
  subst e
  obtain ⟨cl, hcl, hrun⟩ := compx_core (tc := tc) (cds := cds) (elt := elt) (iter := iter) (pos := pos) (px := px) (E := X.xe) (RR := fun acc C => compPost (model X.prog X.w) X.A X.xe none (EP X pins σ Q) acc C) S hc ht he I2 T st2 f2 (cv _ _ _ _ hw) (fun D C s' H' I' ⟨m, hm⟩ n1 n2 n3 n4 n5 q =>
    ⟨m, hm, fun h' hsb => ⟨.ref D, H', I'.turned (it := C) (t' := s'.toks) (fun b o hb e => (hsb.2 b hb).trans e) n3 n1 (.inr n4) n2 n5, rfl, q⟩⟩)
  have ecl : (pure (closOf X.env.cells scope.names []) : Sem (List (Str × Addr))) = pure cl := (clos_eq hfree).symm.trans hcl
  have ecl' : closOf X.env.cells scope.names [] = cl := by
    injection ecl
  rw [ecl']
  exact hrun
theorem ps_setCompx {at' : St → VK → It → Hp → Prop} {i : Nat} {y : Str} {py spos : Pos} (S : CompSc X.N N' X.env.scope scope x) (hc : X.calm = true) (hi : PI X (.Name x px) iter wi) (ht : ∀ cl C s H fp, PTL (cxComp X N' scope cl C s H fp) cds tc) (he : ∀ cl C s H fp, PE (cxComp X N' scope cl C s H fp) elt te) (cv : ∀ σ Q J H, at' σ Q J H → compAtF tc te σ Q J H)
    (hN : X.N.Nodup) (hy : X.N[i]? = some y) (hyl : X.env.scope.names.lookup y = some .local)
    (hsw : swapsWith (.ListComp elt [⟨.Name x px, iter, cds, 0⟩] scope pos) (some (.Name y py)) spos.line X.env = pure true := by rfl)
    (hs : ∀ x, foldedSetIterable iter X.env x = pure x := by intro _; rfl) : PS X (.Assign [.Name y py] (.ListComp elt [⟨.Name x px, iter, cds, 0⟩] scope pos) spos) (tAsg (fun σ H Q => wi σ H (at' σ Q)) (gName i)) := by
  intro pins s σ H D0 I h
  have hfree : ∀ z ∈ scope.names, z.2 = .free → ∃ c, X.env.cells.lookup z.1 = some c := fun z hz hk => by
    rcases S.ok z hz hk with q | q
    · exact I.ok.has z.1 (.inl q)
    · exact I.ok.has z.1 (.inr q)
  rw [exec_Assign_Name_used _ _ _ _ hsw]
  refine wpAny_bind (wpAny_standAt (wpAny_bind ?_))
  show wpAny _ X.A (do let _ ← comprehension (.ListComp elt [⟨.Name x px, iter, cds, 0⟩] scope pos) scope X.env _ (newList []) false (eval iter X.env) (some (assign (.Name y py) X.env))) _ _ s
  refine wpAny_bind (wpAny_mono (wpAny_comprehension_free (use := some (assign (.Name y py) X.env)) (Q := fun _ s' => SP X pins D0 .next s') rfl hs (clos_eq hfree) S.kind S.names
    (thn (hi pins s σ H _ I h) fun xv s1 h1 => thn h1 fun itv s2 h2 => ?_)) (fun _ s' hq => wpAny_pure (wpAny_pure hq)) fun _ _ e => e)
  obtain ⟨it, fp, tn, J, H2, e, I2, T, st2, f2, hw⟩ := h2
  subst e
  obtain ⟨cl, hcl, hrun⟩ := compx_core (tc := tc) (cds := cds) (elt := elt) (iter := iter) (pos := pos) (px := px) (E := X.xe) (Q := fun x H1 => gName i x σ H1 D0.nx) (RR := fun acc C => compPost (model X.prog X.w) X.A X.xe (some (assign (.Name y py) X.env)) (fun _ s' => SP X pins D0 .next s') acc C) S hc ht he I2 T st2 f2 (cv _ _ _ _ hw) (fun D C s' H' I' ⟨m, hm⟩ n1 n2 n3 n4 n5 q => by
    show wpAny _ X.A (assign (.Name y py) X.env (.ref D)) _ _ _
    refine wpAny_assign_Name (store_ok2 (i := i) (v := .ref D) I' hN hy (.inl hyl) rfl (fun s'' I'' ⟨a, hsa, hwa⟩ => ?_) (.inr hyl))
    have haC : C ≠ a := by
      rcases hwa with z | z
      · rw [z]; exact n1
      · intro z2
        exact n2 y a z z2.symm
    refine ⟨m, hm.sameBut hsa haC, fun h' hsb => ?_⟩
    exact ⟨_, H', I''.turned (it := C) (t' := s''.toks) (fun b o hb e => (hsb.2 b hb).trans e) n3 n1 (.inr n4) n2 n5, q⟩)
  have ecl : (pure (closOf X.env.cells scope.names []) : Sem (List (Str × Addr))) = pure cl := (clos_eq hfree).symm.trans hcl
  have ecl' : closOf X.env.cells scope.names [] = cl := by
    injection ecl
  rw [ecl']
  exact hrun
theorem pe_comp (S : CompSc X.N N' X.env.scope scope x) (hc : X.calm = true) (hi : PI X (.Name x px) iter wi) (he : ∀ cl C s H fp, PE (cxComp X N' scope cl C s H fp) elt te)
    (hs : ∀ x, foldedSetIterable iter X.env x = pure x := by intro _; rfl) : PE X (.ListComp elt [⟨.Name x px, iter, [], 0⟩] scope pos) (tComp wi te) :=
  pe_compx (at' := fun σ Q => compAt te σ Q) S hc hi (fun _ _ _ _ _ => ptl_nil) he (fun _ _ _ _ h => h.toF) hs
end

theorem comp_range {lo : Int} {n : Nat} {te : TE} {σ : St} {H : Hp} {Q : VK} (f : Nat → V) (hn : n ≤ sizeLine)
    (he : ∀ i H', i < n → Same H H' → ∀ N : V → Hp → Prop, (∀ H'', Same H' H'' → N (f i) H'') → te (some (.int (lo + i)) :: σ) H' N)
    (hq : ∀ D H', H D = none → Same H H' → H' D = some (.lst ((List.range n).map f)) → Q (.ref D) H') :
    compAt te σ Q (Itr lo n) H := by
  intro D hD
  refine ⟨fun i m ys H2 => m = n - i ∧ i ≤ n ∧ ys = (List.range i).map f ∧ Same H H2 ∧ H2 D = some (.lst ys), ⟨n, rfl, Nat.zero_le _, rfl, fun b o e => ?_, upd_same⟩, ?_⟩
  · rw [upd_ne (ne_of_none e hD)]
    exact e
  · rintro i m ys H2 ⟨rfl, hi, rfl, hs, hd⟩
    by_cases hlt : i < n
    · refine .inr ⟨hlt, by rw [List.length_map, List.length_range]; (first | lia | omega), fun v H' => v = f i ∧ Same H2 H', fun v H' ⟨ev, hs'⟩ => ⟨hs' D _ hd, n - (i + 1), by (first | lia | omega), rfl, hlt, ?_, fun b o e => ?_, upd_same⟩, fun y H' hy => ?_⟩
      · rw [ev, List.range_succ, List.map_append]
        rfl
      · rw [upd_ne (ne_of_none e hD)]
        exact hs' b o (hs b o e)
      · obtain ⟨e1, e2⟩ := hy
        subst e1 e2
        exact he i _ hlt hs _ fun H'' h'' => ⟨rfl, h''⟩
    · have e : i = n := by (first | lia | omega)
      subst e
      exact .inl ⟨Nat.le_refl _, hq D H2 hD hs hd⟩
end L2

set_option Elab.async false
set_option linter.all false
set_option maxRecDepth 100000
set_option maxHeartbeats 4000000

namespace L2
open PySem PySem.Spec PyProof.Rows

set_option genInjectivity false in
structure Cal (P : Program) (w : World) (K : PySem.W.Frag) (mg : Str → Option Value) (base : Heap) (CX : CXT) (x : Str) (k : Nat) (ps : List Str) (sp : Sp) : Prop where
  ex : ∃ (f : Addr) (fd : FuncData), FnOk P w K mg base CX k f fd ps sp ∧ mg x = some (.ref f) ∧ PySem.W.keepIn K (.ref f) = true ∧ Binds K fd ps []
section
variable {X : Cx}
theorem pe_cal {CX : CXT} {x : Str} {j k : Nat} {ps : List Str} {sp : Sp} {E : XK} {e : Expr} {es : List Expr} {t : TA} {p pos : Pos} (c : Cal X.prog X.w X.K X.mg X.base CX x j ps sp) (hr : Room k X.A) (hx : Passes CX X E) (ha : PA X (e :: es) t)
    (hjk : j ≤ k := by decide) (hg : Gl X x := by rfl) (hdb : (x == ("__debug__" : Str)) = false := by decide) (he : starEach (e :: es) X.env = (false, eval e X.env) :: starEach es X.env := by rfl) (hpl : (backTo pos (starEach es X.env)).any (·.1) = false := by rfl) :
    PE X (.Call (.Name x p) (e :: es) [] pos) (tCall sp [] E t) := by
  obtain ⟨f, fd, F, hm, hk, hb⟩ := c.ex
  exact pe_call F (hr.mono hjk) hg hm hk hb .nil hx ha hdb he hpl

theorem pe_strT (l : List Nat) {x : Str} {j pos} (h : x = tx l) : PE X (.Constant (.str x) j pos) (tC (T l)) := by
  subst h
  exact pe_str
theorem call_len_T : CallR X (.builtin "len") (fun xs H Q => ∃ (l : List Nat), xs = [T l] ∧ l.length ≤ sizeLine ∧ Q (.int (l.length : Nat)) H) := by
  intro pins s σ H xs us Q I r h
  obtain ⟨l, e, hz, q⟩ := h
  exact call_len_str pins s σ H xs us Q I r ⟨tx l, e, by rw [tx_len]; exact hz, by rw [tx_len]; exact q⟩
theorem ix_T : IxR X (fun x y H Q => ∃ (l : List Nat), x = T l ∧ ∃ (i : Int), y = .int i ∧ l.length ≤ sizeLine ∧ ∃ c, atI l i = some c ∧ Q (T [c]) H) := by
  intro value slice pins s σ H x y v u Q I rx ry h hs
  obtain ⟨l, e1, i, e2, hz, c, hc, q⟩ := h
  exact ix_str value slice pins s σ H x y v u Q I rx ry ⟨tx l, i, c, e1, e2, by rw [tx_len]; exact hz, by rw [tx_cps]; exact hc, q⟩ hs

theorem op_catL : OpR X (binaryOp .Add) (fun x y H Q => ∃ (l b : Addr) (xs zs : List V), x = .ref l ∧ y = .ref b ∧ SqL X.K H l xs ∧ SqL X.K H b zs ∧ xs.length + zs.length ≤ sizeLine ∧ ∀ p, H p = none → Q (.ref p) (upd H p (.lst (xs ++ zs)))) := by
  intro pins s σ H x y v u Q I rx ry h
  obtain ⟨l, b, xs, zs, rfl, rfl, hH, hB, hz, q⟩ := h
  cases rx
  cases ry
  obtain ⟨its, r, ⟨⟨cls, dd, data, sl⟩, n, ho, hc, hdd, hd⟩, _⟩ := I.list hH
  obtain ⟨its2, r2, ⟨⟨cls2, dd2, data2, sl2⟩, n2, ho2, hc2, hdd2, hd2⟩, _⟩ := I.list hB
  simp only at hc hd hc2 hd2
  subst hc hd hc2 hd2
  have e : its.toArray ++ its2.toArray = (its ++ its2).toArray := by simp
  refine concat_meets ⟨_, ho, rfl⟩ ⟨_, ho2, rfl⟩ noFill_list_add seq_list_add PySem.F.slot_list_add PySem.F.entry_list_add (PySem.F.args_list_add_2 _ _) (list_addW l b its.toArray its2.toArray n n2 dd dd2 sl sl2 (by rw [List.size_toArray, List.size_toArray, ← r.length, ← r2.length]; exact hz)) ⟨ho, ho2, ?_⟩
  rw [e]
  exact ⟨.ref _, _, I.lnew (t' := s.toks) (r.append r2) (by rw [List.length_append]; exact hz), rfl, q _ I.fresh⟩

theorem eqAt_T {ls ms : List (List Nat)} {us ws : List Value} (r : Vals (ls.map T) us) (r' : Vals (ms.map T) ws) {A : Around} {s : Shared} {j : Nat} {u w : Value} (hu : us[j]? = some u) (hw : ws[j]? = some w) : SeqAt.EqAt A s u w (decide (ls[j]? = ms[j]?)) := by
  have h1 : j < ls.length := by have := r.length; rw [List.length_map] at this; rw [this]; exact (List.getElem?_eq_some_iff.mp hu).1
  have h2 : j < ms.length := by have := r'.length; rw [List.length_map] at this; rw [this]; exact (List.getElem?_eq_some_iff.mp hw).1
  obtain ⟨u', e1, q1⟩ := r.get (i := j) (x := T ls[j]) (by rw [List.getElem?_map, List.getElem?_eq_getElem h1]; rfl)
  obtain ⟨w', e2, q2⟩ := r'.get (i := j) (x := T ms[j]) (by rw [List.getElem?_map, List.getElem?_eq_getElem h2]; rfl)
  rw [hu] at e1
  cases e1
  rw [hw] at e2
  cases e2
  have e := eqAt_V (A := A) (s := s) q1 q2 rfl rfl
  have ee : eqV (T ls[j]) (T ms[j]) = decide (ls[j]? = ms[j]?) := by
    show (tx ls[j] == tx ms[j]) = _
    rw [Bool.eq_iff_iff, beq_iff_eq, decide_eq_true_iff, List.getElem?_eq_getElem h1, List.getElem?_eq_getElem h2]
    exact ⟨fun h => by rw [tx_inj h], fun h => by rw [Option.some.inj h]⟩
  rw [ee] at e
  exact e
theorem all_range_eq {ls ms : List (List Nat)} (h : ls.length = ms.length) : (List.range ls.length).all (fun j => decide (ls[j]? = ms[j]?)) = decide (ls = ms) := by
  rw [Bool.eq_iff_iff, List.all_eq_true, decide_eq_true_iff]
  constructor
  · intro g
    apply List.ext_getElem?
    intro i
    by_cases hi : i < ls.length
    · exact of_decide_eq_true (g i (List.mem_range.mpr hi))
    · rw [List.getElem?_eq_none (by (first | lia | omega)), List.getElem?_eq_none (by (first | lia | omega))]
  · intro g j _
    rw [g]
    exact decide_eq_true rfl
end
end L2

set_option Elab.async false
set_option linter.all false
set_option maxRecDepth 100000
set_option maxHeartbeats 4000000

namespace L2
open PySem PySem.Spec PyProof.Rows

set_option genInjectivity false in
structure Fly (P : Program) (w : World) (outer : List Env) (H : Hp) (s : Shared) (a : Addr) (cls : Value) (H' : Hp) (s' : Shared) : Prop where
  os : s'.os = s.os
  bare : AllBare s'.gens
  ex : ∃ (B : Heap) (t : Addr), Heap.FlyingW B outer a cls (.ref t) s'.heap ∧ HOk P w H' B ∧ (∀ b o, s.heap.get? b = some o → H b = none → b ∉ frs outer → B.get? b = some o) ∧
    ∀ b o, s.heap.get? b = some o → b ∉ frs outer → ∃ o', B.get? b = some o'
  slot : ∀ b o, s.heap.get? b = some o → H b = none → b ∈ frs outer → ∃ sl, s'.heap.get? b = some { o with slots := sl }
  free : ∀ b o, s.heap.get? b = some o → H b = none → H' b = none
  tups : ∀ b xs, H b = some (.tup xs) → H' b = some (.tup xs)
  frzs : ∀ b o u, H b = some (.frz o u) → H' b = some (.frz o u)
  tbls : ∀ b ps, H b = some (.tbl ps) → ∃ more, H' b = some (.tbl (ps ++ more))
noncomputable def CX1 (P : Program) (w : World) : CXT := fun outer H s E e s' => ∃ a cls H', e = .ref a ∧ Fly P w outer H s a cls H' s' ∧ E cls none H'

theorem noTrk {P : Program} {w : World} {H : Hp} {h : Heap} {a : Addr} (x : HOk P w H h) (e : h.get? a = none) : H a = none := by
  cases q : H a with
  | none => rfl
  | some u =>
    have y := x a u q
    have z : ∃ o, h.get? a = some o := by
      cases u with
      | lst xs => obtain ⟨_, _, _, _, e⟩ := y; exact ⟨_, e⟩
      | tup xs => obtain ⟨_, _, _, o, e, _⟩ := y; exact ⟨o, e⟩
      | dK kvs => obtain ⟨_, _, _, _, o, _, _, e, _⟩ := y; exact ⟨o, e⟩
      | dT kvs => obtain ⟨_, _, _, _, o, _, _, e, _⟩ := y; exact ⟨o, e⟩
      | set S n => obtain ⟨o, _, _, _, e, _⟩ := y; exact ⟨o, e⟩
      | ins C dx fs => obtain ⟨_, _, _, e, _⟩ := y; exact ⟨_, e⟩
      | own y' => exact y
      | xd fs => obtain ⟨_, ⟨o, _, _, e, _⟩, _⟩ := y; exact ⟨o, e⟩
      | rng lo hi => obtain ⟨_, _, _, e⟩ := y; exact ⟨_, e⟩
      | frz ob u => exact ⟨_, y.1⟩
      | tbl ps => exact ⟨_, y⟩
      | met f y' => exact ⟨_, y⟩
      | ext φ => exact y.2.1
    obtain ⟨o, z⟩ := z
    rw [e] at z
    cases z

section
variable {X : Cx} {pins : List (Addr × Obj)} {σ : St} {H H' : Hp} {s s' : Shared} {a : Addr} {cls : Value} {E : Value → Shared → Prop}

set_option genInjectivity false in
structure Own (X : Cx) : Prop where
  stk : X.stack = X.env :: X.outer
  fr : X.env.frame = some X.env.locals
  ex : X.ex = []
theorem Own.frs (O : Own X) {b : Addr} : b ∈ frs X.stack ↔ b = X.env.locals ∨ b ∈ frs X.outer := by
  unfold L2.frs
  rw [O.stk, List.filterMap_cons, O.fr]
  exact List.mem_cons
theorem Inv.oldNe (I : Inv X pins σ H s) {b : Addr} {o : Obj} (e : X.s₀.heap.get? b = some o) : b ≠ X.env.locals := Nat.ne_of_lt (Nat.lt_of_lt_of_le (Heap.lt_size e) I.ok.above)
theorem Inv.hidHok (I : Inv X pins σ H s) : HOk X.prog X.w H (PySem.W.hideAll s.heap (L2.frs X.stack)) := fun b u e =>
  (I.hok b u e).stay (fun c v hc q => PySem.W.hideAll_get _ q fun hm => by
    have n := I.stkFree c hm
    rcases hc with z | z
    · rw [z, e] at n
      cases n
    · rw [z] at n
      cases n) (fun _ q => q) fun _ _ q => q
theorem Fly.raised {args : List Value} {h : Heap} (I : Inv X pins σ H s) (O : Own X) (hx : Heap.MadeExcOf s.heap h a cls args) :
    wpAny (model X.prog X.w) X.A (leaving X.env (.ref a)) (fun _ s'' => Fly X.prog X.w X.outer X.H₀ X.s₀ a cls H s'') E { s with heap := h } := by
  have hst := I.stack
  have hin : ∀ env ∈ X.stack, ∀ b, env.frame = some b → b ∈ L2.frs X.stack := fun env he b hb => List.mem_filterMap.mpr ⟨env, he, hb⟩
  have hl := PySem.W.funFrames_hide hst hin
  rw [O.stk] at hl
  have hfr := I.ok.frames
  rw [O.stk] at hfr
  have noEx : ∀ b, b ∉ X.ex := fun b z => by
    rw [O.ex] at z
    cases z
  refine wpAny_leaves_madeW (s := { s with heap := h }) hfr O.fr (fun b o q => PySem.W.of_hideAll _ q) hl hx fun h' t x1 x2 x3 x4 => ?_
  have notIn : ∀ b o, X.s₀.heap.get? b = some o → b ∉ L2.frs X.outer → b ∉ L2.frs (X.env :: X.outer) := fun b o e nb z => by
    rw [← O.stk] at z
    rcases O.frs.mp z with q | q
    · exact I.oldNe e q
    · exact nb q
  have hokB := I.hidHok
  rw [O.stk] at hokB
  refine ⟨I.os, I.bare, ⟨_, t, x1, hokB, fun b o e n nb => ?_, fun b o e nb => ?_⟩, fun b o e n hb => ?_, fun b o e n => I.base.free b o e n (noEx b), I.base.tups, I.base.frzs, I.base.tbls⟩
  · exact PySem.W.hideAll_get _ (I.base.keep b o e n nb (noEx b)) (notIn b o e nb)
  · obtain ⟨o', e'⟩ := I.base.there b o e (noEx b)
    exact ⟨o', PySem.W.hideAll_get _ e' (notIn b o e nb)⟩
  · obtain ⟨sl, e1⟩ := I.base.slot b o e n hb (noEx b)
    obtain ⟨_, o2, e2, hd⟩ := I.funs.mem hb
    rw [e1] at e2
    cases e2
    obtain ⟨sl2, e3⟩ := x4 b _ (hx.keeps b _ e1) hd
    exact ⟨sl2, e3⟩
theorem Fly.on (I : Inv X pins σ H s) (O : Own X) (Y : Fly X.prog X.w X.stack H s a cls H' s') :
    wpAny (model X.prog X.w) X.A (leaving X.env (.ref a)) (fun _ s'' => Fly X.prog X.w X.outer X.H₀ X.s₀ a cls H' s'') E s' := by
  obtain ⟨B, t, hfl, hokB, kp, th⟩ := Y.ex
  have hfr := I.ok.frames
  rw [O.stk] at hfr hfl
  have noEx : ∀ b, b ∉ X.ex := fun b z => by
    rw [O.ex] at z
    cases z
  have notIn : ∀ b o, X.s₀.heap.get? b = some o → b ∉ L2.frs X.outer → b ∉ L2.frs X.stack := fun b o e nb z => by
    rcases O.frs.mp z with q | q
    · exact I.oldNe e q
    · exact nb q
  refine wpAny_leaves_onW hfr O.fr hfl fun h' x1 x2 => ?_
  refine ⟨Y.os.trans I.os, Y.bare, ⟨B, t, x1, hokB, fun b o e n nb => kp b o (I.base.keep b o e n nb (noEx b)) (I.base.free b o e n (noEx b)) (notIn b o e nb), fun b o e nb => ?_⟩, fun b o e n hb => ?_, fun b o e n => ?_,
    fun b xs q => Y.tups b xs (I.base.tups b xs q), fun b o u q => Y.frzs b o u (I.base.frzs b o u q), fun b ps q => ?_⟩
  · obtain ⟨o', e'⟩ := I.base.there b o e (noEx b)
    exact th b o' e' (notIn b o e nb)
  · obtain ⟨sl, e1⟩ := I.base.slot b o e n hb (noEx b)
    obtain ⟨_, o2, e2, hd⟩ := I.funs.mem hb
    rw [e1] at e2
    cases e2
    obtain ⟨sl2, e3⟩ := Y.slot b _ e1 (I.base.free b o e n (noEx b)) (O.frs.mpr (.inr hb))
    obtain ⟨sl3, e4⟩ := x2 b _ e3 hd
    exact ⟨sl3, e4⟩
  · obtain ⟨o', e'⟩ := I.base.there b o e (noEx b)
    exact Y.free b o' e' (I.base.free b o e n (noEx b))
  · obtain ⟨m1, e1⟩ := I.base.tbls b ps q
    obtain ⟨m2, e2⟩ := Y.tbls b _ e1
    exact ⟨m1 ++ m2, by rw [e2, Array.append_assoc]⟩
theorem Fly.un (I : Inv X pins σ H s) (Y : Fly X.prog X.w X.stack H s a cls H' s') : Un (L2.frs X.stack) [] H H' s.heap s'.heap := by
  obtain ⟨B, t, hfl, hokB, kp, th⟩ := Y.ex
  refine ⟨fun b o e n nb _ => hfl.1 b o (kp b o e n nb), fun b o e n hb _ => Y.slot b o e n hb, fun b o e n _ => Y.free b o e n, fun b o e _ => ?_, Y.tups, Y.frzs, Y.tbls⟩
  by_cases hb : b ∈ L2.frs X.stack
  · obtain ⟨sl, q⟩ := Y.slot b o e (I.stkFree b hb) hb
    exact ⟨_, q⟩
  · obtain ⟨o', q⟩ := th b o e hb
    exact ⟨o', hfl.1 b o' q⟩
theorem Fly.inv (I : Inv X pins σ H s) (Y : Fly X.prog X.w X.stack H s a cls H' s') : Inv X pins σ H' s' := by
  have hok : HOk X.prog X.w H' s'.heap := by
    obtain ⟨B, t, hfl, hokB, kp, th⟩ := Y.ex
    exact hokB.kept hfl.1
  exact I.call' (ch := []) Y.os (Y.un I) hok Y.bare fun _ z => nomatch z
theorem Fly.slots {outer : List Env} {h' : Heap} (Y : Fly X.prog X.w outer H s a cls H' s') (hd : ∀ b ∈ L2.frs outer, ∃ o, s.heap.get? b = some o ∧ ∀ vs, o.data ≠ .fields vs) (x : s'.heap.UpToSlots h') :
    ∀ b o, s.heap.get? b = some o → H b = none → b ∈ L2.frs outer → ∃ sl, h'.get? b = some { o with slots := sl } := fun b o e n hb => by
  obtain ⟨sl, q⟩ := Y.slot b o e n hb
  obtain ⟨o2, e2, d2⟩ := hd b hb
  rw [e] at e2
  cases e2
  obtain ⟨sl', q'⟩ := x b _ q d2
  exact ⟨sl', q'⟩
theorem Fly.again {A : Around} {Q : Unit → Shared → Prop} (I : Inv X pins σ H s) (Y : Fly X.prog X.w X.stack H s a cls H' s') (h : ∀ h', Fly X.prog X.w X.stack H s a cls H' { s' with heap := h' } → Q () { s' with heap := h' }) :
    wpAny (model X.prog X.w) A (setFlight (.ref a) none) Q E s' := by
  obtain ⟨B, t, hfl, hokB, kp, th⟩ := Y.ex
  refine lands_againW hfl fun h' x1 x2 => h h' ?_
  exact ⟨Y.os, Y.bare, ⟨B, t, x1, hokB, kp, th⟩, Y.slots (fun b hb => (I.stack.mem hb).2) x2, Y.free, Y.tups, Y.frzs, Y.tbls⟩
theorem Fly.look {Q : Unit → Shared → Prop} (I : Inv X pins σ H s) (O : Own X) (Y : Fly X.prog X.w X.stack H s a cls H' s') (h : ∀ h', Fly X.prog X.w X.stack H s a cls H' { s' with heap := h' } → Q () { s' with heap := h' }) :
    wpAny (model X.prog X.w) X.A (noteFrame (.ref a) X.env) (fun _ s2 => wpAny (model X.prog X.w) X.A (setFlight (.ref a) none) Q E s2) E s' := by
  obtain ⟨B, t, hfl, hokB, kp, th⟩ := Y.ex
  have hfr := I.ok.frames
  have hfl' := hfl
  rw [O.stk] at hfr hfl'
  refine wpAny_looks_onW hfr O.fr hfl' fun h4 x4 y4 => ?_
  refine wpAny_landsW (s := { s' with heap := h4 }) x4 fun h5 x5 y5 => h h5 ?_
  rw [← O.stk] at x5
  exact ⟨Y.os, Y.bare, ⟨B, t, x5, hokB, kp, th⟩, Y.slots (fun b hb => (I.stack.mem hb).2) (y4.trans y5), Y.free, Y.tups, Y.frzs, Y.tbls⟩
theorem Fly.looks {M : Model} {outer : List Env} (Y : Fly X.prog X.w outer H s a cls H' s') : PySem.W.Looks M s'.heap (typeOf (.ref a)) cls := by
  obtain ⟨B, t, hfl, _⟩ := Y.ex
  obtain ⟨ob, hob, hc⟩ := hfl.there
  subst hc
  exact (PySem.W.Looks.ld hob).andThen .now
theorem Fly.track (I : Inv X pins σ H s) (Y : Fly X.prog X.w X.stack H s a cls H' s') : H' a = none ∧ Inv X pins σ (upd H' a (.ext fun h => ∃ o, h.get? a = some o ∧ o.cls = cls)) s' := by
  obtain ⟨B, t, hfl, hokB, kp, th⟩ := Y.ex
  have J := Y.inv I
  have na : H' a = none := noTrk hokB hfl.2.1
  obtain ⟨_, _, hfr, oe, vs, _, _, _, hoe, hcl, hda, _⟩ := id hfl
  -- an object of another kind, or one that stood before, is another one
  have nfr : ∀ b ∈ L2.frs X.stack, b ≠ a := fun b hb z => by
    obtain ⟨_, o, e, d⟩ := hfr.mem hb
    rw [z, hoe] at e
    cases e
    exact d vs hda
  have nold : ∀ b o, s.heap.get? b = some o → b ≠ a := fun b o e z => by
    by_cases hb : b ∈ L2.frs X.stack
    · exact nfr b hb z
    · obtain ⟨o', e'⟩ := th b o e hb
      rw [z, hfl.2.1] at e'
      cases e'
  have n0 : ∀ b o, X.s₀.heap.get? b = some o → b ∉ X.ex → b ≠ a := fun b o e hx => by
    obtain ⟨o', e'⟩ := I.base.there b o e hx
    exact nold b o' e'
  obtain ⟨mL, ⟨oL, _, _, hoL, _⟩, _⟩ := id I.loc
  have nL : X.env.locals ≠ a := nold _ oL hoL
  refine ⟨na, J.ok, J.os, J.bare, ⟨J.base.keep, J.base.slot, fun b o e n hx => ?_, J.base.there, fun b xs q => ?_, fun b o u q => ?_, fun b ps q => ?_⟩, J.loc, J.cell, ?_, fun y c e => ?_, fun p hp => ?_, fun b u q => ?_, J.len⟩
  · rw [upd_ne (n0 b o e hx)]
    exact J.base.free b o e n hx
  · have z := J.base.tups b xs q
    rw [upd_ne (ne_of_none z na)]
    exact z
  · have z := J.base.frzs b o u q
    rw [upd_ne (ne_of_none z na)]
    exact z
  · obtain ⟨m, z⟩ := J.base.tbls b ps q
    exact ⟨m, by rw [upd_ne (ne_of_none z na)]; exact z⟩
  · rw [upd_ne nL]
    exact J.free
  · obtain ⟨v, o, ho, _⟩ := I.cell y c e
    rw [upd_ne (nold c o ho)]
    exact J.freeC y c e
  · obtain ⟨e, n, ne, nf, d⟩ := J.pin p hp
    refine ⟨e, ?_, ne, nf, d⟩
    rw [upd_ne (nold _ _ (I.pin p hp).1)]
    exact n
  · by_cases hb : b = a
    · subst hb
      rw [upd_same] at q
      cases q
      exact ⟨⟨oe, hoe, hcl.1⟩, ⟨oe, hoe⟩, fun h1 h2 ⟨o, e, c⟩ k => ⟨o, k o e, c⟩⟩
    · rw [upd_ne hb] at q
      exact (J.hok b u q).stay (fun _ _ _ z => z) (fun c z => by rw [upd_ne (ne_of_none z na)]; exact z) fun c xs z => by rw [upd_ne (ne_of_none z na)]; exact z
end

noncomputable abbrev bmVE : List Value := [.type "ValueError", .type "Exception", .type "BaseException", .type "object"]
set_option genInjectivity false in
structure Exc (K : PySem.W.Frag) (mg : Str → Option Value) (x : Str) (C : Addr) : Prop where
  mg : mg x = some (.ref C)
  is : PySem.W.excIn K C bmVE "ValueError.__new__" = true
theorem Exc.own {K : PySem.W.Frag} {mg : Str → Option Value} {x : Str} {C : Addr} {h : Heap} (c : Exc K mg x C) (X : K.In h) : OwnCls x C bmVE "ValueError.__new__" mg h := by
  refine ⟨c.mg, ?_⟩
  have q := c.is
  unfold PySem.W.excIn at q
  split at q
  · rename_i dd cd sl ho
    split at q
    · rename_i C' bm k0 k1 k2 k3 n k5 hm hs
      simp only [beq_iff_eq, Bool.not_eq_true', Bool.and_eq_true] at q
      obtain ⟨⟨⟨⟨⟨g1, g2⟩, g3⟩, g4⟩, g5⟩, g6⟩ := q
      subst g1 g2
      obtain ⟨nm, bs, mro, ns, qn, hd, sn, sub, ab, col, del⟩ := cd
      have hsl : sl = #[k0, k1, k2, k3, some (.builtin "ValueError.__new__"), k5] := by
        cases sl with
        | mk l =>
          have hs' : l = _ := hs
          rw [hs']
      have hm' : mro = _ := hm
      have g3' : del = false := g3
      subst hsl hm' g3'
      refine ⟨bm, ns, nm, qn, bs, hd, sn, sub, ab, col, dd, k0, k1, k2, k3, k5, h.nsMap ns, X _ _ ho, ?_, ?_, ?_⟩
      · exact .of_isNs (PySem.W.isNs_of_in X g5)
      · exact PySem.W.nsMap_none_of_in X g5 g6
      · exact PySem.W.tail_of_in X g4
    · cases q
  · cases q
noncomputable def tRaise (E : Value → Hp → Prop) (C : Addr) (t : TA) : TS := fun _ σ H => t σ H fun vs H1 => vs.length ≤ sizeLine ∧ E (.ref C) H1
theorem ps_raise {x : Str} {C : Addr} {e₀ : Expr} {rest : List Expr} {np cpos pos : Pos} {t : TA} {E : Value → Hp → Prop} (c : Exc X.K X.mg x C) (hc : X.calm = true)
    (hE : ∀ (pins : List (Addr × Obj)) (σ : St) (H : Hp) (s : Shared) (h : Heap) (a : Addr) (args : List Value), Inv X pins σ H s → Heap.MadeExcOf s.heap h a (.ref C) args → E (.ref C) H → X.xe (.ref a) { s with heap := h })
    (ha : PA X (e₀ :: rest) t) (hg : Gl X x := by rfl) (hd : (x == ("__debug__" : Str)) = false := by decide)
    (he : starEach (e₀ :: rest) X.env = (false, eval e₀ X.env) :: starEach rest X.env := by rfl) (hpl : (backTo cpos (starEach rest X.env)).any (·.1) = false := by rfl) :
    PS X (.Raise (some (.Call (.Name x np) (e₀ :: rest) [] cpos)) none pos) (tRaise E C t) := by
  intro pins s σ H D I h
  have O := c.own I.mod.kin
  obtain ⟨tl, N, nm, q, bs, hdct, sn, sub, ab, col, dd, k0, k1, k2, k3, k5, mN, hC, hN, hni, T⟩ := O.obj
  refine wpAny_Raise_call_subT (C := C) (nm := nm) (q := q) (N := N) (bs := bs) (bm := tl) (hdct := hdct) (sn := sn) (sub := sub) (ab := ab) (col := col) (dd := dd) (k0 := k0) (k1 := k1) (k2 := k2) (k3 := k3) (k5 := k5) PySem.F.excBase_ValueError (mN := mN)
    (T.hasType (by decide +kernel)) (I.ok.hd hc) (by rw [he]; show (false || (backTo cpos (starEach rest X.env)).any (·.1)) = false; rw [hpl]; rfl) hni (ld_glob I hg c.mg ⟨rfl, ?_⟩ hd)
  have hA := ha cpos pins s σ H _ I h
  rw [he] at hA ⊢
  refine Calls.evalArgs_plain (thn hA fun us s2 ⟨vs, H2, I2, r2, hz, q2⟩ => ?_)
  exact ⟨rfl, by rw [← r2.length]; exact hz, I2.bk _ _ hC, hN.keeps I2.bk, T.keeps I2.bk, fun h' e hx => hE pins σ H2 s2 h' e us I2 hx q2⟩

section
variable {P : Program} {w : World} {K : PySem.W.Frag} {mg : Str → Option Value} {base : Heap} {N : List Str} {qual : Str} {scope : Scope} {f : Addr} {cdv : Value} {A : Around} {outer : List Env} {s : Shared} {H : Hp} {E : XK}
theorem ownX {CX : CXT} : Own (cxOf CX P w K mg base N qual scope f cdv A outer s H E) := ⟨rfl, rfl, rfl⟩
theorem passX : Passes (CX1 P w) (cxOf (CX1 P w) P w K mg base N qual scope f cdv A outer s H E) E := fun pins σ H1 s1 e s' I h => by
  obtain ⟨a, cls, H', rfl, Y, q⟩ := h
  exact thn (Fly.on I ownX Y) fun _ s'' Z => ⟨a, cls, H', rfl, Z, q⟩
theorem raiseX {C : Addr} {pins : List (Addr × Obj)} {σ : St} {H1 : Hp} {s1 : Shared} {h : Heap} {a : Addr} {args : List Value} (I : Inv (cxOf (CX1 P w) P w K mg base N qual scope f cdv A outer s H E) pins σ H1 s1) (hx : Heap.MadeExcOf s1.heap h a (.ref C) args) (q : E (.ref C) none H1) :
    (cxOf (CX1 P w) P w K mg base N qual scope f cdv A outer s H E).xe (.ref a) { s1 with heap := h } := thn (Fly.raised I ownX hx) fun _ s'' Z => ⟨a, .ref C, H1, rfl, Z, q⟩
theorem pass1 {X : Cx} : Passes (CX1 P w) X E0 := fun _ _ _ _ _ _ _ h => by
  obtain ⟨_, _, _, _, _, q⟩ := h
  exact q.elim
theorem Fun.okX {x qual : Str} {st : Stmt} {f : Addr} {fd : FuncData} {N ps : List Str} {k : Nat} {sp : Sp} (F : Fun K x qual st f fd) (S : FnScope N ps (defScope st)) (len : ∀ vs H Q E, sp vs H Q E → vs.length = ps.length)
    (hbody : ∀ (cdv : Value) (A : Around) (outer : List Env) (s : Shared) (H : Hp) (vs : List V) (Q : VK) (E : XK), Room k (A.deeper (envOfC qual (defScope st) s.heap.objs.size f cdv)) → sp vs H Q E →
      ∃ t, PSs (cxOf (CX1 P w) P w K mg base N qual (defScope st) f cdv A outer s H E) (defBody st) t ∧ t { nx := fun _ H' => Q .non H', rt := Q } (start N vs) H) : FnOk P w K mg base (CX1 P w) (k + 1) f fd ps sp := by
  obtain ⟨oc, od, kV, doc, pm, an, cdv, ct, osl, rfl, lk, hcd⟩ := F.ex
  exact fn_of lk hcd S len fun A outer s H vs Q E hr hsp => hbody cdv A outer s H vs Q E hr hsp
end
end L2

set_option Elab.async false
set_option linter.all false
set_option maxRecDepth 100000
set_option maxHeartbeats 4000000

namespace L2
open PySem PySem.Spec PyProof.Rows

noncomputable def XP (X : Cx) (pins : List (Addr × Obj)) (R : St → Value → Hp → Prop) (e : Value) (s' : Shared) : Prop :=
  ∃ a cls σ' H s1 H', e = .ref a ∧ Inv X pins σ' H s1 ∧ Fly X.prog X.w X.stack H s1 a cls H' s' ∧ R σ' cls H'
noncomputable abbrev TTy := Ends → (St → Value → Hp → Prop) → St → Hp → Prop
noncomputable def PTy (X : Cx) (st : List Stmt) (t : TTy) : Prop :=
  ∀ (pins : List (Addr × Obj)) (s : Shared) (σ : St) (H : Hp) (D : Ends) (R : St → Value → Hp → Prop), Inv X pins σ H s → t D R σ H → wpAny (model X.prog X.w) X.A (execs st X.env) (SP X pins D) (XP X pins R) s
section
variable {X : Cx}
noncomputable def tyCall (sp : Sp) (t : TA) : TTy := fun D R σ H => t σ H fun vs H1 => sp vs H1 (fun _ H2 => D.nx σ H2) fun cls _ H2 => R σ cls H2
theorem py_call {x : Str} {j k : Nat} {ps : List Str} {sp : Sp} {e : Expr} {es : List Expr} {t : TA} {p cpos pos : Pos} (c : Cal X.prog X.w X.K X.mg X.base (CX1 X.prog X.w) x j ps sp) (hr : Room k X.A) (ha : PA X.nox (e :: es) t)
    (hjk : j ≤ k := by decide) (hg : Gl X x := by rfl) (hdb : (x == ("__debug__" : Str)) = false := by decide) (he : starEach (e :: es) X.env = (false, eval e X.env) :: starEach es X.env := by rfl) (hpl : (backTo cpos (starEach es X.env)).any (·.1) = false := by rfl)
    (hs : swapsWith (.Call (.Name x p) (e :: es) [] cpos) none pos.line X.env = pure false := by rfl) :
    PTy X [.Expr (.Call (.Name x p) (e :: es) [] cpos) pos] (tyCall sp t) := by
  intro pins s σ H D R I q
  obtain ⟨f, fd, F, hm, hk, hb⟩ := c.ex
  refine wpAny_execs_cons (wpAny_Expr_any (wpAny_Call_Name_kw (ld_glob I hg hm ?_ hdb)) I.quiet hs)
  refine PySem.W.callWith_K (h₀ := X.base) I.ok.mod.kin hk (wpAny_mono (ha cpos pins s σ H _ (I.wish _) q) (fun us s1 z => ?_) fun _ _ z => False.elim z) he hpl
  obtain ⟨vs, H1, I0, r, q1⟩ := z
  have I1 : Inv X pins σ H1 s1 := I0.unwish
  refine ⟨I1.kIn, ?_⟩
  have hl : us.length = ps.length := by rw [← r.length]; exact F.len _ _ _ _ q1
  have hbt := hb s1 us I1.kIn (by rw [List.append_nil]; exact hl)
  rw [List.append_nil] at hbt
  refine wpAny_call (codeAny_mono (F.run X.A X.stack s1 H1 ⟨us, []⟩ us vs _ _ (hr.mono hjk) I1.env0 hbt r q1) fun r' s' hq => ?_)
  cases r' with
  | error x' =>
    obtain ⟨a, cls, H', rfl, Y, q2⟩ := hq
    exact ⟨a, cls, σ, H1, s1, H', rfl, I1, Y, q2⟩
  | ok fl =>
    cases fl with
    | ret u =>
      obtain ⟨v, H', I2, _, q2⟩ := I1.after hq
      exact wpAny_execs_nil ⟨σ, H', I2, q2⟩
    | next => exact False.elim hq
    | brk => exact False.elim hq
    | cont => exact False.elim hq
noncomputable def tyIf (c : TT) (t u : TTy) : TTy := fun D R σ H => c σ H fun b H1 => if b = true then t D R σ H1 else u D R σ H1
theorem py_if {c : Expr} {a b : List Stmt} {tc : TT} {t u : TTy} {pos : Pos} (hc : PT X.nox c tc) (ha : PTy X a t) (hb : PTy X b u) : PTy X [.If c a b pos] (tyIf tc t u) := by
  intro pins s σ H D R I q
  refine wpAny_execs_cons (wpAny_If (wpAny_mono (hc pins s σ H _ (I.wish _) q) (fun d s1 z => ?_) fun _ _ z => False.elim z))
  obtain ⟨H1, I0, q1⟩ := z
  have I1 : Inv X pins σ H1 s1 := I0.unwish
  have fin : ∀ (f : Flow) (s2 : Shared), SP X pins D f s2 → (match f with | .next => wpAny (model X.prog X.w) X.A (execs [] X.env) (SP X pins D) (XP X pins R) s2 | f => SP X pins D f s2) := fun f s2 z => by
    cases f with
    | next => exact wpAny_execs_nil z
    | ret v => exact z
    | brk => exact z
    | cont => exact z
  cases d with
  | true => exact wpAny_mono (ha pins s1 σ H1 D R I1 q1) (fun f s2 z => fin f s2 z) fun _ _ z => z
  | false => exact wpAny_mono (hb pins s1 σ H1 D R I1 q1) (fun f s2 z => fin f s2 z) fun _ _ z => z

noncomputable def ExcAt (a : Addr) (cls : Value) : HO := .ext fun h => ∃ o, h.get? a = some o ∧ o.cls = cls
noncomputable abbrev TH := Ends → St → Value → Hp → Prop
noncomputable def PH (X : Cx) (hs : List ExceptHandler) (t : TH) : Prop :=
  ∀ (pins : List (Addr × Obj)) (σ : St) (H : Hp) (s : Shared) (a : Addr) (cls : Value) (H' : Hp) (s' : Shared) (D : Ends), Inv X pins σ H s → Fly X.prog X.w X.stack H s a cls H' s' → t D σ cls H' →
    wpAny (model X.prog X.w) X.A (handleBy (.ref a) X.env hs) (SP X pins D) X.xe s'
noncomputable abbrev cxMark (X : Cx) (a : Addr) : Cx := { X with A := X.A.mark (some (.ref a)), calm := false, xe := fun _ _ => False }
theorem Inv.mark {pins : List (Addr × Obj)} {σ : St} {H : Hp} {s : Shared} (I : Inv X pins σ H s) (a : Addr) : Inv (cxMark X a) pins σ H s := by
  have ok := I.ok
  exact ⟨⟨ok.mod, ok.kind, ok.glob, ok.blt, ok.above, ok.inj, ok.has, ok.cab, fun z => (by cases z), ok.frames, ok.stk, ok.exf, ok.bs, ok.bsz, ok.noex, ok.exfs, ok.funs, ok.frf⟩, I.os, I.bare, I.base, I.loc, I.cell, I.free, I.freeC, I.pin, I.hok, I.len⟩
theorem Inv.unmark {pins : List (Addr × Obj)} {σ : St} {H : Hp} {s : Shared} {a : Addr} (I : Inv (cxMark X a) pins σ H s) (J : X.Ok) : Inv X pins σ H s := ⟨J, I.os, I.bare, I.base, I.loc, I.cell, I.free, I.freeC, I.pin, I.hok, I.len⟩
theorem nsInj {h : Heap} {a : Addr} {m m' : Str → Option Value} (x : h.Ns a m) (y : h.Ns a m') : ∀ z, m z = m' z := fun z => by
  obtain ⟨o, es, ep, ho, hd, _, hf⟩ := x
  obtain ⟨o', es', ep', ho', hd', _, hf'⟩ := y
  rw [ho] at ho'
  cases ho'
  rw [hd] at hd'
  cases hd'
  rw [← hf z, ← hf' z]
theorem Inv.turnFrame {pins : List (Addr × Obj)} {σ σ' : St} {H : Hp} {s : Shared} {h' : Heap} {m' : Str → Option Value} (I : Inv X pins σ H s) (hn' : h'.Ns X.env.locals m') (hs : Heap.SameBut X.env.locals s.heap h') (hl : σ'.length = σ.length)
    (hm : ∀ (i : Nat) (x : Str) (v : V), X.N[i]? = some x → σ'[i]? = some (some v) → σ[i]? = some (some v) ∧ ∀ m, s.heap.Ns X.env.locals m → m' x = m x) : Inv X pins σ' H { s with heap := h' } := by
  have kp : ∀ b o, b ≠ X.env.locals → s.heap.get? b = some o → h'.get? b = some o := fun b o hb e => (hs.2 b hb).trans e
  obtain ⟨m0, hn0, hl0⟩ := I.loc
  obtain ⟨oL, _, _, hoL, _⟩ := id hn0
  have ok : HOk X.prog X.w H h' := fun b ob e => (I.hok b ob e).stay (fun c w' hc q => kp c w' (fun z => by
    subst z
    rcases hc with g | g
    · rw [← g, I.free] at e
      cases e
    · rw [I.free] at g
      cases g) q) (fun _ q => q) fun _ _ q => q
  refine ⟨I.ok, I.os, I.bare, ⟨fun b o e n hb hx => kp b o (I.oldNe e) (I.base.keep b o e n hb hx), fun b o e n hb hx => ?_, I.base.free, fun b o e hx => ?_, I.base.tups, I.base.frzs, I.base.tbls⟩, ⟨m', hn', fun i x v e1 e2 e3 => ?_⟩, fun y c e => ?_, I.free, I.freeC, fun p hp => ?_, ok, hl.trans I.len⟩
  · obtain ⟨sl, e1⟩ := I.base.slot b o e n hb hx
    exact ⟨sl, kp b _ (I.oldNe e) e1⟩
  · obtain ⟨o', e1⟩ := I.base.there b o e hx
    exact ⟨o', kp b _ (I.oldNe e) e1⟩
  · obtain ⟨g1, g2⟩ := hm i x v e1 e2
    obtain ⟨u, r, l⟩ := hl0 i x v e1 g1 e3
    refine ⟨u, r, ?_⟩
    rcases l with ⟨k, z⟩ | ⟨k, c, e, o, ho, hd⟩
    · exact .inl ⟨k, (g2 m0 hn0).trans z⟩
    · exact .inr ⟨k, c, e, o, kp c o (I.cne x c e) ho, hd⟩
  · obtain ⟨v, o, ho, hd⟩ := I.cell y c e
    exact ⟨v, o, kp c o (I.cne y c e) ho, hd⟩
  · obtain ⟨e, n, ne, nf, d⟩ := I.pin p hp
    exact ⟨kp _ _ ne e, n, ne, nf, d⟩

noncomputable def thNone : TH := fun _ _ _ _ => False
theorem ph_nil : PH X [] thNone := fun _ _ _ _ _ _ _ _ _ _ _ h => False.elim h
noncomputable def thAs (K : PySem.W.Frag) (c : Value) (i : Nat) (ts : TS) (tr : TH) : TH := fun D σ cls H' =>
  (PySem.W.exmOne K cls c = some true ∧ ∀ a, H' a = none → ts { nx := fun σ2 H2 => D.nx (σ2.set i none) H2, rt := D.rt } (σ.set i (some (.ref a))) (upd H' a (ExcAt a cls))) ∨ (PySem.W.exmOne K cls c = some false ∧ tr D σ cls H')
theorem ph_as {x n : Str} {c : Value} {np pos : Pos} {b₀ : Stmt} {suite : List Stmt} {rest : List ExceptHandler} {ts : TS} {tr : TH} {i : Nat} (hm : X.mg x = some c) (hN : X.N.Nodup) (hi : X.N[i]? = some n) (hlo : X.env.scope.names.lookup n = some .local)
    (hsu : ∀ a, PSs (cxMark X a) (b₀ :: suite) ts) (hr : PH X rest tr) (hg : Gl X x := by rfl) (hd : (x == ("__debug__" : Str)) = false := by decide) :
    PH X (.ExceptHandler (some (.Name x np)) (some n) (b₀ :: suite) pos :: rest) (thAs X.K c i ts tr) := by
  intro pins σ H s a cls H' s' D I Y h
  have I1 := Y.inv I
  have hcls : (X.env.scope.kind == .class || (X.env.scope.kind == .module && X.env.locals != X.env.globals)) = false := by rw [I.ok.kind]; rfl
  refine wpAny_handleBy_cons (codeAny_handlers_test (ld_glob (X := cxMark X a) (I1.mark a) hg hm ?_ hd)) (by intro q; cases q)
  rcases h with ⟨e, h⟩ | ⟨e, h⟩
  · refine (PySem.W.exm_one I1.kIn Y.looks e).here ?_
    refine codeAny_handlers_suite_as (Y.again I fun h6 Y6 => ?_)
    obtain ⟨na, I7⟩ := Y6.track I
    refine store_ok (X := cxMark X a) (i := i) (v := .ref a) (I7.mark a) hN hi (.inl hlo) rfl (fun s8 I8 => ?_) (.inr hlo)
    -- the name goes behind the rows
    have gone : ∀ (σ2 : St) (H2 : Hp) (s2 : Shared) (Q : Shared → Prop), Inv X pins σ2 H2 s2 → (∀ s3, Inv X pins (σ2.set i none) H2 s3 → Q s3) →
        wpAny (model X.prog X.w) X.A (do bindName X.env n .none; unbindBehindTheSuite X.env n pos) (fun _ s3 => Q s3) X.xe s2 := fun σ2 H2 s2 Q I2 hQ => by
      refine wpAny_bind (wpAny_bindName (store_ok (v := .non) I2 hN hi (.inl hlo) rfl (fun s3 I3 => ?_) (.inr hlo)))
      have hi2 : i < (σ2.set i (some V.non)).length := by rw [I3.len]; exact (List.getElem?_eq_some_iff.mp hi).1
      obtain ⟨m, hn, hl⟩ := id I3.loc
      obtain ⟨u, r, l⟩ := hl i n .non hi (by rw [List.getElem?_set_self (by rw [List.length_set] at hi2; exact hi2)]) (.inl hlo)
      have hv : m n = some u := by
        rcases l with ⟨_, z⟩ | ⟨k, _⟩
        · exact z
        · have k' : X.env.scope.names.lookup n = some .cell ∨ X.env.scope.names.lookup n = some .free := k
          rw [hlo] at k'
          rcases k' with z | z <;> cases z
      unfold unbindBehindTheSuite
      refine wpAny_onRaise (wpAny_unbindName_local hlo hn hv hcls fun h' u' hns hsb => ?_)
      refine hQ { s3 with heap := h' } ?_
      have J := I3.turnFrame (σ' := σ2.set i none) hns hsb (by rw [List.length_set, List.length_set]) (fun j y v e1 e2 => ?_)
      · exact J
      · by_cases hj : j = i
        · subst hj
          rw [List.getElem?_set_self (by rw [List.length_set] at hi2; exact hi2)] at e2
          cases e2
        · rw [List.getElem?_set_ne (Ne.symm hj)] at e2
          refine ⟨by rw [List.getElem?_set_ne (Ne.symm hj)]; exact e2, fun m2 hn2 => ?_⟩
          have : y ≠ n := fun z => hj (nodup_ix hN e1 (z ▸ hi))
          show (if y = n then u' else m y) = m2 y
          rw [if_neg this]
          exact nsInj hn hn2 y
    have hq := h a na
    refine wpAny_mono (hsu a pins s8 _ _ _ I8 hq) (fun f s9 z => ?_) fun _ _ z => False.elim z
    cases f with
    | next =>
      obtain ⟨σ9, H9, I9, q9⟩ := z
      exact gone σ9 H9 s9 _ (I9.unmark I.ok) fun s3 I3 => ⟨_, H9, I3, q9⟩
    | ret u =>
      obtain ⟨v, σ9, H9, I9, r9, q9⟩ := z
      exact gone σ9 H9 s9 _ (I9.unmark I.ok) fun s3 I3 => ⟨v, _, H9, I3, r9, q9⟩
    | brk =>
      obtain ⟨_, _, _, q9⟩ := z
      exact False.elim q9
    | cont =>
      obtain ⟨_, _, _, q9⟩ := z
      exact False.elim q9
  · refine (PySem.W.exm_one I1.kIn Y.looks e).here ?_
    exact hr pins σ H s a cls H' s' D I Y h
noncomputable def tTry (tb : TTy) (th : TH) : TS := fun D σ H => tb D (fun σ' cls H' => th D σ' cls H') σ H
theorem ps_try {body : List Stmt} {h₀ : ExceptHandler} {hs : List ExceptHandler} {pos : Pos} {tb : TTy} {th : TH} (O : Own X) (hb : PTy X body tb) (hh : PH X (h₀ :: hs) th) : PS X (.Try body (h₀ :: hs) [] [] pos) (tTry tb th) := by
  intro pins s σ H D I q
  refine wpAny_Try_except (wpAny_mono (hb pins s σ H D _ I q) (fun f s1 z => ?_) fun e s1 z => ?_)
  · cases f with
    | next => exact wpAny_execs_nil z
    | ret v => exact z
    | brk => exact z
    | cont => exact z
  · obtain ⟨a, cls, σ', H1, s2, H', rfl, I2, Y, q2⟩ := z
    exact Y.look I2 O fun h' Y' => hh pins σ' H1 s2 a cls H' _ D I2 Y' q2
end
end L2

set_option Elab.async false
set_option linter.all false
set_option maxRecDepth 100000
set_option maxHeartbeats 4000000

namespace L2
open PySem PySem.Spec PyProof.Rows

namespace RV
theorem lri_no_len : typeLookup (.type "list_reverseiterator") "__len__" = pure none := by rw [typeLookup_type, builtinLookup_eq_fast]; kernel_rfl
theorem lri_hint : typeLookup (.type "list_reverseiterator") "__length_hint__" = pure (some (.builtin "list_reverseiterator.__length_hint__")) := by rw [typeLookup_type, builtinLookup_eq_fast]; kernel_rfl
section
variable {prog : Program} {w : World} {A : Around} {E : Value → Shared → Prop} {s : Shared}
theorem hint_rev {it l : Addr} {i : Int} {Q : Bool → Shared → Prop} (hit : s.heap.IsRevIter it l i) (h : Q false s) : wpAny (model prog w) A (Builtin.List.listLengthHint (.ref it)) Q E s := by
  unfold Builtin.List.listLengthHint
  refine wpAny_bind (wpAny_specialOf hit.typeIs lri_no_len ?_)
  show wpAny _ A (specialOf (Value.ref it) (Str.ofString "__length_hint__") >>= _) _ _ _
  refine wpAny_bind (wpAny_specialOf hit.typeIs lri_hint ?_)
  generalize hid : ("list_reverseiterator.__length_hint__" : String) = id0
  wp_delta
  rw [show splitId id0 = some ("list_reverseiterator", "__length_hint__") from by subst hid; decide +kernel]
  subst hid
  refine wpAny_bind (wpAny_isInstance (T := "list_reverseiterator") (b := true) hit.typeIs (by rw [isSubtype_type]; kernel_rfl) ?_)
  refine wpAny_ite_split (fun hab => absurd hab (by decide)) (fun _ => ?_)
  refine wpAny_ite_split (fun _ => ?_) (fun hab => absurd (by decide +kernel) hab)
  refine wpAny_ite_split (fun hab => absurd hab (by decide +kernel)) (fun _ => ?_)
  exact wpAny_pure h

theorem extend_rev {R : Result → Shared → Prop} (hh : A.handled = none) {it l : Addr} {items : Array Value} (hit : s.heap.IsRevIter it l ((items.size : Int) - 1)) (hl : s.heap.IsList l items) (hne : l ≠ it) (S : Addr) (res : Value) (c₀ : Nat)
    (h1 : S ≠ it) (h2 : S ≠ l) (hS : s.heap.get? S = some { cls := .type "list", data := .seq #[] c₀ })
    (hR : ∀ h' tk acc' c', (∀ b o, b ≠ S → b ≠ it → s.heap.get? b = some o → h'.get? b = some o) → h'.get? S = some { cls := .type "list", dict := none, data := .seq acc' c', slots := #[] } →
      acc'.toList = items.toList.reverse → R (.ok (.ret res)) { s with heap := h', toks := tk }) (hn : items.size ≤ sizeLine) :
    wpAny (model prog w) A.in1 (Builtin.List.listExtendWith (.ref S) (.ref it) res)
      (fun fin s' => match fin with | .done f => R (.ok f) s' | .again c' => c'.quiet = true ∧ codeAny (model prog w) A c' R s') (fun e s' => R (.error e) s') s := by
  have W := (Walks.listRev (prog := prog) (w := w) (A := A.in1) hh it l hne items).toS
  unfold Builtin.List.listExtendWith
  refine wpAny_bind (wpAny_typeOf hit.typeIs ?_)
  have g1 : Builtin.List.listSameRef (.ref S) (.ref it) = false := by simp [Builtin.List.listSameRef, h1]
  have g2 : (Value.type "list_reverseiterator" == Value.type "list") = false := by decide
  have g3 : (Value.type "list_reverseiterator" == Value.type "tuple") = false := by decide
  simp only [g1, g2, g3, Bool.or_false, Bool.false_eq_true, if_false]
  refine wpAny_bind (wpAny_pyIter_revIter hit ?_)
  refine wpAny_bind (wpAny_holding (hint_rev hit ?_))
  refine wpAny_ite_split (fun hab => absurd hab (by decide +kernel)) (fun _ => ?_)
  have e0 : (items.size : Int) - 1 - ((0 : Nat) : Int) = (items.size : Int) - 1 := by (first | lia | omega)
  refine wpAny_pure ⟨plainId_quiet F.plain_extend_loop _, codeAny_extend_loopS W hn S (by simp [h1, h2]) res items.size 0 _ #[] c₀ rfl (Nat.zero_le _) ⟨Nat.zero_le _, by rw [e0]; exact hit, hl⟩ hS (ItemsOf.nil _) fun s' acc' c' hm hS' hacc => ?_⟩
  rw [Moved.eq_with hm]
  refine hR s'.heap s'.toks acc' c' (fun b o hb hb2 e => hm.heap b o (by simp [hb, hb2]) e) hS' ?_
  · apply List.ext_getElem?
    intro i
    have hsz := hacc.1
    by_cases hi : i < items.size
    · have e1 : acc'[i]? = some (acc'[i]'(by (first | lia | omega))) := Array.getElem?_eq_getElem (by (first | lia | omega))
      have e2 := hacc.2 i _ e1
      rw [List.getElem?_reverse (by simpa using hi), Array.getElem?_toList, Array.getElem?_toList, e1, ← e2]
      simp
    · rw [List.getElem?_eq_none (by simp; (first | lia | omega)), List.getElem?_eq_none (by simp; (first | lia | omega))]

end
end RV

section
variable {X : Cx}
theorem arg1 {e : Expr} {pos : Pos} {s : Shared} {Q : List Value → Shared → Prop} {E : Value → Shared → Prop} (h : wpAny (model X.prog X.w) X.A (eval e X.env) (fun u s1 => Q [u] s1) E s) (hs : starEach [e] X.env = (false, eval e X.env) :: starEach [] X.env) :
    wpAny (model X.prog X.w) X.A (spliced (backTo pos (starEach [e] X.env))) Q E s := by
  rw [hs]
  show wpAny _ _ (spliced ((false, eval e X.env) :: backTo pos (starEach [] X.env))) _ _ s
  exact Calls.spliced_cons (thn h fun u s1 q => Calls.spliced_nil q)
theorem op_ne_LT (hu : X.A.units < cLine) : OpR X (compareOp .NotEq) (fun x y H Q => ∃ (p b : Addr) (ls ms : List (List Nat)), x = .ref p ∧ y = .ref b ∧ SqL X.K H p (ls.map T) ∧ SqL X.K H b (ms.map T) ∧ Q (.bl (!decide (ls = ms))) H) := by
  intro pins s σ H x y v u Q I rx ry h
  obtain ⟨p, b, ls, ms, rfl, rfl, h1, h2, q⟩ := h
  cases rx
  cases ry
  obtain ⟨its, r, pl, _⟩ := I.list h1
  obtain ⟨its2, r2, pl2, _⟩ := I.list h2
  have l1 := r.length
  have l2 := r2.length
  rw [List.length_map] at l1 l2
  by_cases hl : ls.length = ms.length
  · refine SeqAt.RcNeAt.lists (e := fun j => decide (ls[j]? = ms[j]?)) pl.isList pl2.isList (by rw [List.size_toArray, List.size_toArray]; (first | lia | omega)) hu (fun j g1 g2 => eqAt_T r r2 (by simp) (by simp)) _ _ _ _ ?_
    rw [List.size_toArray, ← l1, all_range_eq hl]
    exact ⟨.bl _, H, I, rfl, q⟩
  · refine SeqAt.RcNeAt.lists_lengths pl.isList pl2.isList (by rw [List.size_toArray, List.size_toArray, bne_iff_ne]; (first | lia | omega)) hu _ _ _ _ ?_
    have e : decide (ls = ms) = false := decide_eq_false fun z => hl (by rw [z])
    rw [e] at q
    exact ⟨.bl _, H, I, rfl, q⟩
end
end L2

set_option Elab.async false
set_option linter.all false
set_option maxRecDepth 100000
set_option maxHeartbeats 4000000

namespace L2
open PySem PySem.Spec PyProof.Rows

noncomputable def nub : List (List Nat) → List (List Nat) → List (List Nat)
  | acc, [] => acc
  | acc, l :: ls => if l ∈ acc then nub acc ls else nub (acc ++ [l]) ls
noncomputable def nubTo (ls : List (List Nat)) : Nat → List (List Nat)
  | 0 => []
  | i + 1 => if ls.getD i [] ∈ nubTo ls i then nubTo ls i else nubTo ls i ++ [ls.getD i []]
theorem nubTo_len (ls : List (List Nat)) : ∀ i, (nubTo ls i).length ≤ i
  | 0 => Nat.le_refl _
  | i + 1 => by
    have h := nubTo_len ls i
    rw [nubTo]
    split
    · (first | lia | omega)
    · rw [List.length_append, List.length_singleton]
      (first | lia | omega)
theorem nubTo_mem (ls : List (List Nat)) (x : List Nat) : ∀ i, i ≤ ls.length → (x ∈ nubTo ls i ↔ x ∈ ls.take i)
  | 0, _ => by simp [nubTo]
  | i + 1, hi => by
    have h := nubTo_mem ls x i (by (first | lia | omega))
    have e : ls.take (i + 1) = ls.take i ++ [ls.getD i []] := by
      rw [List.take_add_one, List.getD_eq_getElem?_getD, List.getElem?_eq_getElem (by (first | lia | omega))]
      rfl
    rw [e, List.mem_append, nubTo]
    split
    · rename_i hm
      rw [h]
      constructor
      · exact .inl
      · rintro (q | q)
        · exact q
        · have q' : x = ls.getD i [] := by simpa using q
          rw [q', ← nubTo_mem ls _ i (by (first | lia | omega))]
          exact hm
    · rw [List.mem_append, h]
noncomputable def uniq (ls : List (List Nat)) : List (List Nat) := nubTo ls ls.length
namespace SE
section
variable {prog : Program} {w : World} {A : Around} {R : Result → Shared → Prop} {J : Addr} {fp wr : List Addr} {G : Array GenState → Array GenState → Prop} {n : Nat} {P : Nat → Value → Prop} {St : Nat → Shared → Prop}
noncomputable abbrev Has (prog : Program) (w : World) (h : Heap) (D : Addr) (ms : List (List Nat)) : Prop := h.SetOf (PySem.strKind prog w) D (fun x => decide (x.cps.toList ∈ ms)) ms.length
theorem Has.at {h h' : Heap} {D : Addr} {ms : List (List Nat)} (x : Has prog w h D ms) (k : ∀ o, h.get? D = some o → h'.get? D = some o) : Has prog w h' D ms := by
  obtain ⟨o, es, ep, tb, ho, r⟩ := x
  exact ⟨o, es, ep, tb, k o ho, r⟩
variable {E : Value → Shared → Prop} {s : Shared}
end
end SE

section
variable {X : Cx}
theorem str_at {ls : List (List Nat)} {us : List Value} (r : Vals (ls.map T) us) {i : Nat} {v : Value} (h : us[i]? = some v) : ∃ t, v = Value.str (tx (ls.getD i [])) t := by
  have hl := r.length
  rw [List.length_map] at hl
  have hi : i < ls.length := by have := (List.getElem?_eq_some_iff.mp h).1; (first | lia | omega)
  obtain ⟨u, h1, h2⟩ := r.get (i := i) (x := T ls[i]) (by rw [List.getElem?_map, List.getElem?_eq_getElem hi]; rfl)
  rw [h] at h1
  cases h1
  rw [List.getD_eq_getElem?_getD, List.getElem?_eq_getElem hi]
  exact h2
end
end L2

set_option Elab.async false
set_option linter.all false
set_option maxRecDepth 100000
set_option maxHeartbeats 4000000

namespace L2
open PySem PySem.Spec PyProof.Rows
section
variable {X : Cx}
namespace LM
theorem rmul (a : Int) (t : Tok) (l : Addr) (its : Array Value) (n : Nat) (dd : Option Addr) (sl : Array (Option Value)) :
    Meets (Builtin.«int.__rmul__» ⟨[.int a t, .ref l], []⟩) (fun _ R s => s.heap.get? l = some { cls := .type "list", dict := dd, data := .seq its n, slots := sl } ∧ R (.ok (.ret Value.notImplemented)) s) :=
  .of_wp fun prog w A R s z => by
    obtain ⟨hp, g, d, tk, os⟩ := s
    obtain ⟨hl, z⟩ := z
    wp_walk
    exact ⟨_, rfl, z⟩
theorem mul (l : Addr) (its : Array Value) (n : Nat) (dd : Option Addr) (sl : Array (Option Value)) (x : Int) (u : Tok) (c0 : ¬(!Builtin.List.listFitsIndex x) = true) (c1 : ¬its.size * x.toNat > (2 ^ 63 - 1) / 8) (c2 : ¬Builtin.List.listTooLong (its.size * x.toNat) = true) :
    Meets (Builtin.«list.__mul__» ⟨[.ref l, .int x u], []⟩) (fun _ R s => s.heap.get? l = some { cls := .type "list", dict := dd, data := .seq its n, slots := sl } ∧
      R (.ok (.ret (Value.ref s.heap.objs.size))) { s with heap := s.heap.push { cls := Value.type "list", data := Data.seq (List.foldl (fun x1 x2 => x1 ++ x2) #[] (List.replicate (if its.isEmpty = true then 0 else x.toNat) its)) } }) :=
  .of_wp fun prog w A R s z => by
    obtain ⟨hp, g, d, tk, os⟩ := s
    obtain ⟨hl, z⟩ := z
    have hsz := AutoListH.joined_fits c2
    wp_walk using wpAny_loadPart' hl
    refine wpAny_ite_false (decide_eq_false (Nat.not_lt.mpr hsz)) ?_
    wp_walk
    exact ⟨_, rfl, z⟩
end LM
theorem ix_list_K (K : PySem.W.Frag) (hK : X.K = K) : IxR X (rIxL K) := by
  subst hK
  exact ix_list
theorem op_repI : OpR X (binaryOp .Mult) (fun x y H Q => ∃ (l : Addr) (k : Int) (xs : List V), x = .ref l ∧ y = .int k ∧ SqL X.K H l xs ∧ (-(2 ^ 63) ≤ k ∧ k < 2 ^ 63 ∧ xs.length * k.toNat ≤ sizeLine) ∧ ∀ p, H p = none → Q (.ref p) (upd H p (.lst (List.replicate k.toNat xs).flatten))) := by
  intro pins s σ H x y v u Q I rx ry h
  obtain ⟨l, k, xs, rfl, rfl, hH, ⟨h1, h2, hz⟩, q⟩ := h
  cases rx
  obtain ⟨t, rfl⟩ := ry
  obtain ⟨its, r, ⟨⟨cls, dd, data, sl⟩, n, e, hc, hdd, hd⟩, z⟩ := I.list hH
  simp only at hc hd
  subst hc hd
  have hl := r.length
  have hlen : its.toArray.size * k.toNat ≤ sizeLine := by rw [List.size_toArray, ← hl]; exact hz
  have hcap : ¬ its.toArray.size * k.toNat > (2 ^ 63 - 1) / 8 := by
    have : (sizeLine : Nat) ≤ (2 ^ 63 - 1) / 8 := by decide
    (first | lia | omega)
  have hfit : ¬ (!Builtin.List.listFitsIndex k) = true := by
    rw [fitsIndex_both h1 h2]
    exact Bool.false_ne_true
  have hlong : ¬ Builtin.List.listTooLong (its.toArray.size * k.toNat) = true := by
    rw [notLongL hlen]
    exact Bool.false_ne_true
  have hnew : List.foldl (fun x1 x2 => x1 ++ x2) #[] (List.replicate (if its.toArray.isEmpty = true then 0 else k.toNat) its.toArray) = (List.replicate k.toNat its).flatten.toArray := by
    have f0 : ∀ m : Nat, List.foldl (fun x1 x2 => x1 ++ x2) #[] (List.replicate m its.toArray) = (List.replicate m its).flatten.toArray := fun m => by
      have := foldl_rep its m []
      rw [List.nil_append] at this
      exact this
    rw [f0]
    cases its with
    | nil => simp
    | cons a r' => rw [if_neg (by simp)]
  refine wpAny_binaryOp_repeat_ref (T := "list") (U := "int") (by decide) ⟨_, e, rfl⟩ (fun s' => typeIs_int s' k t) noFill_list_mul F.fills_int_mul F.slot_int_rmul repeat_list F.slot_int_index.lookup
    (call_meets F.slot_int_rmul (typeIs_int s k t) F.entry_int_rmul (F.args_int_rmul_2 _ _) (LM.rmul k t l its.toArray n dd sl)
      ⟨e, rfl, ⟨_, e, rfl⟩, call_meets F.slot_list_mul ⟨_, e, rfl⟩ F.entry_list_mul (F.args_list_mul_2 _ _) (LM.mul l its.toArray n dd sl k t hfit hcap hlong) ⟨e, ?_⟩⟩)
  rw [hnew]
  exact ⟨.ref _, _, I.lnew (t' := s.toks) (r.rep k.toNat) (by rw [len_rep, Nat.mul_comm]; exact hz), rfl, q _ I.fresh⟩
theorem op_repL : OpR X (binaryOp .Mult) (fun x y H Q => ∃ (l : Addr) (k : Nat) (xs : List V), x = .ref l ∧ y = .int k ∧ SqL X.K H l xs ∧ (k ≤ sizeLine ∧ xs.length * k ≤ sizeLine) ∧ ∀ p, H p = none → Q (.ref p) (upd H p (.lst (List.replicate k xs).flatten))) := by
  intro pins s σ H x y v u Q I rx ry h
  obtain ⟨l, k, xs, e1, e2, hH, ⟨hk, hz⟩, q⟩ := h
  have hs : sizeLine = 16777216 := sizeLine_eq
  refine op_repI pins s σ H x y v u Q I rx ry ⟨l, (k : Int), xs, e1, e2, hH, ⟨by (first | lia | omega), by (first | lia | omega), ?_⟩, ?_⟩
  · rw [Int.toNat_natCast]
    exact hz
  · rw [Int.toNat_natCast]
    exact q
end
end L2

set_option Elab.async false
set_option linter.all false
set_option maxRecDepth 100000
set_option maxHeartbeats 4000000

namespace L2
open PySem PySem.Spec PyProof.Rows

noncomputable def Itx (l : List Nat) : It := ⟨fun i _ => i < l.length, fun i H x H' => H' = H ∧ ∃ c, l[i]? = some c ∧ x = T [c], fun i _ => l.length ≤ i⟩
theorem turn_text {P : Program} {w : World} {K : PySem.W.Frag} {tg : Expr} {it : Addr} {ty : String} {l : List Nat} {t : Tok} (hty : ty = "str_ascii_iterator" ∨ ty = "str_iterator")
    (W : ∀ A : Around, A.handled = none → Walks P w A it [it] [it] (tx l).cps.size (SignAt (tx l)) (fun i h => h.IsStrIter it ty (tx l) t i)) : Turn P w K tg (Itx l) [it] it (fun i h => h.IsStrIter it ty (tx l) t i) where
  mem := by simp
  obj := fun i h st b hb => by
    have e : b = it := by simpa using hb
    subst e
    obtain ⟨o, e, c, d⟩ := st
    exact ⟨o, e, fun v z => by rw [d] at z; cases z⟩
  keep := fun i h h' st k => by
    obtain ⟨o, e, r⟩ := st
    exact ⟨o, k it (by simp) o e, r⟩
  item := by
    intro X hP hw hK hc i pins s σ H E I hf st hg
    subst hP hw hK
    obtain ⟨f0, f1, f2, f3, f4, f5⟩ := hf it (by simp)
    refine (W X.A (I.ok.hd hc)).item i s _ _ (by have : i < l.length := hg; simpa [tx] using this) st fun v h' tk hv st' kk => ?_
    obtain ⟨c, u, hcu, rfl⟩ := hv
    have I1 : Inv X pins σ H { s with heap := h', toks := tk } := I.turned (fun b o hb e => kk b o (by simpa using hb) e) f0 f1 f3 f4 f5
    obtain ⟨o, e, cl, d⟩ := id st'
    refine ⟨_, rfl, go_of (s := { s with heap := h', toks := tk }) (n := ty) e cl d (by rcases hty with rfl | rfl <;> decide) ⟨T [c], H, I1, ⟨u, rfl⟩, ⟨rfl, c, ?_, rfl⟩, st', fun b hb => (hf b hb).1⟩⟩
    simpa [tx] using hcu
  done := by
    intro X hP hw hK hc i pins s σ H E I hf st hg
    subst hP hw hK
    obtain ⟨f0, f1, f2, f3, f4, f5⟩ := hf it (by simp)
    have hn : l.length ≤ i := hg
    obtain ⟨o, e, cl, d⟩ := id st
    rcases hty with rfl | rfl
    · exact wpAny_pyNext_ascii_end (I.ok.hd hc) st (by simpa [tx] using hn) fun h' eb => ⟨rfl, I.turned (t' := s.toks) (fun b o hb e => eb b o hb e) f0 f1 f3 f4 f5⟩
    · exact wpAny_pyNext_wide_end (I.ok.hd hc) st (by simpa [tx] using hn) fun h' eb => ⟨rfl, I.turned (t' := s.toks) (fun b o hb e => eb b o hb e) f0 f1 f3 f4 f5⟩
  self := fun A i s Q E st h => by
    rcases hty with rfl | rfl
    · exact wpAny_pyIter_striter_ascii st h
    · exact wpAny_pyIter_striter_wide st h
noncomputable def iStr (tl : TE) : TI := fun σ H R => tl σ H fun x H1 => ∃ l, x = T l ∧ R (Itx l) H1
section
variable {X : Cx} {tg : Expr}
theorem pi_str {e : Expr} {tl : TE} (hl : PE X e tl) : PI X tg e (iStr tl) := by
  intro pins s σ H R I h
  refine thn (hl pins s σ H _ I h) fun v s1 ⟨x, H1, I1, r1, q1⟩ => ?_
  obtain ⟨l, rfl, q⟩ := q1
  obtain ⟨t, rfl⟩ := r1
  have fin : ∀ (ty : String) (o : Obj), (ty = "str_ascii_iterator" ∨ ty = "str_iterator") → (∀ A : Around, A.handled = none → Walks X.prog X.w A s1.heap.objs.size [s1.heap.objs.size] [s1.heap.objs.size] (tx l).cps.size (SignAt (tx l)) (fun i h => h.IsStrIter s1.heap.objs.size ty (tx l) t i)) →
      (s1.heap.push o).IsStrIter s1.heap.objs.size ty (tx l) t 0 → PIE X pins σ tg R (.ref s1.heap.objs.size) { s1 with heap := s1.heap.push o } := fun ty o hty W st => by
    refine ⟨s1.heap.objs.size, [s1.heap.objs.size], _, _, H1, rfl, I1.kept (t' := s1.toks) fun b o e => Heap.get?_push_of_some _ e, turn_text hty W, st, fun b hb => ?_, q⟩
    have e : b = s1.heap.objs.size := by simpa using hb
    subst e
    exact I1.fpOk (Nat.le_refl _) (I1.hok.fresh (Nat.le_refl _))
  cases ha : (tx l).cps.all (· < 128)
  · exact wpAny_pyIter_wide ha (fin "str_iterator" _ (.inr rfl) (fun A hA => Walks.strWide hA _ (tx l) t) ⟨_, Heap.get?_push_size _ rfl, rfl, rfl⟩)
  · exact wpAny_pyIter_ascii ha (fin "str_ascii_iterator" _ (.inl rfl) (fun A hA => Walks.strAscii hA _ (tx l) t) ⟨_, Heap.get?_push_size _ rfl, rfl, rfl⟩)
end
theorem for_text {l : List Nat} {g : TG} {tb : TS} {D : Ends} {σ : St} {H : Hp} (Pv : Nat → St → Hp → Prop) (h0 : Pv 0 σ H)
    (hs : ∀ i c σ H, l[i]? = some c → Pv i σ H → g (T [c]) σ H fun σ2 H2 => tb { D with nx := Pv (i + 1), ct := Pv (i + 1), bk := D.nx } σ2 H2) (hd : ∀ σ H, Pv l.length σ H → D.nx σ H) :
    ∃ W : Nat → Nat → St → Hp → Prop, (∃ m, W 0 m σ H) ∧ ∀ i m σ H, W i m σ H →
      ((Itx l).stop i H ∧ D.nx σ H) ∨ ((Itx l).go i H ∧ ∃ N : St → Hp → Prop, (∀ σ' H', N σ' H' → ∃ m', m' < m ∧ W (i + 1) m' σ' H') ∧ ∀ x H', (Itx l).yld i H x H' → g x σ H' fun σ2 H2 => tb { D with nx := N, ct := N, bk := D.nx } σ2 H2) := by
  refine ⟨fun i m σ H => m = l.length - i ∧ i ≤ l.length ∧ Pv i σ H, ⟨l.length, by simp, Nat.zero_le _, h0⟩, ?_⟩
  rintro i m σ H ⟨rfl, hi, p⟩
  by_cases hlt : i < l.length
  · refine .inr ⟨hlt, Pv (i + 1), fun σ' H' p' => ⟨l.length - (i + 1), by (first | lia | omega), rfl, hlt, p'⟩, fun x H' y => ?_⟩
    obtain ⟨rfl, c, hc, rfl⟩ := y
    exact hs i c σ _ hc p
  · obtain rfl : i = l.length := by (first | lia | omega)
    exact .inl ⟨Nat.le_refl _, hd σ H p⟩

section
variable {X : Cx}
theorem op_notin_sT : OpR X (compareOp .NotIn) (fun x y H Q => ∃ c, x = T [c] ∧ ∃ l, y = T l ∧ Q (.bl (!decide (c ∈ l))) H) := by
  intro pins s σ H x y v u Q I rx ry h
  obtain ⟨c, e1, l, e2, q⟩ := h
  exact op_notin_str pins s σ H x y v u Q I rx ry ⟨tx [c], tx l, e1, e2, by rw [show tx [c] = ⟨#[c]⟩ from rfl, StrLaws.found_one, tx_cps]; exact q⟩
theorem mt_index6 : MtR X "str.index" (fun x xs H Q => x = T [97, 98, 99, 100, 101, 102] ∧ ∃ c : Nat, xs = [T [c]] ∧ (97 ≤ c ∧ c ≤ 102) ∧ Q (.int ((c - 97 : Nat) : Int)) H) := by
  intro pins s σ H x xs v us Q I rx rs h
  obtain ⟨rfl, c, rfl, hc, q⟩ := h
  obtain ⟨t, rfl⟩ := rx
  obtain ⟨u, rfl, ru⟩ := vals1 rs
  obtain ⟨t', rfl⟩ := ru
  have key : ∀ d : Nat, d < 6 → Builtin.Str.occurrences (tx [97, 98, 99, 100, 101, 102]) (tx [97 + d]) 0 (tx [97, 98, 99, 100, 101, 102]).length 1 = [d] := by decide +kernel
  have e := key (c - 97) (by omega)
  rw [show 97 + (c - 97) = c by omega] at e
  exact SC.index e ⟨.int ((c - 97 : Nat) : Int), H, I.tok _, ⟨_, rfl⟩, q⟩

namespace RV
variable {prog : Program} {w : World} {A : Around} {E : Value → Shared → Prop} {s : Shared}
theorem collect_rev {Q : List Value → Shared → Prop} (hh : A.handled = none) {it l : Addr} {items : Array Value} (hit : s.heap.IsRevIter it l ((items.size : Int) - 1)) (hl : s.heap.IsList l items) (hne : l ≠ it)
    (hQ : ∀ h' tk, (∀ b o, b ≠ it → s.heap.get? b = some o → h'.get? b = some o) → Q items.toList.reverse { s with heap := h', toks := tk }) (hn : items.size ≤ sizeLine) :
    wpAny (model prog w) A (collect (.ref it)) Q E s := by
  obtain ⟨oi, hoi, ri⟩ := id hit
  obtain ⟨ol, hol, rl⟩ := id hl
  unfold collect
  refine wpAny_bind (wpAny_runValue (codeAny_builtin F.entry_proto_collect ?_))
  rw [Around.under_plainId F.plain_proto_collect]
  refine wpAny_bind (m := newList []) (wpAny_newObj_type (wpAny_pure ⟨plainId_quiet F.plain_list_iadd _, codeAny_builtin F.entry_list_iadd ?_⟩))
  rw [Around.under_plainId F.plain_list_iadd]
  have hS : (s.heap.push { cls := .type "list", data := .seq #[] }).get? s.heap.objs.size = some { cls := .type "list", data := .seq #[] } := Heap.get?_push_size _ rfl
  have go : ∀ R : Result → Shared → Prop, (∀ h' tk acc c, (∀ b o, b ≠ it → s.heap.get? b = some o → h'.get? b = some o) → h'.get? s.heap.objs.size = some { cls := .type "list", dict := none, data := .seq acc c, slots := #[] } → acc.toList = items.toList.reverse →
      R (.ok (.ret (.ref s.heap.objs.size))) { s with heap := h', toks := tk }) → wpAny (model prog w) A.in1 (Builtin.List.listExtendWith (.ref s.heap.objs.size) (.ref it) (.ref s.heap.objs.size))
        (fun fin s' => match fin with | .done f => R (.ok f) s' | .again c' => c'.quiet = true ∧ codeAny (model prog w) A c' R s') (fun e s' => R (.error e) s') { s with heap := s.heap.push { cls := .type "list", data := .seq #[] } } := fun R hR =>
    extend_rev (A := A) (s := { s with heap := s.heap.push { cls := .type "list", data := .seq #[] } }) hh ⟨oi, Heap.get?_push_of_some _ hoi, ri⟩ ⟨ol, Heap.get?_push_of_some _ hol, rl⟩ hne s.heap.objs.size (.ref s.heap.objs.size) 0
      (Ne.symm (Nat.ne_of_lt (Heap.lt_size hoi))) (Ne.symm (Nat.ne_of_lt (Heap.lt_size hol))) hS (fun h' tk acc' c' hk hS' hacc => hR h' tk acc' c' (fun b o hb e => hk b o (Nat.ne_of_lt (Heap.lt_size e)) hb (Heap.get?_push_of_some _ e)) hS' hacc) hn
  refine go (fun r s' => match r with
    | .ok (.ret v) => wpAny (model prog w) A (match v with
      | .ref a => do
        match (← load a).data with
        | .seq xs _ => pure xs.toList
        | _ => unsupported "internal:collect"
      | _ => unsupported "internal:collect") Q E s'
    | .ok _ => False
    | .error e => E e s') fun h' tk acc c hk hS' hacc => ?_
  refine wpAny_bind (m := load s.heap.objs.size) (wpAny_load hS' (wpAny_pure ?_))
  rw [hacc]
  exact hQ h' tk hk
theorem join_rev {Q : Value → Shared → Prop} (hh : A.handled = none) {it l : Addr} {items : Array Value} {x : Str} {t : Tok} {ys : List Str} (hit : s.heap.IsRevIter it l ((items.size : Int) - 1)) (hl : s.heap.IsList l items) (hne : l ≠ it) (hy : StrsAre items.toList.reverse ys)
    (hok : (ys.map (·.length)).sum + ys.length * x.length ≤ 16777216)
    (hQ : ∀ h' tk t', (∀ b o, b ≠ it → s.heap.get? b = some o → h'.get? b = some o) → Q (.str (Txt.join x ys) t') { s with heap := h', toks := tk }) (hn : items.size ≤ sizeLine) :
    wpAny (model prog w) A (call (.builtin "str.join") [.str x t, .ref it]) Q E s := by
  refine wpAny_call (codeAny_call_builtin F.slot_str_join.plain F.entry_str_join (F.slot_str_join.check _ _ _ _ _ _ _ _ (typeIs_str _ _ _) (F.args_str_join_2 _ _) ?_))
  rw [join_tree_other]
  refine wpAny_bind (wpAny_typeOf hit.typeIs ?_)
  rw [if_neg (by decide)]
  refine wpAny_bind (wpAny_tryCatch (wpAny_pyIter_revIter hit (wpAny_bind (collect_rev (A := A.in1) hh hit hl hne (fun h' tk hk => ?_) hn))))
  obtain ⟨lt, hv, ht⟩ := strsAre_values hy
  rw [hv]
  have hok' := joinOk_of hok
  unfold JoinOk at hok'
  rw [Bool.not_eq_true', ← ht] at hok'
  have g : Gives (joinTail x (strValues lt)) (joinMade x lt) := by
    have g0 := gives_joinTail x lt hok'
    cases lt with
    | nil => exact g0
    | cons p r => cases r with
      | nil => exact g0
      | cons q r' => exact g0
  refine g prog w A (wants Q E) { s with heap := h', toks := tk } (post_join lt ⟨joinFit_length hok', fun t' k => ?_⟩)
  rw [ht]
  exact hQ h' k t' hk
end RV
noncomputable def tJR (K : PySem.W.Frag) (t : TE) : TE := fun σ H Q => t σ H fun x H1 => ∃ (p : Addr) (ls : List (List Nat)), x = .ref p ∧ SqL K H1 p (ls.map T) ∧ ls.flatten.length ≤ sizeLine ∧ Q (T ls.reverse.flatten) H1
theorem pe_joinrev {e : Expr} {t : TE} {j} {cp apos cpos p2 pos2 : Pos} (hc : X.calm = true) (g2 : Gl X "reversed") (m2 : X.mg "reversed" = none) (he : PE X e t) {x0 : Str} (hx : x0 = tx [])
    (hbase : attributeBase (.Constant (.str x0) j cp) "join" X.env (eval (.Constant (.str x0) j cp) X.env) = eval (.Constant (.str x0) j cp) X.env := by rfl)
    (hline : (apos.endLine == cpos.line) = true := by rfl) (s1 : starEach [e] X.env = (false, eval e X.env) :: starEach [] X.env := by rfl)
    (hb2 : bootBuiltins "reversed" = some (.type "reversed") := by decide +kernel) :
    PE X (.Call (.Attribute (.Constant (.str x0) j cp) "join" apos) [.Call (.Name "reversed" p2) [e] [] pos2] [] cpos) (tJR X.K t) := by
  intro pins s σ H Q I h
  subst hx
  refine wpAny_Call_method_late hbase rfl hline rfl (Calls.Constant_str ?_)
  refine ⟨"str", "str.join", PySem.F.plainAttrs_str, PySem.F.slot_str_join, PySem.F.type_str_join, typeIs_str _ _ _, fun a z => (by cases z), ?_⟩
  refine Calls.callWith_builtin rfl (Calls.evalArgs_plain ?_)
  show wpAny _ _ (spliced ((false, eval (.Call (.Name "reversed" p2) [e] [] pos2) X.env) :: backTo cpos (starEach [] X.env))) _ _ _
  refine Calls.spliced_cons (thn (Q := fun u s1 => wpAny (model X.prog X.w) X.A (call (.builtin "str.join") [.str (tx []) s.toks, u]) (EP X pins σ Q) X.xe s1) ?_ fun u s1 z => Calls.spliced_nil z)
  have I0 : Inv X pins σ H { s with toks := s.toks + 1 } := I.tok _
  refine wpAny_Call_Name_kw (ld_blt I0 g2 m2 hb2 ?_ (by decide) (by decide))
  refine PyProof.Rows.callWith_type1 (arg1 (thn (he pins _ σ H _ I0 h) fun u s' ⟨v, H1, I1, r1, q1⟩ => ?_) s1) s1 rfl
  obtain ⟨p, ls, rfl, hq, hz2, q⟩ := q1
  cases r1
  obtain ⟨its, r, pl, hz⟩ := I1.list hq
  have hl := pl.isList
  refine call_reversed_list hl ?_
  have hlt : p < s'.heap.objs.size := by obtain ⟨o, ho, _⟩ := hl; exact Heap.lt_size ho
  have hl2 : (s'.heap.push (revObj p ((its.toArray.size : Int) - 1))).IsList p its.toArray := by
    obtain ⟨o, ho, rr⟩ := hl
    exact ⟨o, Heap.get?_push_of_some _ ho, rr⟩
  have hrv : Vals (ls.reverse.map T) its.toArray.toList.reverse := by
    rw [List.map_reverse]
    simpa using r.reverse
  have hs : sizeLine = 16777216 := sizeLine_eq
  have hfl : (ls.reverse.flatten).length = ls.flatten.length := ((List.reverse_perm ls).flatten).length_eq
  refine RV.join_rev (I1.ok.hd hc) (it := s'.heap.objs.size) (l := p) (items := its.toArray) (ys := ls.reverse.map tx) ⟨_, Heap.get?_push_size _ rfl, rfl, rfl⟩ hl2 (Nat.ne_of_lt hlt) (strsAre_T hrv) (by rw [sum_len_tx, tx_len, List.length_nil, Nat.mul_zero]; (first | lia | omega)) (fun h' tk t' hk => ?_) (by rw [List.size_toArray, ← r.length]; exact hz)
  refine ⟨T ls.reverse.flatten, H1, I1.kept (t' := tk) fun b u eb => hk b u (Nat.ne_of_lt (Heap.lt_size eb)) (Heap.get?_push_of_some _ eb), ⟨t', by rw [join_tx]⟩, q⟩
end
end L2

set_option Elab.async false
set_option linter.all false
set_option maxRecDepth 100000
set_option maxHeartbeats 4000000

namespace L2
open PySem PySem.Spec PyProof.Rows

section
variable {P : Program} {w : World} {K : PySem.W.Frag} {mg : Str → Option Value} {base : Heap}
theorem Fun.okN {x qual : Str} {st : Stmt} {f : Addr} {fd : FuncData} {N ps : List Str} {k : Nat} {sp : Sp} (F : Fun K x qual st f fd) (S : FnScope N ps (defScope st)) (len : ∀ vs H Q E, sp vs H Q E → vs.length = ps.length)
    (hbody : ∀ (cdv : Value) (A : Around) (outer : List Env) (s : Shared) (H : Hp) (vs : List V) (Q : VK) (E : XK), Room k (A.deeper (envOfC qual (defScope st) s.heap.objs.size f cdv)) → sp vs H Q E →
      ∃ t, PSs (cxOf (CX1 P w) P w K mg base N qual (defScope st) f cdv A outer s H E).nox (defBody st) t ∧ t { nx := fun _ H' => Q .non H', rt := Q } (start N vs) H) : FnOk P w K mg base (CX1 P w) (k + 1) f fd ps sp := by
  obtain ⟨oc, od, kV, doc, pm, an, cdv, ct, osl, rfl, lk, hcd⟩ := F.ex
  refine fn_of lk hcd S len fun A outer s H vs Q E hr hsp => ?_
  obtain ⟨t, h, q⟩ := hbody cdv A outer s H vs Q E hr hsp
  exact ⟨t, h.nox, q⟩
end

open PySem.W in
set_option genInjectivity false in
structure Knd (K : PySem.W.Frag) (C : Addr) : Prop where
  ga : findIn K (.ref C) "__getattribute__" = some (some (.builtin "BaseException.__getattribute__"))
  hk : findIn K (.ref C) "__getattr__" = some none
  ha : findIn K (.ref C) "__class__" = some (some (.builtin "object.__class__"))
  hn : specialIn K (.builtin "object.__class__") "__get__" = some (some (.builtin "getset_descriptor.__get__"))
  htk : takesIn K (.builtin "object.__class__") = some true
  hm : mroIn K C (.type "object") = some true
  hb : mroIn K C (.type "BaseException") = some true
  cl : (clsIn K C).isSome = true
namespace EX
open PySem.W PySem.Calls PySem.Builtin PySem.Builtin.ObjectAttr PySem.Builtin.Getset_descriptor
variable {prog : Program} {w : World} {A : Around} {E : Value → Shared → Prop} {s : Shared} {K : PySem.W.Frag} {a C : Addr}
theorem ty {M : Model} {h : Heap} (p : ∃ o, h.get? a = some o ∧ o.cls = .ref C) : Looks M h (typeOf (.ref a)) (.ref C) := by
  obtain ⟨o, h1, h2⟩ := p
  exact h2 ▸ (Looks.ld h1).andThen .now
theorem found {M : Model} {h : Heap} (X : K.In h) (k : Knd K C) : Looks M h (find (.ref a) (.ref C) "__class__") (.bind (.builtin "getset_descriptor.__get__") (.builtin "object.__class__")) := by
  have L1 := looks_findIn (M := M) X k.ha
  have L2 : Looks M h (getOf (some (.builtin "object.__class__"))) (some (.builtin "getset_descriptor.__get__")) := looks_specialIn X k.hn
  have L3 := looks_takesIn (M := M) X k.htk
  refine L1.andThen (L2.andThen ?_)
  exact (show Looks M h (dataDescriptor? (some (.builtin "object.__class__")) (some (.builtin "getset_descriptor.__get__"))) (some (.builtin "getset_descriptor.__get__", .builtin "object.__class__")) from L3.andThen .now).andThen (Looks.tag .now)
theorem get {tp : Value} {R : Result → Shared → Prop} (X : K.In s.heap) (k : Knd K C) (p : ∃ o, s.heap.get? a = some o ∧ o.cls = .ref C) (h : R (.ok (.ret (.ref C))) s) :
    codeAny (model prog w) A (.call (.builtin "getset_descriptor.__get__") ⟨[.builtin "object.__class__", .ref a, tp], []⟩) R s := by
  obtain ⟨hh, g, dr, t, os⟩ := s
  have L0 := ty (M := model prog w) p
  have L1 := looks_mroIn (M := model prog w) X k.hm
  refine codeAny_call_builtin KF.slot_gs.plain KF.entry_gs (KF.slot_gs.check _ _ _ _ _ _ _ _ KF.type_class (KF.args_gs _ _ _) ?_)
  unfold Builtin.«getset_descriptor.__get__» descrGet
  rw [dga_obj]
  refine wpAny_bind (wpAny_pure ?_)
  unfold descrGetter descrCheckInstance descrNameAndClass isInstance
  simp only [KF.owner_class]
  repeat lk
  refine ⟨Code.quiet_builtin _ (by decide +kernel), codeAny_builtin KF.entry_class ?_⟩
  unfold Builtin.«object.__class__» shownTypeOf
  repeat lk
  exact h
theorem attr {Q : Option Value → Shared → Prop} (X : K.In s.heap) (k : Knd K C) (p : ∃ o, s.heap.get? a = some o ∧ o.cls = .ref C) (h : Q (some (.ref C)) { s with toks := s.toks + 1 }) :
    wpAny (model prog w) A (getAttr? (.ref a) "__class__") Q E s := by
  obtain ⟨hh, g, d, t, os⟩ := s
  have L0 := ty (M := model prog w) p
  have L1 := looks_findIn (M := model prog w) X k.ga
  have L2 := looks_findIn (M := model prog w) X k.hk
  have L3 := found (M := model prog w) (a := a) X k
  have L4 := looks_mroIn (M := model prog w) X k.hb
  unfold getAttr? getAttrBy? getAttrBy
  refine wpAny_bind (wpAny_mkText (wpAny_bind (wpAny_attempt (wpAny_holding (wpAny_bind (L0.at (wpAny_bind (L1.at ?_))))))))
  dsimp only
  have hx : (Value.builtin "BaseException.__getattribute__" == Value.builtin "object.__getattribute__") = false := by decide +kernel
  rw [if_neg (by rw [hx, Bool.and_false]; exact Bool.false_ne_true)]
  unfold getAttrByItsOwn hookBefore
  refine wpAny_bind (L2.at (wpAny_bind (wpAny_attempt (wpAny_holding ?_))))
  unfold callGetattribute boundAndCalled
  rw [if_neg (show ¬ (false && onTheHeap (Value.builtin "BaseException.__getattribute__")) = true by decide)]
  refine wpAny_bind (wpAny_of_eq (F.attr_ValueError.ga.bind (.ref a)) ?_)
  have hk0 : builtinKind "BaseException.__getattribute__" = some .slot := by decide +kernel
  have hs0 : splitId "BaseException.__getattribute__" = some ("BaseException", "__getattribute__") := by decide +kernel
  have ha0 := F.args_bexc_ga (.ref a) (.str "__class__" t)
  refine wpAny_call (codeAny_call_builtin F.attr_ValueError.ga.plain F.entry_bexc_ga ?_)
  simp only [checkBuiltinCall, hk0, hs0]
  unfold isInstance
  refine wpAny_bind (wpAny_bind (L0.at (L4.at ?_)))
  rw [if_neg (by decide)]
  refine wpAny_of_eq ha0 ?_
  show wpAny _ A.in1 («object.__getattribute__» ⟨[.ref a, .str "__class__" t], []⟩) _ _ _
  unfold «object.__getattribute__» slotArgs attrName
  iterate 8 lk
  refine wpAny_bind (wpAny_pure (wpAny_bind (L0.at (wpAny_bind (L3.at ?_)))))
  dsimp only
  unfold bindTo
  refine wpAny_bind (wpAny_holding (wpAny_call (get (a := a) (C := C) X k p (show wpAny _ _ (ret (Value.ref C)) _ _ _ from wpAny_pure (handed_on rfl (wpAny_pure h))))))
theorem kit (k : Knd K C) : KitX K (.ref a) (.ref C) (fun h => ∃ o, h.get? a = some o ∧ o.cls = .ref C) where
  ty := fun _ _ _ p => ty p
  it := fun _ _ X _ => by
    obtain ⟨cd, hc⟩ := Option.isSome_iff_exists.mp k.cl
    unfold clsIn at hc
    split at hc
    · rename_i ho
      intro A' Q' E' s' kp q
      unfold isType loadHead
      exact wpAny_bind (wpAny_loadPart (kp _ _ (X _ _ ho)) (wpAny_pure q))
    · cases hc
  ne := fun h tp dd its n sl X htp => by
    obtain ⟨cd, hc⟩ := Option.isSome_iff_exists.mp k.cl
    refine Bool.eq_false_iff.mpr fun q => ?_
    obtain rfl : C = tp := Value.ref.inj (beq_iff_eq.mp q)
    unfold clsIn at hc
    split at hc
    · rename_i ho
      have z := (X _ _ ho).symm.trans htp
      cases z
    · cases hc
  ca := fun X p h => attr X k p h
end EX
section
variable {X : Cx}
noncomputable def clsV : Value → Option V
  | .ref c => some (.ref c)
  | .type n => some (.ty n)
  | _ => none
theorem clsV_rel {c : Value} {v : V} {u : Value} (h : clsV c = some v) (r : RelV v u) : u = c := by
  cases c <;> first
    | (cases h; exact r)
    | cases h
theorem call_isinstE : CallR X (.builtin "isinstance") (fun xs H Q => ∃ (a C : Addr) (c : Value) (v : V) (b : Bool), xs = [.ref a, v] ∧ clsV c = some v ∧ H a = some (ExcAt a (.ref C)) ∧ Knd X.K C ∧ PySem.W.kitOne X.K (.ref C) c = some b ∧ Q (.bl b) H) := by
  intro pins s σ H xs us Q I r h
  obtain ⟨a, C, c, v, b, rfl, hv, ha, k, e, q⟩ := h
  obtain ⟨u, w', rfl, ru, rw'⟩ := vals2 r
  cases ru
  obtain rfl := clsV_rel hv rw'
  obtain ⟨p, _⟩ := (show ObjOk X.prog X.w H s.heap a (ExcAt a (.ref C)) from I.hok a _ ha)
  exact PySem.W.kia_one (EX.kit k) I.kIn p e (fun z => nomatch z) fun tk => ⟨.bl b, H, I.tok tk, rfl, q⟩
end
end L2

set_option Elab.async false
set_option linter.all false
set_option maxRecDepth 100000
set_option maxHeartbeats 4000000

namespace L2
open PySem PySem.Spec PyProof.Rows
section
variable {X : Cx} {es : List Expr} {te : TE} {t : TA}
theorem pa_cC {c : Const} {j : Nat} {p : Pos} (ha : PE X (.Constant c j p) te) (hr : PA X es t) : PA X (.Constant c j p :: es) (tCons te t) := pa_cons ha hr rfl
theorem pa_cN {x : Str} {p : Pos} (ha : PE X (.Name x p) te) (hr : PA X es t) : PA X (.Name x p :: es) (tCons te t) := pa_cons ha hr rfl
theorem pa_cB {a b : Expr} {o : Operator} {p : Pos} (ha : PE X (.BinOp a o b p) te) (hr : PA X es t) : PA X (.BinOp a o b p :: es) (tCons te t) := pa_cons ha hr rfl
theorem pa_cU {a : Expr} {o : UnaryOp} {p : Pos} (ha : PE X (.UnaryOp o a p) te) (hr : PA X es t) : PA X (.UnaryOp o a p :: es) (tCons te t) := pa_cons ha hr rfl
theorem pa_cK {f : Expr} {as : List Expr} {ks : List Keyword} {p : Pos} (ha : PE X (.Call f as ks p) te) (hr : PA X es t) : PA X (.Call f as ks p :: es) (tCons te t) := pa_cons ha hr rfl
theorem pa_cS {a b : Expr} {p : Pos} (ha : PE X (.Subscript a b p) te) (hr : PA X es t) : PA X (.Subscript a b p :: es) (tCons te t) := pa_cons ha hr rfl
theorem pa_cT {as : List Expr} {k} {p : Pos} (ha : PE X (.Tuple as k p) te) (hr : PA X es t) : PA X (.Tuple as k p :: es) (tCons te t) := pa_cons ha hr rfl
end
end L2

set_option Elab.async false
set_option linter.all false
set_option maxRecDepth 100000
set_option maxHeartbeats 4000000

namespace L2
open PySem PySem.Spec PyProof.Rows
noncomputable def Itd (lo : Int) (n : Nat) : It where
  go := fun i _ => i < n
  stop := fun i _ => n ≤ i
  yld := fun i H x H' => x = .int (lo - i) ∧ H' = H
theorem size_down (a b : Int) : Builtin.Range.rangeSize a b (-1) = ((a - b).toNat : Int) := by
  unfold Builtin.Range.rangeSize
  rw [if_neg (by decide), show (-(-1 : Int)) = 1 from rfl, Int.ediv_one]
  split <;> (first | lia | omega)
theorem small_down {a b : Int} (ha : -(2 ^ 62) ≤ a) (ha' : a < 2 ^ 62) (hb : -(2 ^ 62) ≤ b) (hb' : b < 2 ^ 62) : Builtin.Range.small a b (-1) = true := by
  unfold Builtin.Range.small
  rw [size_down]
  simp only [Builtin.Range.rangeFitsLong, Bool.and_eq_true, Bool.or_eq_true, decide_eq_true_eq, beq_iff_eq, show ¬ ((-1 : Int) > 0) by decide, if_false]
  omega
theorem turn_down {P : Program} {w : World} {K : PySem.W.Frag} {tg : Expr} (it : Addr) (lo : Int) (n : Nat) : Turn P w K tg (Itd lo n) [it] it (fun i h => IsRangeIter h it (lo + (i : Nat) * (-1)) ((n : Int) - (i : Nat)) (-1)) where
  mem := by simp
  obj := fun i h st b hb => by
    obtain rfl : b = it := by simpa using hb
    exact ⟨_, st, fun v z => by
      have z' : Data.fields _ = Data.cell v := z
      cases z'⟩
  keep := fun i h h' st k => k it (by simp) _ st
  item := by
    intro X hP hw hK hc i pins s σ H E I hf st hg
    subst hP hw hK
    obtain ⟨f0, f1, f2, f3, f4, f5⟩ := hf it (by simp)
    have W := Walks.range (prog := X.prog) (w := X.w) (I.ok.hd hc) it lo (-1) n
    refine W.item i s _ _ hg st fun v h' tk hv st' kk => ?_
    obtain ⟨t, rfl⟩ := hv
    have I1 : Inv X pins σ H { s with heap := h', toks := tk } := I.turned (fun b o hb e => kk b o (by simpa using hb) e) f0 f1 f3 f4 f5
    refine ⟨_, rfl, go_of (s := { s with heap := h', toks := tk }) (n := "range_iterator") st' rfl rfl (by decide) ⟨.int (lo - i), H, I1, ⟨t, ?_⟩, ⟨rfl, rfl⟩, st', fun b hb => (hf b hb).1⟩⟩
    rw [show lo + (i : Int) * -1 = lo - i by (first | lia | omega)]
  done := by
    intro X hP hw hK hc i pins s σ H E I hf st hg
    subst hP hw hK
    obtain ⟨f0, f1, f2, f3, f4, f5⟩ := hf it (by simp)
    exact wpAny_pyNext_range_end (I.ok.hd hc) st (by have g : n ≤ i := hg; (first | lia | omega)) fun h' eb => ⟨rfl, I.turned (t' := s.toks) (fun b o hb e => eb b o hb e) f0 f1 f3 f4 f5⟩
  self := fun _ _ _ _ _ st h => wpAny_pyIter_rangeiter st h
section
variable {X : Cx} {tg : Expr}
theorem down_it {pins : List (Addr × Obj)} {σ : St} {H : Hp} {s : Shared} {R : It → Hp → Prop} {E : Value → Shared → Prop} {lo hi : Int} {t u v : Tok} {tk : Nat} (I : Inv X pins σ H s) (h1 : -(2 ^ 62) ≤ lo) (h2 : lo < 2 ^ 62) (h3 : -(2 ^ 62) ≤ hi) (h4 : hi < 2 ^ 62)
    (q : R (Itd lo (lo - hi).toNat) H) : wpAny (model X.prog X.w) X.A (pyIter (.ref s.heap.objs.size)) (PIE X pins σ tg R) E { s with heap := s.heap.push { cls := .type "range", data := .fields #[.int lo t, .int hi u, .int (-1) v] }, toks := tk } := by
  refine wpAny_pyIter_range (IsRange.new ..) (small_down h1 h2 h3 h4) ?_
  have I1 : Inv X pins σ H { s with heap := s.heap.push { cls := .type "range", data := .fields #[.int lo t, .int hi u, .int (-1) v] }, toks := tk } := I.kept fun b o e => Heap.get?_push_of_some _ e
  generalize hh : s.heap.push { cls := .type "range", data := .fields #[.int lo t, .int hi u, .int (-1) v] } = hp at I1 ⊢
  refine ⟨hp.objs.size, [hp.objs.size], _, _, H, rfl, I1.kept (t' := tk) fun b o e => Heap.get?_push_of_some _ e, turn_down _ lo (lo - hi).toNat, ?_, fun b hb => ?_, q⟩
  · show IsRangeIter _ _ (lo + ((0 : Nat) : Int) * (-1)) ((((lo - hi).toNat : Nat) : Int) - ((0 : Nat) : Int)) (-1)
    rw [show lo + ((0 : Nat) : Int) * (-1) = lo by simp, show ((((lo - hi).toNat : Nat) : Int) - ((0 : Nat) : Int)) = Builtin.Range.rangeSize lo hi (-1) by rw [size_down]; (first | lia | omega)]
    exact Heap.get?_push_size _ rfl
  · obtain rfl : b = hp.objs.size := by simpa using hb
    exact I1.fpOk (Nat.le_refl _) (I1.hok.fresh (Nat.le_refl _))
noncomputable def iRng3 (ta : TA) : TI := fun σ H R => ta σ H fun vs H1 => ∃ i j : Int, vs = [.int i, .int j, .int (-1)] ∧ (-(2 ^ 62) ≤ i ∧ i < 2 ^ 62 ∧ -(2 ^ 62) ≤ j ∧ j < 2 ^ 62) ∧ R (Itd i (i - j).toNat) H1
theorem pi_range3 {a b c : Expr} {ta : TA} {p pos : Pos} (hg : Gl X "range") (hm : X.mg "range" = none) (ha : PA X [a, b, c] ta) (hs : starEach [a, b, c] X.env = [(false, eval a X.env), (false, eval b X.env), (false, eval c X.env)] := by rfl) (hs2 : starEach [b, c] X.env = [(false, eval b X.env), (false, eval c X.env)] := by rfl) :
    PI X tg (.Call (.Name "range" p) [a, b, c] [] pos) (iRng3 ta) := by
  intro pins s σ H R I h
  refine Call_ (ld_blt I hg hm boot_range (PyProof.Rows.callWith_type1 (thn (ha pos pins s σ H _ I h) fun us s1 ⟨vs, H1, I1, r1, q1⟩ => ?_) (by rw [hs, hs2]) (by rw [hs2]; rfl)))
  obtain ⟨i, j, e, ⟨q1, q2, q3, q4⟩, q⟩ := q1
  subst e
  cases r1 with
  | cons r rr =>
    cases rr with
    | cons r' rr =>
      cases rr with
      | cons r'' rr =>
        cases rr
        obtain ⟨t, rfl⟩ := r
        obtain ⟨t', rfl⟩ := r'
        obtain ⟨t'', rfl⟩ := r''
        exact call_range_3 (by decide) (down_it I1 q1 q2 q3 q4 q) (Or.inl (PyProof.noPylong_of_log2 (by decide +kernel)))
end
theorem for_down {lo : Int} {n : Nat} {g : TG} {tb : TS} {D : Ends} {σ : St} {H : Hp} (Pv : Nat → St → Hp → Prop) (h0 : Pv 0 σ H)
    (hs : ∀ i σ H, i < n → Pv i σ H → g (.int (lo - i)) σ H fun σ2 H2 => tb { D with nx := Pv (i + 1), ct := Pv (i + 1), bk := D.nx } σ2 H2) (hd : ∀ σ H, Pv n σ H → D.nx σ H) :
    ∃ W : Nat → Nat → St → Hp → Prop, (∃ m, W 0 m σ H) ∧ ∀ i m σ H, W i m σ H →
      ((Itd lo n).stop i H ∧ D.nx σ H) ∨ ((Itd lo n).go i H ∧ ∃ N : St → Hp → Prop, (∀ σ' H', N σ' H' → ∃ m', m' < m ∧ W (i + 1) m' σ' H') ∧ ∀ x H', (Itd lo n).yld i H x H' → g x σ H' fun σ2 H2 => tb { D with nx := N, ct := N, bk := D.nx } σ2 H2) := by
  refine ⟨fun i m σ H => m = n - i ∧ i ≤ n ∧ Pv i σ H, ⟨n, by simp, Nat.zero_le _, h0⟩, ?_⟩
  rintro i m σ H ⟨rfl, hi, p⟩
  by_cases hlt : i < n
  · refine .inr ⟨hlt, Pv (i + 1), fun σ' H' p' => ⟨n - (i + 1), by (first | lia | omega), rfl, hlt, p'⟩, fun x H' y => ?_⟩
    obtain ⟨rfl, rfl⟩ := y
    exact hs i σ _ hlt p
  · obtain rfl : i = n := by (first | lia | omega)
    exact .inl ⟨Nat.le_refl _, hd σ H p⟩
end L2

set_option Elab.async false
set_option linter.all false
set_option maxRecDepth 100000
namespace L2
open PySem
section
variable {X : Cx} {N' : List Str} {scope : Scope} {x : Str} {px : Pos} {elt iter cd : Expr} {pos : Pos} {te : TE} {tc : TT} {wi : TI}

theorem ps_setCompf {i : Nat} {y : Str} {py spos : Pos} (S : CompSc X.N N' X.env.scope scope x) (hc : X.calm = true) (hi : PI X (.Name x px) iter wi) (ht : ∀ cl C s H fp, PT (cxComp X N' scope cl C s H fp) cd tc) (he : ∀ cl C s H fp, PE (cxComp X N' scope cl C s H fp) elt te)
    (hN : X.N.Nodup) (hy : X.N[i]? = some y) (hyl : X.env.scope.names.lookup y = some .local)
    (hsw : swapsWith (.ListComp elt [⟨.Name x px, iter, [cd], 0⟩] scope pos) (some (.Name y py)) spos.line X.env = pure true := by rfl)
    (hs : ∀ x, foldedSetIterable iter X.env x = pure x := by intro _; rfl) : PS X (.Assign [.Name y py] (.ListComp elt [⟨.Name x px, iter, [cd], 0⟩] scope pos) spos) (tAsg (tCompF wi tc te) (gName i)) :=
  ps_setCompx (at' := fun σ Q => compAtF tc te σ Q) S hc hi (fun cl C s H fp => ptl_one (ht cl C s H fp)) he (fun _ _ _ _ h => h) hN hy hyl hsw hs
end

section
variable {X : Cx}
end
theorem take_filter {α : Type} (p : α → Bool) (l : List α) (i : Nat) (v : α) (h : l[i]? = some v) : (l.take (i + 1)).filter p = (l.take i).filter p ++ (if p v then [v] else []) := by
  rw [List.take_add_one, h, List.filter_append]
  cases hp : p v <;> simp [hp]
theorem filter_take_len {α : Type} (p : α → Bool) (l : List α) (i : Nat) : ((l.take i).filter p).length ≤ i := by
  have h1 := List.length_filter_le p (l.take i)
  rw [List.length_take] at h1
  (first | lia | omega)
theorem cutL_take (w : List Nat) (k : Nat) : cutL w none (some (k : Int)) = w.take k := by
  unfold cutL
  rw [HT.sIx_nat, HT.sIx_none, List.drop_zero, Nat.sub_zero]
  by_cases h : k ≤ w.length
  · rw [Nat.min_eq_left h]
  · rw [Nat.min_eq_right (by (first | lia | omega)), List.take_length, List.take_of_length_le (by (first | lia | omega))]
theorem compf_text {l : List Nat} {tc : TT} {te : TE} {σ : St} {H : Hp} {Q : VK} (p : Nat → Bool) (hn : l.length ≤ sizeLine)
    (he : ∀ (i : Nat) c H', l[i]? = some c → Same H H' → ∀ N : Bool → Hp → Prop, (∀ H'', Same H' H'' → N (p c) H'') → tc (some (T [c]) :: σ) H' N)
    (hv : ∀ x H' (N : V → Hp → Prop), N x H' → te (some x :: σ) H' N)
    (hq : ∀ D H', H D = none → Same H H' → H' D = some (.lst (((l.filter p).map fun c => [c]).map T)) → Q (.ref D) H') :
    compAtF tc te σ Q (Itx l) H := by
  intro D hD
  refine ⟨fun i m ys H2 => m = l.length - i ∧ i ≤ l.length ∧ ys = (((l.take i).filter p).map fun c => [c]).map T ∧ Same H H2 ∧ H2 D = some (.lst ys), ⟨l.length, rfl, Nat.zero_le _, rfl, fun b o e => ?_, upd_same⟩, ?_⟩
  · rw [upd_ne (ne_of_none e hD)]
    exact e
  · rintro i m ys H2 ⟨rfl, hi, rfl, hs, hd⟩
    by_cases hlt : i < l.length
    · have hx : l[i]? = some l[i] := List.getElem?_eq_getElem hlt
      refine .inr ⟨hlt, by have := filter_take_len p l i; rw [List.length_map, List.length_map]; (first | lia | omega), fun v H' => v = T [l[i]] ∧ p l[i] = true ∧ Same H2 H', fun v H' ⟨ev, hp, hs'⟩ => ⟨hs' D _ hd, l.length - (i + 1), by (first | lia | omega), rfl, hlt, ?app, fun b o e => ?kp, upd_same⟩,
        fun H' => p l[i] = false ∧ Same H2 H', fun H' ⟨hp, hs'⟩ => ⟨l.length - (i + 1), by (first | lia | omega), rfl, hlt, ?skp, fun b o e => hs' b o (hs b o e), hs' D _ hd⟩, fun y H' hy => ?stp⟩
      case app =>
        rw [ev, take_filter p l i _ hx, hp, List.map_append, List.map_append]
        rfl
      case kp =>
        rw [upd_ne (ne_of_none e hD)]
        exact hs' b o (hs b o e)
      case skp =>
        rw [take_filter p l i _ hx, hp]
        simp
      case stp =>
        obtain ⟨rfl, c, hc, rfl⟩ := hy
        have e4 : c = l[i] := by rw [hx] at hc; exact (Option.some.inj hc).symm
        refine he i c _ hc hs _ fun H'' h'' => ?_
        by_cases hp : p c = true
        · rw [if_pos hp]
          exact hv _ H'' _ ⟨by rw [e4], e4 ▸ hp, h''⟩
        · rw [if_neg hp]
          exact ⟨by rw [← e4]; simpa using hp, h''⟩
    · have e : i = l.length := by (first | lia | omega)
      subst e
      rw [List.take_length] at hd
      exact .inl ⟨Nat.le_refl _, hq D H2 hD hs hd⟩
theorem comp_text {l : List Nat} {te : TE} {σ : St} {H : Hp} {Q : VK} (f : Nat → V) (hn : l.length ≤ sizeLine)
    (he : ∀ (i : Nat) c H', l[i]? = some c → Same H H' → ∀ N : V → Hp → Prop, (∀ H'', Same H' H'' → N (f c) H'') → te (some (T [c]) :: σ) H' N)
    (hq : ∀ D H', H D = none → Same H H' → H' D = some (.lst (l.map f)) → Q (.ref D) H') :
    compAt te σ Q (Itx l) H := by
  intro D hD
  refine ⟨fun i m ys H2 => m = l.length - i ∧ i ≤ l.length ∧ ys = (l.take i).map f ∧ Same H H2 ∧ H2 D = some (.lst ys), ⟨l.length, rfl, Nat.zero_le _, rfl, fun b o e => ?_, upd_same⟩, ?_⟩
  · rw [upd_ne (ne_of_none e hD)]
    exact e
  · rintro i m ys H2 ⟨rfl, hi, rfl, hs, hd⟩
    by_cases hlt : i < l.length
    · have hx : l[i]? = some l[i] := List.getElem?_eq_getElem hlt
      refine .inr ⟨hlt, by rw [List.length_map, List.length_take]; (first | lia | omega), fun v H' => v = f l[i] ∧ Same H2 H', fun v H' ⟨ev, hs'⟩ => ⟨hs' D _ hd, l.length - (i + 1), by (first | lia | omega), rfl, hlt, ?app, fun b o e => ?kp, upd_same⟩, fun y H' hy => ?stp⟩
      case app =>
        rw [ev, List.take_add_one, hx, List.map_append]
        rfl
      case kp =>
        rw [upd_ne (ne_of_none e hD)]
        exact hs' b o (hs b o e)
      case stp =>
        obtain ⟨rfl, c, hc, rfl⟩ := hy
        have e4 : c = l[i] := by rw [hx] at hc; exact (Option.some.inj hc).symm
        exact he i c _ hc hs _ fun H'' h'' => ⟨by rw [e4], h''⟩
    · have e : i = l.length := by (first | lia | omega)
      subst e
      rw [List.take_length] at hd
      exact .inl ⟨Nat.le_refl _, hq D H2 hD hs hd⟩
end L2

set_option autoImplicit false
set_option linter.all false
set_option maxRecDepth 100000
namespace SR
open PySem PyProof.Rows
set_option genInjectivity false in
structure SB (kd : SortKind) (z : Array Keyed) (st : SortSt) : Prop where
  prm : (arrOf st).Perm z
  knd : kindOf st = kd
  ffl : failedOf st = none
section
variable {prog : Program} {w : World} {A : Around} {E : Value → Shared → Prop} {s : Shared} {z : Array Keyed} {κ : KeyKind} {kd : SortKind}
end
end SR

set_option autoImplicit false
set_option linter.all false
set_option maxRecDepth 100000
namespace SR
open PySem PyProof.Rows
noncomputable def gal' : Bool → Keyed → Array Keyed → Nat → Nat → Nat → StateT SortSt Sem (Option Nat) := sortPriv% PySem.Builtin.gallop
section
variable {prog : Program} {w : World} {A : Around} {E : Value → Shared → Prop} {s : Shared} {z : Array Keyed} {κ : KeyKind} {kd : SortKind}
end
end SR

set_option autoImplicit false
set_option linter.all false
set_option maxRecDepth 100000
namespace SR
open PySem PyProof.Rows
noncomputable def kf (κ : KeyKind) (p : Keyed) : κ.α := (κ.keyOf p.1).getD κ.dflt
section
variable {prog : Program} {w : World} {A : Around} {E : Value → Shared → Prop} {s : Shared} {z : Array Keyed} {κ : KeyKind} {kd : SortKind}
end
end SR

set_option autoImplicit false
set_option linter.all false
set_option maxRecDepth 100000
namespace SR
open PySem PyProof.Rows
section
variable {prog : Program} {w : World} {A : Around} {E : Value → Shared → Prop} {s : Shared} {κ : KeyKind} {kd : SortKind}
end
end SR

set_option autoImplicit false
set_option linter.all false
set_option maxRecDepth 100000
namespace SR
open PySem PyProof.Rows
noncomputable def rt (a : Array Keyed) (n : Nat) : List Keyed := (a.toList.take n).reverse
section
variable {prog : Program} {w : World} {A : Around} {E : Value → Shared → Prop} {s : Shared} {κ : KeyKind} {kd : SortKind}
noncomputable abbrev HiSt := Option (Array Keyed) × Nat × Nat × Array Keyed × Nat × Nat × Nat
noncomputable def hi3 (a b o : Array Keyed) (i j g p q : Nat) : StateT SortSt Sem (ForInStep HiSt) := do
  let x ← elem' a (i - 1)
  if (i - 1 == 0) = true then pure (ForInStep.done (some (a.extract 0 (i - 1) ++ b.extract 0 j ++ (o.push x).reverse), i - 1, j, o.push x, g, p, q))
  else if (decide (p < 7) && decide (q < 7)) = true then pure (ForInStep.done (none, i - 1, j, o.push x, g, p, q)) else pure (ForInStep.yield (none, i - 1, j, o.push x, g, p, q))
noncomputable def hi2 (a b o : Array Keyed) (i j g p q : Nat) : StateT SortSt Sem (ForInStep HiSt) := do
  let x ← elem' b j
  if (j == 1) = true then pure (ForInStep.done (some (b.extract 0 j ++ a.extract 0 i ++ (o.push x).reverse), i, j, o.push x, g, p, q))
  else do
    let u ← elem' a (i - 1)
    let z ← gal' true u b 0 j (j - 1)
    match z with
    | some y =>
      if j - y > 0 then
        if (y == 1) = true then pure (ForInStep.done (some (b.extract 0 y ++ a.extract 0 i ++ (o.push x ++ (b.extract y j).reverse).reverse), i, y, o.push x ++ (b.extract y j).reverse, g, p, j - y))
        else if (y == 0) = true then pure (ForInStep.done (some (a.extract 0 i ++ b.extract 0 y ++ (o.push x ++ (b.extract y j).reverse).reverse), i, y, o.push x ++ (b.extract y j).reverse, g, p, j - y))
        else hi3 a b (o.push x ++ (b.extract y j).reverse) i y g p (j - y)
      else hi3 a b (o.push x) i j g p (j - y)
    | _ => pure (ForInStep.done (some (a.extract 0 i ++ b.extract 0 j ++ (o.push x).reverse), i, j, o.push x, g, p, q))
end
end SR

set_option autoImplicit false
set_option linter.all false
set_option maxRecDepth 100000
namespace SR
open PySem PyProof.Rows
section
variable {κ : KeyKind} {kd : SortKind}
end
end SR

set_option autoImplicit false
set_option linter.all false
set_option maxRecDepth 100000
namespace SR
open PySem PyProof.Rows
section
variable {prog : Program} {w : World} {A : Around} {E : Value → Shared → Prop} {s : Shared} {z : Array Keyed} {κ : KeyKind} {kd : SortKind}
end
end SR

set_option autoImplicit false
set_option linter.all false
set_option maxRecDepth 100000
namespace SR
open PySem PyProof.Rows
section
variable {κ : KeyKind} {kd : SortKind}
end
section
variable {prog : Program} {w : World} {A : Around} {E : Value → Shared → Prop} {s : Shared} {z : Array Keyed} {κ : KeyKind} {kd : SortKind}
end
end SR

set_option autoImplicit false
set_option linter.all false
set_option maxRecDepth 100000
set_option maxHeartbeats 200000
namespace SR
open PySem PyProof.Rows PySem.Spec
section
variable {prog : Program} {w : World} {A : Around} {E : Value → Shared → Prop} {s : Shared}
end
end SR

set_option Elab.async false
set_option linter.all false
set_option maxRecDepth 100000
namespace L2
open PySem PyProof.Rows PySem.Spec
section
variable {X : Cx}
end
end L2

set_option Elab.async false
set_option linter.all false
set_option maxRecDepth 100000
namespace L2
open PySem PyProof.Rows PySem.Spec
section
variable {X : Cx}
theorem vals_countP {x : V} : ∀ {xs : List V} {us : List Value}, Vals xs us → xs.all flatV = true → us.countP (eqU x) = xs.countP (fun y => eqV y x)
  | _, _, .nil, _ => rfl
  | y :: xs, u :: us, .cons r t, f => by
    rw [List.all_cons, Bool.and_eq_true] at f
    rw [List.countP_cons, List.countP_cons, vals_countP t f.2, eqU_of r f.1]
theorem mt_countV : MtR X "list.count" (fun x xs H Q => ∃ (p : Addr) (ys : List V) (a : V), x = .ref p ∧ xs = [a] ∧ SqL X.K H p ys ∧ ys.all flatV = true ∧ flatV a = true ∧ Q (.int ((ys.countP (fun y => eqV y a) : Nat) : Int)) H) := by
  intro pins s σ H x xs v us Q I rx rs h
  obtain ⟨p, ys, a, rfl, rfl, hq, hf, ha, q⟩ := h
  cases rx
  obtain ⟨u, rfl, ru⟩ := vals1 rs
  obtain ⟨its, r, ⟨⟨cls, dd, data, sl⟩, n, ho, hc, hdd, hd⟩, hz⟩ := I.list hq
  simp only at hc hd
  subst hc hd
  refine call_meets PySem.F.slot_list_count ⟨_, ho, rfl⟩ PySem.F.entry_list_count (PySem.F.args_list_count_2 _ _) (SeqAt.list_countAt p its.toArray n dd sl u (eqU a))
    ⟨ho, fun y hy => mem_eqAt ru ha r hf y (by simpa using hy), ⟨.int ((ys.countP (fun y => eqV y a) : Nat) : Int), H, I.tok _, ⟨s.toks, by rw [← vals_countP r hf]⟩, q⟩⟩
theorem mt_indexV : MtR X "list.index" (fun x xs H Q => ∃ (p : Addr) (ys : List V) (a y : V) (j : Nat), x = .ref p ∧ xs = [a] ∧ SqL X.K H p ys ∧ ys.all flatV = true ∧ flatV a = true ∧ ys[j]? = some y ∧ eqV y a = true ∧ (∀ i z, i < j → ys[i]? = some z → eqV z a = false) ∧ Q (.int (j : Nat)) H) := by
  intro pins s σ H x xs v us Q I rx rs h
  obtain ⟨p, ys, a, y, j, rfl, rfl, hq, hf, ha, hj, hy, hno, q⟩ := h
  cases rx
  obtain ⟨u, rfl, ru⟩ := vals1 rs
  obtain ⟨its, r, ⟨⟨cls, dd, data, sl⟩, n, ho, hc, hdd, hd⟩, hz⟩ := I.list hq
  simp only at hc hd
  subst hc hd
  have hlen := r.length
  have hjl : j < ys.length := (List.getElem?_eq_some_iff.mp hj).1
  have hs : sizeLine = 16777216 := sizeLine_eq
  have hfa : ∀ z ∈ ys, flatV z = true := List.all_eq_true.mp hf
  have eu : ∀ (i : Nat) (z : V) (w : Value), ys[i]? = some z → its[i]? = some w → eqU a w = eqV z a := fun i z w h1 h2 => by
    obtain ⟨w', g1, g2⟩ := r.get h1
    rw [h2] at g1
    cases g1
    exact eqU_of g2 (hfa z (List.mem_of_getElem? h1))
  refine call_meets PySem.F.slot_list_index ⟨_, ho, rfl⟩ PySem.F.entry_list_index (PySem.F.args_list_index_2 _ _) (SeqAt.list_indexAt p its.toArray n dd sl u (eqU a) j (by rw [List.size_toArray]; (first | lia | omega)) (by (first | lia | omega)) ?_ ?_)
    ⟨ho, fun y hy => mem_eqAt ru ha r hf y (by simpa using hy), ⟨.int (j : Nat), H, I.tok _, ⟨_, rfl⟩, q⟩⟩
  · have hu : its[j]? = some its.toArray[j] := by simp
    rw [eu j y _ hj hu]
    exact hy
  · intro m hm hmj
    rw [List.size_toArray] at hm
    have hu : its[m]? = some its.toArray[m] := by simp
    have hl : ys[m]? = some ys[m] := List.getElem?_eq_getElem (by (first | lia | omega))
    rw [eu m _ _ hl hu]
    exact hno m _ hmj hl
theorem call_sumX (hc : X.calm = true) : CallR X (.builtin "sum") (fun xs H Q => ∃ (p : Addr) (ns : List Int), xs = [.ref p] ∧ SqL X.K H p (ns.map V.int) ∧ Q (.int ns.sum) H) := by
  intro pins s σ H xs us Q I r h
  obtain ⟨p, ns, rfl, hq, q⟩ := h
  obtain ⟨u, rfl, ru⟩ := vals1 r
  cases ru
  obtain ⟨its, rv, pl, _⟩ := I.list hq
  have hia := intsAre_of rv
  have hnum := hia.numsOf
  obtain ⟨ys, hx⟩ := hia.allInts.items
  have hl := pl.isList
  rw [hx] at hl
  have e : preSum (numAt ys) ys.size = ns.sum := by
    rw [preSum_eq, List.take_of_length_le (by simp)]
    rw [← hnum, show its = its.toArray.toList from by simp, hx, nums_intItems]
  exact sum_intListG (I.ok.hd hc) hl fun h' tk t' hk => ⟨.int ns.sum, H, I.kept hk, ⟨t', by rw [e]⟩, q⟩
end
end L2

namespace L2
open PySem PyProof.Rows PySem.Spec
section
variable {X : Cx}
theorem mt_countK (K : PySem.W.Frag) (hK : X.K = K) : MtR X "list.count" (fun x xs H Q => ∃ (p : Addr) (ys : List V) (a : V), x = .ref p ∧ xs = [a] ∧ SqL K H p ys ∧ ys.all flatV = true ∧ flatV a = true ∧ Q (.int ((ys.countP (fun y => eqV y a) : Nat) : Int)) H) := by
  subst hK
  exact mt_countV
theorem mt_indexK (K : PySem.W.Frag) (hK : X.K = K) : MtR X "list.index" (fun x xs H Q => ∃ (p : Addr) (ys : List V) (a y : V) (j : Nat), x = .ref p ∧ xs = [a] ∧ SqL K H p ys ∧ ys.all flatV = true ∧ flatV a = true ∧ ys[j]? = some y ∧ eqV y a = true ∧ (∀ i z, i < j → ys[i]? = some z → eqV z a = false) ∧ Q (.int (j : Nat)) H) := by
  subst hK
  exact mt_indexV
theorem call_isinstEK (K : PySem.W.Frag) (hK : X.K = K) : CallR X (.builtin "isinstance") (fun xs H Q => ∃ (a C : Addr) (c : Value) (v : V) (b : Bool), xs = [.ref a, v] ∧ clsV c = some v ∧ H a = some (ExcAt a (.ref C)) ∧ Knd K C ∧ PySem.W.kitOne K (.ref C) c = some b ∧ Q (.bl b) H) := by
  subst hK
  exact call_isinstE
theorem pe_bmK (K : PySem.W.Frag) (hK : X.K = K) {o e : Expr} {es : List Expr} {to : TE} {t : TA} {name : Str} {apos cpos : Pos} {T id : String} {r : V → List V → Hp → VK → Prop}
    (pa : PlainAttrs T) (slot : Slot T name id) (hty : typeOf (.builtin id) = pure (.type "method_descriptor")) (hm : MtR X id r) (ho : PE X o to) (ha : PA X (e :: es) t)
    (b1 : attributeBase o name X.env (eval o X.env) = eval o X.env := by rfl)
    (b2 : ((backTo cpos (starEach (e :: es) X.env)).all (fun x => !x.1) && (backToKw cpos (keywordEach [] X.env)).all (fun x => x.1.isSome) && decide ((e :: es).length + ([] : List Keyword).length + (if ([] : List Keyword).isEmpty then 0 else 1) < 30)) = true := by rfl)
    (b3 : (apos.endLine == cpos.line) = true := by rfl) (b4 : starEach (e :: es) X.env = (false, eval e X.env) :: starEach es X.env := by rfl) (b5 : (backTo cpos (starEach es X.env)).any (·.1) = false := by rfl) :
    PE X (.Call (.Attribute o name apos) (e :: es) [] cpos) (tBM K T r to t) := by
  subst hK
  exact pe_bm pa slot hty hm ho ha b1 b2 b3 b4 b5
end
end L2

set_option Elab.async false
set_option linter.all false
set_option maxRecDepth 100000
set_option Elab.async false
set_option linter.all false
set_option maxRecDepth 100000
namespace L2
open PySem PySem.Spec PyProof.Rows

end L2

namespace L2
open PySem PySem.Spec PyProof.Rows

section
variable (P : Program) (w : World)
end

section
variable {P : Program} {w : World} {H H' : Hp} {h h' : Heap} {a : Addr} {o : HO}
end

section
variable {P : Program} {w : World} {H : Hp} {h h' : Heap} {x e : Addr} {o' : HO}
end

section
variable {fs fs' ex ex' : List Addr} {H H1 H2 : Hp} {h h1 h2 h' : Heap} {a x e : Addr} {o : HO}
end

end L2

namespace L2
open PySem PySem.Spec PyProof.Rows

section
variable {X : Cx} {pins : List (Addr × Obj)} {σ : List (Option V)} {H H' : Hp} {s : Shared} {h' : Heap}

end

end L2

namespace L2
open PySem PySem.Spec PyProof.Rows
section
variable {X : Cx}

variable {a b : Expr} {ta tb : TE} {pos : Pos}
variable {tA tB' : TT} {rest : List Expr}
end
end L2

namespace L2
open PySem PySem.Spec PyProof.Rows

section
variable {X : Cx} {pins : List (Addr × Obj)} {σ : St} {H : Hp} {s : Shared} {a : Addr} {xs ys : List V}
end

section
variable {X : Cx} {pins : List (Addr × Obj)} {σ : St} {H : Hp} {s : Shared} {E : Value → Shared → Prop}
end

section
variable {X : Cx} {st : Stmt} {rest : List Stmt} {t u : TS} {e : Expr} {te : TE} {pos : Pos}
end

section
variable {X : Cx} {pos : Pos}
end

section
variable {X : Cx} {pos : Pos}
end

end L2

namespace L2
open PySem PySem.Spec PyProof.Rows
section
variable {X : Cx} {tg : Expr}
end

end L2

namespace L2
open PySem PySem.Spec PyProof.Rows

section
variable {X : Cx} {a b c : Expr} {ta tb tc : TE} {pos : Pos}

end

section
variable {X : Cx} {a b c : Expr} {ta tb tc : TE} {pos : Pos}
end
end L2

namespace L2
open PySem PySem.Spec PyProof.Rows

section
variable {prog : Program} {w : World} {A : Around} {E : Value → Shared → Prop} {s : Shared} {K : PySem.W.Frag} {x dx C f : Addr} {mA : Str → Option Value} {name : Str} {v : Value}

end

section
variable {P : Program} {w : World} {H H' : Hp} {h h' : Heap} {a C dx : Addr} {fs fs' : List (Str × V)}
end

section
variable {X : Cx} {pins : List (Addr × Obj)} {σ : St} {H : Hp} {s : Shared} {a C dx : Addr} {fs : List (Str × V)} {f : Str} {v : V} {A : Around} {E : Value → Shared → Prop}

end

section
variable {X : Cx} {o e value : Expr} {f : Str} {pos pos' tpos : Pos} {ta tv : TE}
end

section
variable {X : Cx} {pins : List (Addr × Obj)} {σ : St} {H : Hp} {s : Shared} {A : Around} {E : Value → Shared → Prop} {Q : Value → Shared → Prop} {c : Value} {b : Bool}
end
end L2

namespace L2
open PySem PySem.Spec PyProof.Rows

section
variable {X : Cx} {e : Expr} {es : List Expr} {te : TE} {t : TA} {pos : Pos}
end

section
variable {X : Cx} {pins : List (Addr × Obj)} {σ : St} {H : Hp} {s s' : Shared}
end

section
variable {X : Cx} {CX : CXT} {k : Nat} {f C : Addr} {fd : FuncData} {ps : List Str} {sp : Sp} {dvs : List V} {ds : List Value} {E : XK} {x m : Str} {p pos apos : Pos} {e o : Expr} {es : List Expr} {ta : TE} {t : TA}

end

section
variable {X : Cx} {CX : CXT} {k : Nat} {f C : Addr} {fd : FuncData} {ps ks : List Str} {sp : Sp} {E : XK} {x m : Str} {p pos apos kpos : Pos} {e o : Expr} {es : List Expr} {kws : List Keyword} {te ta : TE} {t tk : TA} {nm : Option Str}
variable {g : List Value → List Value → List Value} {gV : List V → List V → List V}
end

end L2

namespace L2
open PySem PySem.Spec PyProof.Rows
section
variable {X : Cx} {x : Str} {p pos : Pos} {e : Expr} {es : List Expr} {t : TA} {id T : String} {r : List V → Hp → VK → Prop}

end
end L2

namespace L2
open PySem PySem.Spec PyProof.Rows

section
variable {κ : Type} [DecidableEq κ]
end


noncomputable abbrev KT (H : Hp) : List (List Key × V) → List (List Key × Addr × Value) → Prop := Paired fun p q => p.1 = q.1 ∧ H q.2.1 = some (.tup (p.1.map kV)) ∧ RelV p.2 q.2.2
section
variable {P : Program} {w : World} {H : Hp} {h : Heap} {a : Addr}
end

section
variable {X : Cx} {pins : List (Addr × Obj)} {σ : St} {H : Hp} {s : Shared} {a : Addr} {y v : V} {u r : Value} {o : Option V} {A : Around} {E : Value → Shared → Prop}

end

section
variable {X : Cx} {pins : List (Addr × Obj)} {σ : St} {H : Hp} {s : Shared} {a : Addr} {kvs : List (Key × V)} {k : Key} {u : Value} {A : Around} {E : Value → Shared → Prop}
end


section
variable {X : Cx} {o i e value : Expr} {pos pos' tpos : Pos} {td ty tv : TE}
end


section
variable {X : Cx} {pos : Pos}
end

section
variable {X : Cx} {pins : List (Addr × Obj)} {σ : St} {H : Hp} {s : Shared} {a : Addr} {y d : V} {u r : Value} {o : Option V} {A : Around} {E : Value → Shared → Prop}
end

section
variable {X : Cx} {o e f : Expr} {apos cpos : Pos} {td ty tx : TE}
end

section
variable {X : Cx} {pins : List (Addr × Obj)} {σ : St} {H : Hp} {s : Shared} {a : Addr} {kvs : List (Key × V)} {A : Around} {E : Value → Shared → Prop}
end


section
variable {X : Cx} {pins : List (Addr × Obj)} {σ : St} {H : Hp} {s : Shared} {a : Addr} {y : V} {u : Value} {A : Around} {E : Value → Shared → Prop}
end
end L2

namespace Att
open PySem PySem.W PySem.Calls PyProof.Rows

section
variable {prog : Program} {w : World} {A : Around} {E : Value → Shared → Prop} {s : Shared} {K : Frag}

end
end Att

namespace L2
open PySem PySem.Spec PyProof.Rows

end L2

namespace L2
open PySem PySem.Spec PyProof.Rows

end L2

namespace L2
open PySem PySem.Spec PyProof.Rows

section
variable {P : Program} {w : World} {K : PySem.W.Frag} {mg : Str → Option Value} {base : Heap}
end
section
variable {X : Cx}
end

section
variable {κ : Type} [DecidableEq κ]
end
end L2


set_option Elab.async false
set_option linter.all false
set_option maxRecDepth 100000
set_option maxHeartbeats 400000
namespace L2
open PySem PySem.Spec PyProof.Rows
namespace RT
noncomputable def obj (x : Str) (t : Tok) (i : Int) : Obj := { cls := .type "reversed", data := .fields #[.str x t, rawInt i] }
noncomputable def Is (h : Heap) (a : Addr) (x : Str) (t : Tok) (i : Int) : Prop := ∃ o, h.get? a = some o ∧ o.cls = .type "reversed" ∧ o.data = .fields #[.str x t, rawInt i]
section
variable {prog : Program} {w : World} {A : Around} {E : Value → Shared → Prop} {s : Shared}
end
section
variable {prog : Program} {w : World} {A : Around} {E : Value → Shared → Prop} {s : Shared}
end
end RT
section
variable {X : Cx}
end
end L2

set_option Elab.async false
set_option linter.all false
set_option maxRecDepth 100000
namespace L2
open PySem PySem.Spec PyProof.Rows
section
variable {X : Cx}
end
end L2
namespace L2
open PySem PySem.Spec PyProof.Rows
section
variable {X : Cx}
end
end L2

set_option Elab.async false
set_option linter.all false
set_option maxRecDepth 100000
set_option maxHeartbeats 4000000
namespace L2
open PySem PySem.Spec PyProof.Rows
section
variable {X : Cx}
end
namespace SE
section
variable {prog : Program} {w : World} {A : Around} {E : Value → Shared → Prop} {s : Shared}
end
end SE
section
variable {X : Cx}
end
end L2

set_option Elab.async false
set_option linter.all false
set_option maxRecDepth 100000
set_option maxHeartbeats 4000000
namespace L2
open PySem PyProof.Rows PySem.Spec
theorem on1 {α : Type} {C : List α → Prop} {us : List α} (h : us.length = 1) (k : ∀ a, C [a]) : C us := match us, h with | [a], _ => k a
theorem on2 {α : Type} {C : List α → Prop} {us : List α} (h : us.length = 2) (k : ∀ a b, C [a, b]) : C us := match us, h with | [a, b], _ => k a b
theorem on3 {α : Type} {C : List α → Prop} {us : List α} (h : us.length = 3) (k : ∀ a b c, C [a, b, c]) : C us := match us, h with | [a, b, c], _ => k a b c
theorem on4 {α : Type} {C : List α → Prop} {us : List α} (h : us.length = 4) (k : ∀ a b c d, C [a, b, c, d]) : C us := match us, h with | [a, b, c, d], _ => k a b c d
theorem on5 {α : Type} {C : List α → Prop} {us : List α} (h : us.length = 5) (k : ∀ a b c d e, C [a, b, c, d, e]) : C us := match us, h with | [a, b, c, d, e], _ => k a b c d e
section
variable {X : Cx}
theorem pss_wk {st : List Stmt} {t t' : TS} (h : PSs X st t) (hw : ∀ (D : Ends) (σ : St) (H : Hp), t' D σ H → t D σ H) : PSs X st t' := fun pins s σ H D I q => h pins s σ H D I (hw D σ H q)
end
end L2

set_option Elab.async false
set_option linter.all false
set_option maxRecDepth 100000
namespace L2
open PySem PyProof.Rows
section
variable {X : Cx} {pins : List (Addr × Obj)} {σ : List (Option V)} {H H' : Hp} {s : Shared}
end
section
variable {X : Cx} {tg : Expr}
end
end L2
namespace L2
open PySem PyProof.Rows
section
variable {X : Cx} {o : Expr} {td : TE} {apos cpos : Pos}
end
end L2
namespace L2
open PySem PyProof.Rows PySem.Spec
section
variable {X : Cx}
end
end L2

set_option Elab.async false
set_option linter.all false
set_option maxRecDepth 100000
namespace L2
open PySem PyProof.Rows
set_option genInjectivity false in
structure CalF (P : Program) (w : World) (K : PySem.W.Frag) (mg : Str → Option Value) (base : Heap) (CX : CXT) (f : Addr) (k : Nat) (ps : List Str) (sp : Sp) : Prop where
  ex : ∃ fd : FuncData, FnOk P w K mg base CX k f fd ps sp ∧ PySem.W.keepIn K (.ref f) = true ∧ Binds K fd ps []
theorem Cal.val {P : Program} {w : World} {K : PySem.W.Frag} {mg : Str → Option Value} {base : Heap} {CX : CXT} {x : Str} {k : Nat} {ps : List Str} {sp : Sp} (c : Cal P w K mg base CX x k ps sp) : ∃ f, mg x = some (.ref f) ∧ CalF P w K mg base CX f k ps sp := by
  obtain ⟨f, fd, F, hm, hk, hb⟩ := c.ex
  exact ⟨f, hm, ⟨fd, F, hk, hb⟩⟩
noncomputable def tCallL (f : Addr) (sp : Sp) (E : XK) (tf : TE) (t : TA) : TE := fun σ H Q => tf σ H fun x H1 => x = .ref f ∧ tCall sp [] E t σ H1 Q
section
variable {X : Cx}
theorem pe_calL {CX : CXT} {x : Str} {j k : Nat} {ps : List Str} {sp : Sp} {E : XK} {e : Expr} {es : List Expr} {t : TA} {tf : TE} {p pos : Pos} {f : Addr} (c : CalF X.prog X.w X.K X.mg X.base CX f j ps sp) (hr : Room k X.A) (hx : Passes CX X E) (hf : PE X (.Name x p) tf) (ha : PA X (e :: es) t)
    (hjk : j ≤ k) (he : starEach (e :: es) X.env = (false, eval e X.env) :: starEach es X.env := by rfl) (hpl : (backTo pos (starEach es X.env)).any (·.1) = false := by rfl) :
    PE X (.Call (.Name x p) (e :: es) [] pos) (tCallL f sp E tf t) := by
  obtain ⟨fd, F, hk, hb⟩ := c.ex
  intro pins s σ H Q I h
  refine wpAny_Call_Name_kw (thn (hf pins s σ H _ I h) fun v s1 ⟨y, H1, I1, r, ey, q⟩ => ?_)
  subst ey
  obtain rfl : v = Value.ref f := r
  refine PySem.W.callWith_K (h₀ := X.base) I1.ok.mod.kin hk (thn (ha pos pins s1 σ H1 _ I1 q) fun us s2 ⟨vs, H2, I2, r2, q2⟩ => ⟨I2.kIn, ?_⟩) he hpl
  exact run_fn F (hr.mono hjk) hb .nil hx I2 r2 q2
end
end L2
namespace L2
open PySem PyProof.Rows PySem.Spec
section
variable {X : Cx}
end
end L2
namespace L2
open PySem PyProof.Rows PySem.Spec
section
variable {X : Cx}
end
end L2

set_option Elab.async false
set_option linter.all false
namespace L2
open PySem
section
variable {X : Cx}
end
end L2

set_option Elab.async false
set_option linter.all false
set_option maxRecDepth 100000
namespace L2
open PySem PyProof.Rows
section
variable {X : Cx}
theorem call_max2T (hc : X.calm = true) : CallR X (.builtin "max") (fun xs H Q => ∃ a b : List Nat, xs = [T a, T b] ∧ Q (T (if a < b then b else a)) H) := by
  intro pins s σ H xs us Q I r h
  obtain ⟨a, b, rfl, q⟩ := h
  obtain ⟨u, w', rfl, ⟨t, rfl⟩, ⟨t', rfl⟩⟩ := vals2 r
  have hT : (s.heap.push { cls := .type "tuple", data := .seq #[.str (tx a) t, .str (tx b) t'] }).IsTuple s.heap.objs.size #[.str (tx a) t, .str (tx b) t'] := ⟨_, Heap.get?_push_size _ rfl, rfl, 0, rfl⟩
  have hsz : (s.heap.push { cls := .type "tuple", data := .seq #[.str (tx a) t, .str (tx b) t'] }).objs.size = s.heap.objs.size + 1 := Heap.size_push ..
  have hit : ∀ (i : Nat) (v : Value), (#[Value.str (tx a) t, .str (tx b) t'] : Array Value)[i]? = some v → ∃ t, v = .str (tx ([a, b].getD i [])) t := fun i v e => by
    match i with
    | 0 => exact ⟨t, (Option.some.inj e).symm⟩
    | 1 => exact ⟨t', (Option.some.inj e).symm⟩
    | i + 2 => simp at e
  refine call_max_two (wpAny_pyIter_tuple hT ?_)
  refine ⟨_, [_, s.heap.objs.size], [_], _, _, _, fun i j => decide ([a, b].getD j [] < [a, b].getD i []), rfl, Walks.tuple (A := X.A.in1) (show X.A.in1.handled = none from I.ok.hd hc) _ s.heap.objs.size (by rw [hsz]; exact Nat.ne_of_lt (Nat.lt_succ_self _)) #[.str (tx a) t, .str (tx b) t'],
    ⟨⟨_, Heap.get?_push_size _ rfl, rfl, rfl⟩, hT.push _⟩, fun c hc => ?_, (by show 0 < 2; decide), fun i j v v' s' Q' E' hi hj h' => ?_, fun v h' tk hP hk => ?_⟩
  · show c < ((s.heap.push _).push _).objs.size
    rw [Heap.size_push, hsz]
    rcases List.mem_cons.mp hc with rfl | hc
    · rw [hsz]; exact Nat.lt_succ_self _
    · rcases List.mem_cons.mp hc with rfl | hc
      · exact Nat.lt_succ_of_lt (Nat.lt_succ_self _)
      · cases hc
  · obtain ⟨t1, rfl⟩ := hit i v hi
    obtain ⟨t2, rfl⟩ := hit j v' hj
    exact richCompare_gives (op := .Gt) (typeIs_str s' _ t1) (typeIs_str s' _ t2) F.slot_str_gt F.entry_str_gt (F.args_str_gt_2 _ _) (gives_str_gt _ _ t1 t2) (fun x => nomatch x) (by rw [tx_cps, tx_cps]; exact h')
  · have hold : ∀ c o, s.heap.get? c = some o → h'.get? c = some o := fun c o e => by
      refine hk c o (fun hm => ?_) (Heap.get?_push_of_some _ (Heap.get?_push_of_some _ e))
      rcases List.mem_cons.mp hm with e1 | hm
      · have := Heap.lt_size e; rw [e1, hsz] at this; exact Nat.lt_irrefl _ (Nat.lt_of_succ_lt this)
      · cases hm
    obtain ⟨t3, rfl⟩ := hit _ v hP
    refine ⟨T (if a < b then b else a), H, I.kept hold, ?_, q⟩
    refine ⟨t3, ?_⟩
    have e1 : [a, b].getD (argBest (fun i j => decide ([a, b].getD j [] < [a, b].getD i [])) (2 - 1)) [] = if a < b then b else a := by
      show [a, b].getD (argBest (fun i j => decide ([a, b].getD j [] < [a, b].getD i [])) 1) [] = _
      by_cases c : a < b
      · simp [argBest, c]
      · simp [argBest, c]
    exact congrArg (fun l => Value.str (tx l) t3) e1
end
end L2

set_option Elab.async false
set_option linter.all false
set_option maxRecDepth 100000
namespace L2
open PySem PySem.Spec PyProof.Rows
section
variable {X : Cx}
end
end L2

set_option Elab.async false
set_option linter.all false
set_option maxRecDepth 100000
set_option maxHeartbeats 4000000
namespace L2
open PySem PySem.Spec PyProof.Rows
theorem nub_all {ls : List (List Nat)} (h : ls.Nodup) : ∀ {i : Nat}, i < ls.length → ls.getD i [] ∉ nubTo ls i ∧ (nubTo ls i).length = i
  | 0, _ => ⟨by simp [nubTo], rfl⟩
  | i + 1, hi => by
    obtain ⟨h1, h2⟩ := nub_all h (i := i) (by (first | lia | omega))
    have e : (nubTo ls (i + 1)).length = i + 1 := by rw [nubTo, if_neg h1, List.length_append, h2]; rfl
    refine ⟨fun z => ?_, e⟩
    rw [nubTo_mem ls _ _ (by (first | lia | omega))] at z
    obtain ⟨j, hj, ej⟩ := List.mem_iff_getElem.mp z
    rw [List.length_take] at hj
    rw [List.getElem_take, List.getD_eq_getElem?_getD, List.getElem?_eq_getElem hi] at ej
    have := (List.getElem?_inj (i := j) (j := i + 1) (by (first | lia | omega)) h).mp (by rw [List.getElem?_eq_getElem (by (first | lia | omega)), List.getElem?_eq_getElem hi, ej]; rfl)
    (first | lia | omega)
namespace SE
section
variable {prog : Program} {w : World} {K : Type} [DecidableEq K] {knd : KeyKind prog w K} {A : Around} {E : Value → Shared → Prop} {s : Shared}
noncomputable def Big (h : Heap) (a : Addr) (n : Nat) : Prop := ∃ o es ep t, h.get? a = some o ∧ o.ExactSet ∧ o.data = .set es ep t ∧ t.fits es.size = true ∧ es.size = n
theorem Big.at {h h' : Heap} {D : Addr} {n : Nat} (x : Big h D n) (k : ∀ o, h.get? D = some o → h'.get? D = some o) : Big h' D n := by
  obtain ⟨o, es, ep, tb, ho, r⟩ := x
  exact ⟨o, es, ep, tb, k o ho, r⟩
theorem big_store {h : Heap} {a : Addr} {o : Obj} {es : Array (Int × Value)} {ep : Nat} {t : SetTable} (ho : h.get? a = some o) (hex : o.ExactSet) (hd : o.data = .set es ep t) {es' : Array (Int × Value)} {t' : SetTable} (hf : t'.fits es'.size = true) :
    (h.update a (Obj.putSet es' t')).get? a = some { o with data := .set es' (ep + 1) t' } ∧ Big (h.update a (Obj.putSet es' t')) a es'.size := by
  have hg : (h.update a (Obj.putSet es' t')).get? a = some { o with data := .set es' (ep + 1) t' } := by
    have g := Heap.get?_update_self (Obj.putSet es' t') ho (by rw [putSet_of es' t' hd]; rfl)
    rw [putSet_of es' t' hd] at g
    exact g
  exact ⟨hg, _, es', ep + 1, t', hg, hex, rfl, hf, rfl⟩
theorem tail_last {g : Bool → Sem Unit} (hg : ∀ (b : Bool) (s₁ : Shared) (Q' : Unit → Shared → Prop), Q' () s₁ → wpAny (model prog w) A (g b) Q' E s₁) {a : Addr} {o : Obj} {es : Array (Int × Value)} {ep : Nat} {t : SetTable} (ho : s.heap.get? a = some o) (hex : o.ExactSet) (hd : o.data = .set es ep t)
    {es1 : Array (Int × Value)} {t2 : SetTable} (hb1 : es1.size ≤ sizeLine) (hf2 : t2.fits es1.size = true) {wasDummy : Bool} {R : Option Bool → Shared → Prop} (h : ∀ h', Heap.SameBut a s.heap h' → Big h' a es1.size → R (some true) { s with heap := h' }) :
    wpAny (model prog w) A (do
        storeSet a es1 t2
        if (!wasDummy && t2.tooFull) = true then do
            g (relayAll t2 es1 (SetTable.grown es1.size)).2.2
            storeSet a (relayAll t2 es1 (SetTable.grown es1.size)).1 (relayAll t2 es1 (SetTable.grown es1.size)).2.1
            pure (some true)
          else pure (some true)) R E s := by
  obtain ⟨ho1, hS1⟩ := big_store ho hex hd hf2
  have hsb := Heap.SameBut.update s.heap a (Obj.putSet es1 t2)
  refine wpAny_bind (wpAny_storeSet_of ho hd ?_ hb1)
  split
  case isFalse => exact wpAny_pure (h _ hsb hS1)
  case isTrue =>
    have hp := relayAll_perm t2 es1 (SetTable.grown es1.size)
    have hfr := relayAll_fits t2 es1 (SetTable.grown es1.size)
    generalize relayAll t2 es1 (SetTable.grown es1.size) = Rl at hp hfr ⊢
    have hsz : Rl.1.size = es1.size := by rw [← Array.length_toList, hp.length_eq, Array.length_toList]
    refine wpAny_bind (hg _ _ _ ?_)
    refine wpAny_bind (wpAny_storeSet_of ho1 rfl ?_ (by rw [hsz]; exact hb1))
    obtain ⟨_, hS2⟩ := big_store ho1 hex rfl hfr
    rw [hsz] at hS2
    exact wpAny_pure (h _ (hsb.trans (Heap.SameBut.update _ a _)) hS2)
theorem add_last {a : Addr} {S : K → Bool} {n : Nat} {k : K} {x : Value} {Q : Bool → Shared → Prop} (hkey : knd.is k x = true) (hsc : x.scannable = true) (hS : s.heap.SetOf knd a S n) (hSk : S k = false) (hroom : n + 1 ≤ sizeLine)
    (h : ∀ h', Heap.SameBut a s.heap h' → Big h' a (n + 1) → Q true { s with heap := h' }) : wpAny (model prog w) A (setAddHashed a x (knd.hash k)) Q E s := by
  obtain ⟨o, es, ep, t, ho, hex, hd, hel, hmem, hb, hf, hn⟩ := hS
  have hnone : List.findIdx? (fun e => knd.is k e.2) es.toList = none := List.findIdx?_eq_none_iff.mpr fun e he => by
    cases hp : knd.is k e.2 with
    | false => rfl
    | true => rw [(hmem k).mpr ⟨e, he, hp⟩] at hSk; exact Bool.noConfusion hSk
  unfold setAddHashed setAddHashedIn
  refine wpAny_holding (wpAny_bind (wpAny_setState_of ho hd hf ?_))
  dsimp only
  rw [byScan_of hsc hb hel]
  simp only [↓reduceIte]
  unfold setAddByScan
  refine wpAny_bind (wpAny_bind (wpAny_rule (wpAny_bind (wpAny_setScan_of hkey ho hd hf hel ?_))))
  rw [hnone]
  dsimp only
  have hgw : ∀ (b : Bool) {s₁ : Shared} {Q' : Unit → Shared → Prop}, Q' () s₁ → wpAny (model prog w) A (match b with | true => rule "set.scan.the-table-gave-way" | false => pure ()) Q' E s₁ := fun b s₁ Q' hq => by cases b <;> first | exact wpAny_pure hq | exact wpAny_rule hq
  have hperm := layNew_perm t es (knd.hash k) x
  have hfits := layNew_fits t es (knd.hash k) x
  generalize layNew t es (knd.hash k) x = L at hperm hfits ⊢
  obtain ⟨es1, t1, wasDummy, gave⟩ := L
  dsimp only at hperm hfits ⊢
  rw [Array.toList_push] at hperm
  have hsz1 : es1.size = n + 1 := by rw [← Array.length_toList, hperm.length_eq, List.length_append, Array.length_toList, hn]; rfl
  rw [← hsz1] at h hroom
  refine wpAny_bind (hgw _ ?_)
  split
  · refine wpAny_bind ?_
    rw [hashByValue_scannable 8 hsc]
    refine wpAny_pure ?_
    refine tail_last ?_ ho hex hd hroom ?_ ?_
    · intro b s₁ Q' hq; cases b <;> first | exact wpAny_pure hq | exact wpAny_rule hq
    · split
      · exact hfits
      · exact SetTable.fits_plain_off hfits
    · intro h' hsb hS'; dsimp only; exact wpAny_pure (h h' hsb hS')
  · refine wpAny_bind (wpAny_pure ?_)
    simp only [↓reduceIte]
    refine tail_last ?_ ho hex hd hroom hfits ?_
    · intro b s₁ Q' hq; cases b <;> first | exact wpAny_pure hq | exact wpAny_rule hq
    · intro h' hsb hS'; dsimp only; exact wpAny_pure (h h' hsb hS')
end
section
variable {prog : Program} {w : World} {A : Around} {R : Result → Shared → Prop} {J : Addr} {fp wr : List Addr} {G : Array GenState → Array GenState → Prop} {n : Nat} {P : Nat → Value → Prop} {St : Nat → Shared → Prop}
theorem loopB (W : WalksS prog w A.in1 J fp wr G n P St) {D : Addr} (hD : D ∉ fp) (ls : List (List Nat)) (hv : ∀ i v, P i v → ∃ t, v = Value.str (tx (ls.getD i [])) t) (hnd : ls.Nodup) (hll : ls.length = n) (hn : n ≤ scanBound) :
    ∀ (k i : Nat) (s : Shared), n - i = k → i ≤ n → St i s → (Has prog w s.heap D (nubTo ls i) ∧ i < n ∨ Big s.heap D n ∧ i = n) →
      (∀ s', Moved (D :: wr) G s s' → Big s'.heap D n → R (.ok (.ret .none)) s') → codeAny (model prog w) A (.builtin "set.update.loop" ⟨[.ref D, .ref J], []⟩) R s := by
  have hDw : D ∉ wr := fun z => hD (W.sub _ z)
  have up : ∀ b ∈ wr, b ∈ D :: wr := fun b hb => .tail _ hb
  intro k
  induction k with
  | zero =>
    intro i s hk hi st hs hR
    obtain rfl : i = n := by (first | lia | omega)
    have hsB : Big s.heap D i := by
      rcases hs with ⟨_, z⟩ | ⟨z, _⟩
      · (first | lia | omega)
      · exact z
    refine codeAny_builtin PyProof.Rows.F.entry_set_update_loop ?_
    rw [Around.under_plainId PyProof.Rows.F.plain_set_update_loop]
    refine wpAny_bind (m := pyNext (.ref J)) (W.done s _ _ st fun s2 mv => ?_)
    exact (show wpAny _ A.in1 (ret Value.none) _ _ s2 from wpAny_pure (hR s2 (mv.mono up) (hsB.at fun o e => mv.heap D o hDw e)))
  | succ k ih =>
    intro i s hk hi st hs hR
    have hlt : i < n := by (first | lia | omega)
    have hs : Has prog w s.heap D (nubTo ls i) := by
      rcases hs with ⟨z, _⟩ | ⟨_, z⟩
      · exact z
      · (first | lia | omega)
    by_cases hlast : i + 1 = n
    case pos =>
      refine codeAny_builtin PyProof.Rows.F.entry_set_update_loop ?_
      rw [Around.under_plainId PyProof.Rows.F.plain_set_update_loop]
      refine wpAny_bind (m := pyNext (.ref J)) (W.item i s _ _ hlt st fun v s2 pv st2 mv => ?_)
      obtain ⟨t, rfl⟩ := hv i v pv
      have hs2 := hs.at fun o e => mv.heap D o hDw e
      refine wpAny_bind (m := holding [Value.str (tx (ls.getD i [])) t] (setAdd D (.str (tx (ls.getD i [])) t))) (wpAny_holding ?_)
      unfold setAdd
      refine wpAny_holding (wpAny_bind ((PySem.strKind prog w).pyHash (k := tx (ls.getD i [])) (strKind_is _ _ _ _) ?_))
      obtain ⟨hnew, hcnt⟩ := nub_all hnd (i := i) (by (first | lia | omega))
      refine add_last (knd := PySem.strKind prog w) (s := { s2 with toks := s2.toks + 1 }) (strKind_is _ _ _ _) rfl hs2 (by rw [tx_cps]; exact decide_eq_false hnew) (by rw [hcnt]; have : scanBound = 4096 := rfl; have : sizeLine = 16777216 := sizeLine_eq; (first | lia | omega)) fun h3 sb x3 => ?_
      rw [hcnt, hlast] at x3
      refine wpAny_pure ⟨plainId_quiet PyProof.Rows.F.plain_set_update_loop _, ih (i + 1) _ (by (first | lia | omega)) hlt (W.frame _ s2 _ _ st2 (Nat.le_succ _) fun b hb o e => (sb.2 b fun z => hD (z ▸ hb)).trans e) (.inr ⟨x3, hlast⟩) fun s5 m5 x5 => ?_⟩
      refine hR s5 (Moved.trans W.gtrans ((mv.mono up).then_heap (Nat.le_succ _) fun b o hb e => (sb.2 b fun z => hb (z ▸ .head _)).trans e) m5) x5
    refine codeAny_builtin PyProof.Rows.F.entry_set_update_loop ?_
    rw [Around.under_plainId PyProof.Rows.F.plain_set_update_loop]
    refine wpAny_bind (m := pyNext (.ref J)) (W.item i s _ _ hlt st fun v s2 pv st2 mv => ?_)
    obtain ⟨t, rfl⟩ := hv i v pv
    have hs2 := hs.at fun o e => mv.heap D o hDw e
    refine wpAny_bind (m := holding [Value.str (tx (ls.getD i [])) t] (setAdd D (.str (tx (ls.getD i [])) t))) (wpAny_holding ?_)
    unfold setAdd
    refine wpAny_holding (wpAny_bind ((PySem.strKind prog w).pyHash (k := tx (ls.getD i [])) (strKind_is _ _ _ _) ?_))
    have hl := nubTo_len ls i
    refine wpAny_setAddHashed_of (knd := PySem.strKind prog w) (s := { s2 with toks := s2.toks + 1 }) (strKind_is _ _ _ _) rfl hs2 (by (first | lia | omega)) fun h3 sb x3 => ?_
    have x4 : Has prog w h3 D (nubTo ls (i + 1)) := by
      refine PyProof.Rows.SetOf_congr x3 (fun y => ?_) ?_
      · rw [nubTo]
        split
        · rename_i hm
          rw [Bool.eq_iff_iff, Bool.or_eq_true, decide_eq_true_iff, decide_eq_true_iff]
          constructor
          · rintro (q | q)
            · exact q
            · rw [q, tx_cps]
              exact hm
          · exact .inl
        · rw [Bool.eq_iff_iff, Bool.or_eq_true, decide_eq_true_iff, decide_eq_true_iff, decide_eq_true_iff, List.mem_append, List.mem_singleton]
          constructor
          · rintro (q | q)
            · exact .inl q
            · right
              rw [q, tx_cps]
          · rintro (q | q)
            · exact .inl q
            · right
              rw [← q, tx_eta]
      · rw [tx_cps, nubTo]
        by_cases hm : ls.getD i [] ∈ nubTo ls i
        · rw [if_pos hm, if_pos (decide_eq_true hm)]
        · rw [if_neg hm, if_neg (by rw [decide_eq_false hm]; exact Bool.false_ne_true), List.length_append]
          rfl
    refine wpAny_pure ⟨plainId_quiet PyProof.Rows.F.plain_set_update_loop _, ih (i + 1) _ (by (first | lia | omega)) hlt (W.frame _ s2 _ _ st2 (Nat.le_succ _) fun b hb o e => (sb.2 b fun z => hD (z ▸ hb)).trans e) (.inl ⟨x4, by (first | lia | omega)⟩) fun s5 m5 x5 => ?_⟩
    refine hR s5 (Moved.trans W.gtrans ((mv.mono up).then_heap (Nat.le_succ _) fun b o hb e => (sb.2 b fun z => hb (z ▸ .head _)).trans e) m5) x5


variable {E : Value → Shared → Prop} {s : Shared}
theorem call_ofB {l : Addr} {its : Array Value} {ls : List (List Nat)} {Q : Value → Shared → Prop} (hh : A.handled = none) (hl : s.heap.IsList l its) (hv : ∀ i v, its[i]? = some v → ∃ t, v = Value.str (tx (ls.getD i [])) t) (hnd : ls.Nodup) (hll : ls.length = its.size) (h1 : 0 < its.size) (hn : its.size ≤ scanBound)
    (h : ∀ (h' : Heap) (tk : Nat), Big h' s.heap.objs.size its.size → (∀ b o, s.heap.get? b = some o → h'.get? b = some o) → Q (.ref s.heap.objs.size) { s with heap := h', toks := tk }) :
    wpAny (model prog w) A (call (.type "set") [.ref l]) Q E s := by
  obtain ⟨mc, mt, f0⟩ := F.called_set.mro
  have f1 := F.called_set.made; have f2 := F.called_set.sub; have f3 := F.called_set.notType; have f4 := F.called_set.canCreate; have f5 := F.typeCall_set_1 (.ref l)
  refine wpAny_call (codeAny_of_tree (show wpAny _ _ (callAny (.type "set") _) _ _ _ from wpAny_pure ⟨Code.quiet_builtin _ (by decide +kernel), codeAny_builtin F.entry_type_call ?_⟩))
  rw [Around.under_plain (weight_type_call_type "set" [.ref l] []) rfl]
  repeat (any_goals (first | wp_step | assumption))
  refine codeAny_mono (code_set_new_1 (.ref l) (E := E) (Q₁ := fun ob s1 => ∃ b : Bool, ob = .ref s.heap.objs.size ∧ s1 = { s with heap := s.heap.push { cls := .type "set", dict := none, data := .set #[] 0 (.fresh 0 0 b) } }) fun b => ⟨b, rfl, rfl⟩) fun r s1 hr => ?_
  cases r with
  | error e => exact hr
  | ok fl =>
    cases fl with
    | ret ob =>
      obtain ⟨b, rfl, rfl⟩ := hr
      generalize hob : ({ cls := .type "set", dict := none, data := .set #[] 0 (.fresh 0 0 b) } : Obj) = ob
      have hD : (s.heap.push ob).get? s.heap.objs.size = some ob := Heap.get?_push_size _ (by rw [← hob]; rfl)
      have hT : Shared.TypeIs { s with heap := s.heap.push ob } (.ref s.heap.objs.size) "set" := ⟨_, hD, by rw [← hob]⟩
      have f6 := F.called_set.init.lookup; have f7 := F.called_set.init.bind (.ref s.heap.objs.size)
      repeat (any_goals (first | wp_step | assumption))
      refine codeAny_mono (codeAny_call_builtin (R := wants (fun r s2 => r = .none ∧ ∃ h' tk, s2 = { s with heap := h', toks := tk } ∧ Big h' s.heap.objs.size its.size ∧ ∀ b o, s.heap.get? b = some o → h'.get? b = some o) E)
        F.called_set.init.plain F.entry_set_init (check_set_init_1 hT ?_)) fun r2 s2 hr2 => ?_
      · obtain ⟨⟨oc, od, odt, osl⟩, hol, hcl, nl, hdl⟩ := id hl
        simp only at hcl hdl
        subst hcl hdl
        have hol' : (s.heap.push ob).get? l = some { cls := .type "list", dict := od, data := .seq its nl, slots := osl } := Heap.get?_push_of_some _ hol
        have f8 := F.sub_list_set; have f9 := F.sub_list_frozenset
        have f10 : (Value.type "list" == Value.type "dict") = false := by decide
        have hl1 : (s.heap.push ob).IsList l its := ⟨_, hol', rfl, nl, rfl⟩
        subst hob
        unfold Builtin.«set.__init__» noKeywords Builtin.Frozenset.updateFrom
        generalize hPI : pyIter = PI
        wp_walk
        subst hPI
        refine wpAny_pyIter_list hl1 ?_
        refine wpAny_bind (wpAny_runValue ?_)
        have hlt : l < s.heap.objs.size := Heap.lt_size hol
        have hh3 : A.in1.in1.in1.handled = none := by simp [hh]
        have hsz : (s.heap.push { cls := .type "set", dict := none, data := .set #[] 0 (.fresh 0 0 b) }).objs.size = s.heap.objs.size + 1 := Heap.size_push _ _
        have hne : l ≠ (s.heap.push { cls := .type "set", dict := none, data := .set #[] 0 (.fresh 0 0 b) }).objs.size := by rw [hsz]; exact Nat.ne_of_lt (Nat.lt_succ_of_lt hlt)
        have hfp : s.heap.objs.size ∉ [(s.heap.push { cls := .type "set", dict := none, data := .set #[] 0 (.fresh 0 0 b) }).objs.size, l] := by
          rw [hsz]
          intro z
          rcases List.mem_cons.mp z with e | e
          · exact Nat.ne_of_lt (Nat.lt_succ_self _) e
          · exact Nat.ne_of_gt hlt (List.mem_singleton.mp e)
        refine loopB ((Walks.list hh3 _ l hne its).toS) (D := s.heap.objs.size) hfp ls hv hnd hll hn (its.size - 0) 0 _ (by (first | lia | omega)) (Nat.zero_le _) ⟨⟨_, Heap.get?_push_size _ rfl, rfl, rfl⟩, hl1.push _⟩ ?_ fun s3 mv x3 => ?_
        · have hg : ((s.heap.push { cls := .type "set", dict := none, data := .set #[] 0 (.fresh 0 0 b) }).push { cls := .type "list_iterator", data := .fields #[.ref l, .int 0 0] }).get? s.heap.objs.size = some { cls := .type "set", dict := none, data := .set #[] 0 (.fresh 0 0 b) } := Heap.get?_push_of_some _ hD
          exact .inl ⟨PyProof.Rows.SetOf_congr ((PyProof.Rows.setObjOf_fresh (knd := PySem.strKind prog w) b).setOf hg (by unfold scanBound; (first | lia | omega))) (fun _ => rfl) rfl, h1⟩
        · obtain ⟨h3, g3, d3, tk3, os3⟩ := s3
          obtain rfl : g3 = s.gens := mv.gens
          obtain rfl : d3 = s.drawn := mv.drawn
          obtain rfl : os3 = s.os := mv.os
          refine wpAny_pure (show wpAny _ _ (ret Value.none) _ _ _ from wpAny_pure ⟨rfl, h3, tk3, rfl, x3, fun c o e => ?_⟩)
          have hc := Heap.lt_size e
          exact mv.heap c o (show c ∉ [s.heap.objs.size, (s.heap.push { cls := .type "set", dict := none, data := .set #[] 0 (.fresh 0 0 b) }).objs.size] by
            rw [hsz]
            intro z
            rcases List.mem_cons.mp z with e | e
            · exact Nat.ne_of_lt hc e
            · exact Nat.ne_of_lt (Nat.lt_succ_of_lt hc) (List.mem_singleton.mp e)) (Heap.get?_push_of_some _ (Heap.get?_push_of_some _ e))
      · cases r2 with
        | error e => exact hr2
        | ok fl2 =>
          cases fl2 with
          | ret r =>
            obtain ⟨rfl, h3, tk, rfl, x3, k3⟩ := hr2
            repeat (any_goals (first | wp_step | assumption))
            exact h _ _ x3 k3
          | _ => exact hr2.elim
    | _ => exact hr.elim
end
end SE
noncomputable def SetB (D : Addr) (n : Nat) : HO := .ext fun h => SE.Big h D n
section
variable {X : Cx}
theorem call_setB (hc : X.calm = true) : CallR X (.type "set") (fun xs H Q => ∃ (p : Addr) (ls : List (List Nat)), xs = [.ref p] ∧ SqL X.K H p (ls.map T) ∧ ls.Nodup ∧ (0 < ls.length ∧ ls.length ≤ 4096) ∧ ∀ D, H D = none → Q (.ref D) (upd H D (SetB D ls.length))) := by
  intro pins s σ H xs us Q I r h
  obtain ⟨p, ls, rfl, hq, hnd, hz, q⟩ := h
  obtain ⟨u, rfl, ru⟩ := vals1 r
  cases ru
  obtain ⟨its, rv, pl, _⟩ := I.list hq
  have hlen := rv.length
  rw [List.length_map] at hlen
  refine SE.call_ofB (I.ok.hd hc) pl.isList (ls := ls) (fun i v e => str_at rv (by simpa using e)) hnd (by rw [List.size_toArray]; exact hlen) (by rw [List.size_toArray]; (first | lia | omega)) (by rw [List.size_toArray]; unfold scanBound; (first | lia | omega)) fun h' tk x k => ?_
  have e : its.toArray.size = ls.length := by rw [List.size_toArray]; exact hlen.symm
  rw [e] at x
  have hf : H s.heap.objs.size = none := I.hok.fresh (Nat.le_refl _)
  refine ⟨.ref s.heap.objs.size, _, I.laid (t' := tk) k (Nat.le_refl _) (o := SetB s.heap.objs.size ls.length) ?_, rfl, q _ hf⟩
  refine ⟨x, ?_, fun h1 h2 x1 kk => x1.at kk⟩
  obtain ⟨o, _, _, _, ho, _⟩ := x
  exact ⟨o, ho⟩
theorem call_lenB : CallR X (.builtin "len") (fun xs H Q => ∃ (D : Addr) (n : Nat), xs = [.ref D] ∧ H D = some (SetB D n) ∧ n ≤ 4096 ∧ Q (.int (n : Nat)) H) := by
  intro pins s σ H xs us Q I r h
  obtain ⟨D, n, rfl, hD, hz, q⟩ := h
  obtain ⟨u, rfl, ru⟩ := vals1 r
  cases ru
  obtain ⟨⟨o, es, ep, tb, ho, hex, hd, hf, hn⟩, _⟩ := (show ObjOk X.prog X.w H s.heap D (SetB D n) from I.hok D _ hD)
  exact call_len_set ho hex hd hf (by (first | lia | omega)) ⟨.int (n : Nat), H, I.tok _, ⟨s.toks + 1, by rw [← hn]⟩, q⟩
end
end L2

set_option Elab.async false
set_option linter.all false
set_option maxRecDepth 100000
set_option maxHeartbeats 4000000
namespace K63
open PySem L2
seal L2.PSs L2.PS L2.PE L2.PA L2.PT L2.PW L2.PI L2.PG L2.PGs L2.PO L2.PTy L2.PH L2.OpR L2.CallR L2.IxR L2.SlR L2.UnR L2.PSet
noncomputable def top (i : Nat) : Stmt := PySem.Challenge.pw_onceround_k63_far_refused.main.body.getD i (.Pass ⟨0, 0, 0, 0⟩)
noncomputable abbrev s_looked_kinds : Stmt := top 10
noncomputable abbrev s_looked_length : Stmt := top 11
noncomputable abbrev s_letters : Stmt := top 12
noncomputable abbrev s_looked : Stmt := top 13
noncomputable abbrev s_word_total : Stmt := top 14
noncomputable abbrev s_spelled : Stmt := top 15
noncomputable abbrev s_turned : Stmt := top 16
noncomputable abbrev s_turn_by : Stmt := top 18
noncomputable abbrev s_least_turn : Stmt := top 19
noncomputable abbrev s_times_of : Stmt := top 20
noncomputable abbrev s_root : Stmt := top 21
noncomputable abbrev s_is_least : Stmt := top 22
noncomputable abbrev s_filled : Stmt := top 24
noncomputable abbrev s_is_beginning : Stmt := top 25
noncomputable abbrev s_least_from : Stmt := top 26
noncomputable abbrev s_least_beginning : Stmt := top 27
noncomputable abbrev s_next_least : Stmt := top 28
noncomputable abbrev s_last_least : Stmt := top 29
noncomputable abbrev s_rests : Stmt := top 31
noncomputable abbrev s_count_above : Stmt := top 32
noncomputable abbrev s_up_to : Stmt := top 33
noncomputable abbrev s_first_word_above : Stmt := top 34
noncomputable abbrev s_looked_first : Stmt := top 37
noncomputable abbrev s_count_below : Stmt := top 38
noncomputable abbrev s_begin_place : Stmt := top 39
noncomputable abbrev s_ring_size : Stmt := top 40
noncomputable abbrev s_put_together : Stmt := top 41
noncomputable abbrev s_piece_at : Stmt := top 42
noncomputable abbrev s_letter_at : Stmt := top 43
noncomputable abbrev s_looked_for : Stmt := top 44
noncomputable abbrev s_place_of : Stmt := top 45
noncomputable abbrev s_whole_ring : Stmt := top 46
noncomputable abbrev s__law_mixed : Stmt := top 48
noncomputable abbrev s__law_kinds : Stmt := top 49
noncomputable abbrev s__law_refused : Stmt := top 50
noncomputable abbrev s__law_words_refused : Stmt := top 51
noncomputable abbrev s_law : Stmt := top 52
theorem sc_looked_kinds : FnScope ["kinds"] ["kinds"] (defScope s_looked_kinds) := ⟨rfl, rfl, rfl, by decide +kernel, rfl, by decide +kernel, by decide +kernel⟩
theorem sc_looked_length : FnScope ["length", "kinds"] ["length", "kinds"] (defScope s_looked_length) := ⟨rfl, rfl, rfl, by decide +kernel, rfl, by decide +kernel, by decide +kernel⟩
theorem sc_letters : FnScope ["kinds"] ["kinds"] (defScope s_letters) := ⟨rfl, rfl, rfl, by decide +kernel, rfl, by decide +kernel, by decide +kernel⟩
theorem sc_looked : FnScope ["word", "kinds", "known", "sign"] ["word", "kinds"] (defScope s_looked) := ⟨rfl, rfl, rfl, by decide +kernel, rfl, by decide +kernel, by decide +kernel⟩
theorem sc_word_total : FnScope ["length", "kinds", "total", "step"] ["length", "kinds"] (defScope s_word_total) := ⟨rfl, rfl, rfl, by decide +kernel, rfl, by decide +kernel, by decide +kernel⟩
theorem sc_spelled : FnScope ["number", "length", "kinds", "backward", "rest", "step"] ["number", "length", "kinds"] (defScope s_spelled) := ⟨rfl, rfl, rfl, by decide +kernel, rfl, by decide +kernel, by decide +kernel⟩
theorem sc_turned : FnScope ["text", "by", "start"] ["text", "by"] (defScope s_turned) := ⟨rfl, rfl, rfl, by decide +kernel, rfl, by decide +kernel, by decide +kernel⟩
theorem sc_turn_by : FnScope ["word", "best", "by"] ["word"] (defScope s_turn_by) := ⟨rfl, rfl, rfl, by decide +kernel, rfl, by decide +kernel, by decide +kernel⟩
theorem sc_least_turn : FnScope ["word"] ["word"] (defScope s_least_turn) := ⟨rfl, rfl, rfl, by decide +kernel, rfl, by decide +kernel, by decide +kernel⟩
theorem sc_times_of : FnScope ["word", "size", "times"] ["word"] (defScope s_times_of) := ⟨rfl, rfl, rfl, by decide +kernel, rfl, by decide +kernel, by decide +kernel⟩
theorem sc_root : FnScope ["word"] ["word"] (defScope s_root) := ⟨rfl, rfl, rfl, by decide +kernel, rfl, by decide +kernel, by decide +kernel⟩
theorem sc_is_least : FnScope ["word"] ["word"] (defScope s_is_least) := ⟨rfl, rfl, rfl, by decide +kernel, rfl, by decide +kernel, by decide +kernel⟩
theorem sc_filled : FnScope ["text", "length", "kinds"] ["text", "length", "kinds"] (defScope s_filled) := ⟨rfl, rfl, rfl, by decide +kernel, rfl, by decide +kernel, by decide +kernel⟩
theorem sc_is_beginning : FnScope ["text", "length", "kinds"] ["text", "length", "kinds"] (defScope s_is_beginning) := ⟨rfl, rfl, rfl, by decide +kernel, rfl, by decide +kernel, by decide +kernel⟩
theorem sc_least_from : FnScope ["beginning", "length", "kinds", "word", "going_on"] ["beginning", "length", "kinds"] (defScope s_least_from) := ⟨rfl, rfl, rfl, by decide +kernel, rfl, by decide +kernel, by decide +kernel⟩
noncomputable def csc_least_from_0 : Scope := { kind := PySem.ScopeKind.function, names := [ (PySem.Str.ofString ".0", PySem.NameKind.local), (PySem.Str.ofString "letter", PySem.NameKind.local), (PySem.Str.ofString "is_beginning", PySem.NameKind.globalImplicit), (PySem.Str.ofString "kinds", PySem.NameKind.free), (PySem.Str.ofString "length", PySem.NameKind.free), (PySem.Str.ofString "word", PySem.NameKind.free)], isGenerator := false, isCoroutine := false, more := [] : PySem.Scope }
theorem cs_least_from_0 : CompSc ["beginning", "length", "kinds", "word", "going_on"] ["letter", "beginning", "length", "kinds", "word", "going_on"] (defScope s_least_from) csc_least_from_0 "letter" := ⟨rfl, by decide +kernel, by decide +kernel, rfl, by decide +kernel, rfl, rfl, by decide +kernel, rfl, by decide +kernel, by decide +kernel⟩
theorem sc_least_beginning : FnScope ["text", "length", "kinds"] ["text", "length", "kinds"] (defScope s_least_beginning) := ⟨rfl, rfl, rfl, by decide +kernel, rfl, by decide +kernel, by decide +kernel⟩
theorem sc_next_least : FnScope ["word", "kinds", "place", "letter", "text"] ["word", "kinds"] (defScope s_next_least) := ⟨rfl, rfl, rfl, by decide +kernel, rfl, by decide +kernel, by decide +kernel⟩
theorem sc_last_least : FnScope ["word", "kinds", "last", "place", "lesser"] ["word", "kinds"] (defScope s_last_least) := ⟨rfl, rfl, rfl, by decide +kernel, rfl, by decide +kernel, by decide +kernel⟩
theorem sc_rests : FnScope ["greater", "counted", "size"] ["greater"] (defScope s_rests) := ⟨rfl, rfl, rfl, by decide +kernel, rfl, by decide +kernel, by decide +kernel⟩
noncomputable def csc_rests_0 : Scope := { kind := PySem.ScopeKind.function, names := [ (PySem.Str.ofString ".0", PySem.NameKind.local), (PySem.Str.ofString "place", PySem.NameKind.local), (PySem.Str.ofString "counted", PySem.NameKind.free), (PySem.Str.ofString "greater", PySem.NameKind.free), (PySem.Str.ofString "size", PySem.NameKind.free)], isGenerator := false, isCoroutine := false, more := [] : PySem.Scope }
theorem cs_rests_0 : CompSc ["greater", "counted", "size"] ["place", "greater", "counted", "size"] (defScope s_rests) csc_rests_0 "place" := ⟨rfl, by decide +kernel, by decide +kernel, rfl, by decide +kernel, rfl, rfl, by decide +kernel, rfl, by decide +kernel, by decide +kernel⟩
theorem sc_count_above : FnScope ["word", "kinds", "greater", "counted", "last"] ["word", "kinds"] (defScope s_count_above) := ⟨rfl, rfl, rfl, by decide +kernel, rfl, by decide +kernel, by decide +kernel⟩
noncomputable def csc_count_above_0 : Scope := { kind := PySem.ScopeKind.function, names := [ (PySem.Str.ofString ".0", PySem.NameKind.local), (PySem.Str.ofString "letter", PySem.NameKind.local), (PySem.Str.ofString "LETTERS", PySem.NameKind.globalImplicit), (PySem.Str.ofString "kinds", PySem.NameKind.free)], isGenerator := false, isCoroutine := false, more := [] : PySem.Scope }
theorem cs_count_above_0 : CompSc ["word", "kinds", "greater", "counted", "last"] ["letter", "word", "kinds", "greater", "counted", "last"] (defScope s_count_above) csc_count_above_0 "letter" := ⟨rfl, by decide +kernel, by decide +kernel, rfl, by decide +kernel, rfl, rfl, by decide +kernel, rfl, by decide +kernel, by decide +kernel⟩
noncomputable def csc_count_above_1 : Scope := { kind := PySem.ScopeKind.function, names := [ (PySem.Str.ofString ".0", PySem.NameKind.local), (PySem.Str.ofString "place", PySem.NameKind.local), (PySem.Str.ofString "counted", PySem.NameKind.free), (PySem.Str.ofString "greater", PySem.NameKind.free), (PySem.Str.ofString "last", PySem.NameKind.free)], isGenerator := false, isCoroutine := false, more := [] : PySem.Scope }
theorem cs_count_above_1 : CompSc ["word", "kinds", "greater", "counted", "last"] ["place", "word", "kinds", "greater", "counted", "last"] (defScope s_count_above) csc_count_above_1 "place" := ⟨rfl, by decide +kernel, by decide +kernel, rfl, by decide +kernel, rfl, rfl, by decide +kernel, rfl, by decide +kernel, by decide +kernel⟩
theorem sc_up_to : FnScope ["word", "kinds"] ["word", "kinds"] (defScope s_up_to) := ⟨rfl, rfl, rfl, by decide +kernel, rfl, by decide +kernel, by decide +kernel⟩
theorem sc_first_word_above : FnScope ["length", "kinds", "number", "counted_up_to", "first", "last", "middle"] ["length", "kinds", "number", "counted_up_to"] (defScope s_first_word_above) := ⟨rfl, rfl, rfl, by decide +kernel, rfl, by decide +kernel, by decide +kernel⟩
theorem sc_looked_first : FnScope ["first", "kinds"] ["first", "kinds"] (defScope s_looked_first) := ⟨rfl, rfl, rfl, by decide +kernel, rfl, by decide +kernel, by decide +kernel⟩
theorem sc_count_below : FnScope ["least", "kinds"] ["least", "kinds"] (defScope s_count_below) := ⟨rfl, rfl, rfl, by decide +kernel, rfl, by decide +kernel, by decide +kernel⟩
theorem sc_begin_place : FnScope ["first", "kinds", "least"] ["first", "kinds", "least"] (defScope s_begin_place) := ⟨rfl, rfl, rfl, by decide +kernel, rfl, by decide +kernel, by decide +kernel⟩
theorem sc_ring_size : FnScope ["first", "kinds"] ["first", "kinds"] (defScope s_ring_size) := ⟨rfl, rfl, rfl, by decide +kernel, rfl, by decide +kernel, by decide +kernel⟩
theorem sc_put_together : FnScope ["first", "kinds", "least", "many", "text", "at", "later"] ["first", "kinds", "least", "many"] (defScope s_put_together) := ⟨rfl, rfl, rfl, by decide +kernel, rfl, by decide +kernel, by decide +kernel⟩
theorem sc_piece_at : FnScope ["first", "kinds", "place", "many", "size", "below", "least", "start"] ["first", "kinds", "place", "many"] (defScope s_piece_at) := ⟨rfl, rfl, rfl, by decide +kernel, rfl, by decide +kernel, by decide +kernel⟩
theorem sc_letter_at : FnScope ["first", "kinds", "place"] ["first", "kinds", "place"] (defScope s_letter_at) := ⟨rfl, rfl, rfl, by decide +kernel, rfl, by decide +kernel, by decide +kernel⟩
theorem sc_looked_for : FnScope ["first", "kinds", "word"] ["first", "kinds", "word"] (defScope s_looked_for) := ⟨rfl, rfl, rfl, by decide +kernel, rfl, by decide +kernel, by decide +kernel⟩
theorem sc_place_of : FnScope ["first", "kinds", "word", "size", "top", "by", "least", "later"] ["first", "kinds", "word"] (defScope s_place_of) := ⟨rfl, rfl, rfl, by decide +kernel, rfl, by decide +kernel, by decide +kernel⟩
theorem sc_whole_ring : FnScope ["first", "kinds", "size"] ["first", "kinds"] (defScope s_whole_ring) := ⟨rfl, rfl, rfl, by decide +kernel, rfl, by decide +kernel, by decide +kernel⟩
theorem sc__law_mixed : FnScope ["cell", "k", "m"] ["cell", "k"] (defScope s__law_mixed) := ⟨rfl, rfl, rfl, by decide +kernel, rfl, by decide +kernel, by decide +kernel⟩
theorem sc__law_kinds : FnScope ["cell"] ["cell"] (defScope s__law_kinds) := ⟨rfl, rfl, rfl, by decide +kernel, rfl, by decide +kernel, by decide +kernel⟩
theorem sc__law_refused : FnScope ["way", "first", "kinds", "many", "word", "found", "e", "told"] ["way", "first", "kinds", "many", "word"] (defScope s__law_refused) := ⟨rfl, rfl, rfl, by decide +kernel, rfl, by decide +kernel, by decide +kernel⟩
theorem sc__law_words_refused : FnScope ["cell", "words", "first", "word", "due"] ["cell"] (defScope s__law_words_refused) := ⟨rfl, rfl, rfl, by decide +kernel, rfl, by decide +kernel, by decide +kernel⟩
theorem sc_law : FnScope ["script", "cell", "far", "kinds", "firsts", "first", "great", "found", "longer"] ["script"] (defScope s_law) := ⟨rfl, rfl, rfl, by decide +kernel, rfl, by decide +kernel, by decide +kernel⟩
noncomputable def csc_law_0 : Scope := { kind := PySem.ScopeKind.function, names := [ (PySem.Str.ofString ".0", PySem.NameKind.local), (PySem.Str.ofString "way", PySem.NameKind.local), (PySem.Str.ofString "_law_refused", PySem.NameKind.globalImplicit), (PySem.Str.ofString "kinds", PySem.NameKind.free)], isGenerator := false, isCoroutine := false, more := [] : PySem.Scope }
theorem cs_law_0 : CompSc ["script", "cell", "far", "kinds", "firsts", "first", "great", "found", "longer"] ["way", "script", "cell", "far", "kinds", "firsts", "first", "great", "found", "longer"] (defScope s_law) csc_law_0 "way" := ⟨rfl, by decide +kernel, by decide +kernel, rfl, by decide +kernel, rfl, rfl, by decide +kernel, rfl, by decide +kernel, by decide +kernel⟩
noncomputable def csc_law_1 : Scope := { kind := PySem.ScopeKind.function, names := [ (PySem.Str.ofString ".0", PySem.NameKind.local), (PySem.Str.ofString "way", PySem.NameKind.local), (PySem.Str.ofString "_law_refused", PySem.NameKind.globalImplicit), (PySem.Str.ofString "first", PySem.NameKind.free), (PySem.Str.ofString "kinds", PySem.NameKind.free)], isGenerator := false, isCoroutine := false, more := [] : PySem.Scope }
theorem cs_law_1 : CompSc ["script", "cell", "far", "kinds", "firsts", "first", "great", "found", "longer"] ["way", "script", "cell", "far", "kinds", "firsts", "first", "great", "found", "longer"] (defScope s_law) csc_law_1 "way" := ⟨rfl, by decide +kernel, by decide +kernel, rfl, by decide +kernel, rfl, rfl, by decide +kernel, rfl, by decide +kernel, by decide +kernel⟩
noncomputable def csc_law_2 : Scope := { kind := PySem.ScopeKind.function, names := [ (PySem.Str.ofString ".0", PySem.NameKind.local), (PySem.Str.ofString "k", PySem.NameKind.local), (PySem.Str.ofString "longer", PySem.NameKind.free)], isGenerator := false, isCoroutine := false, more := [] : PySem.Scope }
theorem cs_law_2 : CompSc ["script", "cell", "far", "kinds", "firsts", "first", "great", "found", "longer"] ["k", "script", "cell", "far", "kinds", "firsts", "first", "great", "found", "longer"] (defScope s_law) csc_law_2 "k" := ⟨rfl, by decide +kernel, by decide +kernel, rfl, by decide +kernel, rfl, rfl, by decide +kernel, rfl, by decide +kernel, by decide +kernel⟩
set_option genInjectivity false in
structure Adr where
  BadKinds : Addr
  BadWord : Addr
  NoSuch : Addr
  TooMany : Addr
  OnceError : Addr
  u_LETTERS : Value
  u_LONGEST : Value
  u_MOST_OF_A_PIECE : Value
  u_MOST_WORDS : Value

set_option genInjectivity false in
structure Txt (K : PySem.W.Frag) (mg : Str → Option Value) (ad : Adr) : Prop where
  b_ValueError : mg "ValueError" = none
  b_isinstance : mg "isinstance" = none
  b_len : mg "len" = none
  b_max : mg "max" = none
  b_range : mg "range" = none
  b_reversed : mg "reversed" = none
  b_set : mg "set" = none
  b_sum : mg "sum" = none
  m_BadKinds : mg "BadKinds" = some (.ref ad.BadKinds)
  m_BadWord : mg "BadWord" = some (.ref ad.BadWord)
  m_NoSuch : mg "NoSuch" = some (.ref ad.NoSuch)
  m_TooMany : mg "TooMany" = some (.ref ad.TooMany)
  m_OnceError : mg "OnceError" = some (.ref ad.OnceError)
  x_BadKinds : Exc K mg "BadKinds" ad.BadKinds
  x_BadWord : Exc K mg "BadWord" ad.BadWord
  x_NoSuch : Exc K mg "NoSuch" ad.NoSuch
  x_TooMany : Exc K mg "TooMany" ad.TooMany
  n_BadKinds : Knd K ad.BadKinds
  n_BadWord : Knd K ad.BadWord
  n_NoSuch : Knd K ad.NoSuch
  n_TooMany : Knd K ad.TooMany
  g_LETTERS : mg "LETTERS" = some ad.u_LETTERS
  r_LETTERS : RelV (T [97, 98, 99, 100, 101, 102]) ad.u_LETTERS
  g_LONGEST : mg "LONGEST" = some ad.u_LONGEST
  r_LONGEST : RelV (.int 24) ad.u_LONGEST
  g_MOST_OF_A_PIECE : mg "MOST_OF_A_PIECE" = some ad.u_MOST_OF_A_PIECE
  r_MOST_OF_A_PIECE : RelV (.int 200) ad.u_MOST_OF_A_PIECE
  g_MOST_WORDS : mg "MOST_WORDS" = some ad.u_MOST_WORDS
  r_MOST_WORDS : RelV (.int 4096) ad.u_MOST_WORDS
  q_ko : PySem.W.exmOne K (.ref ad.BadKinds) (.ref ad.OnceError) = some true
  q_kv : PySem.W.kitOne K (.ref ad.BadKinds) (.type "ValueError") = some true
  q_kk : PySem.W.kitOne K (.ref ad.BadKinds) (.ref ad.BadKinds) = some true
  q_kw : PySem.W.kitOne K (.ref ad.BadKinds) (.ref ad.BadWord) = some false
  q_ks : PySem.W.kitOne K (.ref ad.BadKinds) (.ref ad.NoSuch) = some false
  q_km : PySem.W.kitOne K (.ref ad.BadKinds) (.ref ad.TooMany) = some false
  q_wo : PySem.W.exmOne K (.ref ad.BadWord) (.ref ad.OnceError) = some true
  q_wv : PySem.W.kitOne K (.ref ad.BadWord) (.type "ValueError") = some true
  q_wk : PySem.W.kitOne K (.ref ad.BadWord) (.ref ad.BadKinds) = some false
  q_ww : PySem.W.kitOne K (.ref ad.BadWord) (.ref ad.BadWord) = some true
  q_ws : PySem.W.kitOne K (.ref ad.BadWord) (.ref ad.NoSuch) = some false
  q_wm : PySem.W.kitOne K (.ref ad.BadWord) (.ref ad.TooMany) = some false
  q_so : PySem.W.exmOne K (.ref ad.NoSuch) (.ref ad.OnceError) = some true
  q_sv : PySem.W.kitOne K (.ref ad.NoSuch) (.type "ValueError") = some true
  q_sk : PySem.W.kitOne K (.ref ad.NoSuch) (.ref ad.BadKinds) = some false
  q_sw : PySem.W.kitOne K (.ref ad.NoSuch) (.ref ad.BadWord) = some false
  q_ss : PySem.W.kitOne K (.ref ad.NoSuch) (.ref ad.NoSuch) = some true
  q_sm : PySem.W.kitOne K (.ref ad.NoSuch) (.ref ad.TooMany) = some false
  q_mo : PySem.W.exmOne K (.ref ad.TooMany) (.ref ad.OnceError) = some true
  q_mv : PySem.W.kitOne K (.ref ad.TooMany) (.type "ValueError") = some true
  q_mk : PySem.W.kitOne K (.ref ad.TooMany) (.ref ad.BadKinds) = some false
  q_mw : PySem.W.kitOne K (.ref ad.TooMany) (.ref ad.BadWord) = some false
  q_ms : PySem.W.kitOne K (.ref ad.TooMany) (.ref ad.NoSuch) = some false
  q_mm : PySem.W.kitOne K (.ref ad.TooMany) (.ref ad.TooMany) = some true
theorem cxK2 {CX : CXT} {P : Program} {w : World} {K : PySem.W.Frag} {mg : Str → Option Value} {base : Heap} {N : List Str} {q : Str} {sc : Scope} {f : Addr} {cdv : Value} {A : Around} {outer : List Env} {s : Shared} {H : Hp} {E : XK} : (cxOf CX P w K mg base N q sc f cdv A outer s H E).nox.K = K := rfl
section
variable {P : Program} {w : World} {K : PySem.W.Frag} {mg : Str → Option Value} {base : Heap} {ad : Adr}

theorem same_upd {H : Hp} {D : Addr} {o : HO} (h : H D = none) : Same H (upd H D o) := fun b u e => by rw [upd_ne (ne_of_none e h)]; exact e
theorem itP {c A B : Prop} [Decidable c] (hc : c) (h : A) : if c then A else B := by rw [if_pos hc]; exact h
theorem itN {c A B : Prop} [Decidable c] (hc : ¬ c) (h : B) : if c then A else B := by rw [if_neg hc]; exact h

theorem abc6 {m : Nat} (h : m < 6) : ([97, 98, 99, 100, 101, 102] : List Nat)[m]? = some (97 + m) := by
  have key : ∀ m : Nat, m < 6 → ([97, 98, 99, 100, 101, 102] : List Nat)[m]? = some (97 + m) := by decide
  exact key m h
theorem abc_mem {k c : Nat} (hk : k ≤ 6) : c ∈ ([97, 98, 99, 100, 101, 102] : List Nat).take k ↔ 97 ≤ c ∧ c < 97 + k := by
  have key : ∀ k : Nat, k < 7 → ([97, 98, 99, 100, 101, 102] : List Nat).take k = (List.range k).map (97 + ·) := by decide
  rw [key k (Nat.lt_succ_of_le hk), List.mem_map]
  exact ⟨fun ⟨i, h, e⟩ => e ▸ ⟨Nat.le_add_right _ _, Nat.add_lt_add_left (List.mem_range.mp h) _⟩, fun ⟨h1, h2⟩ => ⟨c - 97, List.mem_range.mpr (Nat.sub_lt_left_of_lt_add h1 h2), Nat.add_sub_cancel' h1⟩⟩
theorem ones_rev (g : Nat → Nat) : ∀ l : List Nat, (l.map fun j => [g j]).flatten = l.map g
  | [] => rfl
  | x :: l => by rw [List.map_cons, List.flatten_cons, ones_rev g l, List.map_cons]; rfl

noncomputable def mixedZ (c k : Int) : Int := ((c * 48271 + (k + 1) * (k + 1) * 69621) % 2147483647) * ((c * 48271 + (k + 1) * (k + 1) * 69621) % 2147483647) % 2147483629 / 8
noncomputable def spMixed : Sp := fun vs H Q _ => ∃ (c k : Int), vs = [.int c, .int k] ∧ (0 ≤ k ∧ k ≤ 1000) ∧ Q (.int (mixedZ c k)) H
theorem ok__law_mixed {f : Addr} {fd : FuncData} (F : Fun K "_law_mixed" "_law_mixed" s__law_mixed f fd) (tt : Txt K mg ad) : FnOk P w K mg base (CX1 P w) 1 f fd ["cell", "k"] spMixed := by
  refine F.okN sc__law_mixed (fun vs H Q E h => ?_) (fun cdv A outer s H vs Q E hr h => ?_)
  · obtain ⟨c, k, rfl, _⟩ := h
    rfl
  · obtain ⟨c, k, rfl, hk, q⟩ := h
    refine ⟨_, (pss_cons (ps_set (i := 2) sc__law_mixed.nd rfl (Or.inl rfl) (pe_op op_mod (pe_op op_add (pe_op op_mul (pv 0) pe_int) (pe_op op_mul (pe_op op_mul (pe_op op_add (pv 1) pe_int) (pe_op op_add (pv 1) pe_int)) pe_int)) pe_int))
      (pss_one (ps_ret (pe_op op_fdiv (pe_op op_mod (pe_op op_mul (pv 2) (pv 2)) pe_int) pe_int)))), ?_⟩
    (try rw [cxK2]); (try rw [cxK1])
    refine ⟨_, rfl, _, _, rfl, rfl, .inr ⟨by decide, by decide⟩, _, rfl, _, _, rfl, rfl, _, rfl, _, _, rfl, rfl, _, _, rfl, rfl, .inl ⟨by (first | lia | omega), by (first | lia | omega)⟩, _, _, rfl, rfl, .inr ⟨by decide, by decide⟩, _, _, rfl, rfl, _, _, rfl, rfl, (by show (0 : Int) < 2147483647; decide), ?_⟩
    have h1 := Int.emod_nonneg (c * 48271 + (k + 1) * (k + 1) * 69621) (show (2147483647 : Int) ≠ 0 by decide)
    have h2 := Int.emod_lt_of_pos (c * 48271 + (k + 1) * (k + 1) * 69621) (show (0 : Int) < 2147483647 by decide)
    unfold mixedZ at q
    refine ⟨_, rfl, _, rfl, _, _, rfl, rfl, .inl ⟨by (first | lia | omega), by (first | lia | omega)⟩, _, _, rfl, rfl, (by show (0 : Int) < 2147483629; decide), _, _, rfl, rfl, ⟨by decide, by decide⟩, ?_⟩
    exact q
noncomputable def kindsZ (c : Int) : Int := 1 + mixedZ c 6 % 6
theorem kindsZ_b (c : Int) : 1 ≤ kindsZ c ∧ kindsZ c ≤ 6 := by
  have h1 := Int.emod_nonneg (mixedZ c 6) (show (6 : Int) ≠ 0 by decide)
  have h2 := Int.emod_lt_of_pos (mixedZ c 6) (show (0 : Int) < 6 by decide)
  unfold kindsZ
  (first | lia | omega)
noncomputable def spKinds : Sp := fun vs H Q _ => ∃ (c : Int), vs = [.int c] ∧ Q (.int (kindsZ c)) H
theorem ok__law_kinds {f : Addr} {fd : FuncData} (F : Fun K "_law_kinds" "_law_kinds" s__law_kinds f fd) (tt : Txt K mg ad) (C__law_mixed : Cal P w K mg base (CX1 P w) "_law_mixed" 1 ["cell", "k"] spMixed) : FnOk P w K mg base (CX1 P w) 2 f fd ["cell"] spKinds := by
  refine F.okN sc__law_kinds (fun vs H Q E h => ?_) (fun cdv A outer s H vs Q E hr h => ?_)
  · obtain ⟨c, rfl, _⟩ := h
    rfl
  · obtain ⟨c, rfl, q⟩ := h
    refine ⟨_, (pss_one (ps_ret (pe_op op_add pe_int (pe_op op_mod (pe_cal C__law_mixed hr pass1 (pa_cN (pv 0) (pa_cC pe_int pa_nil))) pe_int)))), ?_⟩
    (try rw [cxK2]); (try rw [cxK1])
    refine ⟨_, rfl, c, 6, rfl, ⟨by decide, by decide⟩, ?_⟩
    refine ⟨_, _, rfl, rfl, (by show (0 : Int) < 6; decide), _, _, rfl, rfl, ?_⟩
    exact q

noncomputable def spKindsX (ad : Adr) : Sp := fun vs H Q E => ∃ k : Int, vs = [.int k] ∧ ((1 ≤ k ∧ k ≤ 6) → Q .non H) ∧ (¬ (1 ≤ k ∧ k ≤ 6) → E (.ref ad.BadKinds) none H)
theorem ok_looked_kinds {f : Addr} {fd : FuncData} (F : Fun K "looked_kinds" "looked_kinds" s_looked_kinds f fd) (tt : Txt K mg ad) : FnOk P w K mg base (CX1 P w) 1 f fd ["kinds"] (spKindsX ad) := by
  refine F.okX sc_looked_kinds (fun vs H Q E h => ?_) (fun cdv A outer s H vs Q E hr h => ?_)
  · obtain ⟨k, rfl, _⟩ := h
    rfl
  · obtain ⟨k, rfl, q, x⟩ := h
    have hs : sizeLine = 16777216 := sizeLine_eq
    refine ⟨_, (pss_one (ps_if (PW.pt (pw_or (pt_cmpR op_lt (pv 0) pe_int (nomark _)) (pw_or1 (pt_cmpR op_gt (pv 0) (pe_callB call_len_T (by rfl) tt.b_len PySem.boot_len (pa_cN (pe_glob (by rfl) tt.g_LETTERS tt.r_LETTERS) pa_nil)) (nomark _))))) (pss_one (ps_raise (E := fun cls H' => E cls none H') tt.x_BadKinds rfl (fun _ _ _ _ _ _ _ I hx q => raiseX I hx q) (pa_cC (pe_strT [107, 105, 110, 100, 115, 32, 97, 114, 101, 32, 97, 32, 119, 104, 111, 108, 101, 32, 110, 117, 109, 98, 101, 114, 32, 102, 114, 111, 109, 32, 49, 32, 116, 111, 32, 54] (by decide +kernel)) pa_nil))) pss_nil)), ?_⟩
    (try rw [cxK2]); (try rw [cxK1])
    refine ⟨_, rfl, _, _, rfl, rfl, _, rfl, ?_⟩  -- kinds < 1
    refine ite2 (fun h0 => iteT ?_) (fun h0 => ?_)
    · have h1 : k < 1 := of_decide_eq_true h0
      exact ⟨(by show 1 ≤ sizeLine; (first | lia | omega)), x fun z => by (first | lia | omega)⟩
    · have h1 : ¬ k < 1 := fun z => h0 (decide_eq_true z)
      refine ⟨_, rfl, _, rfl, (by show 6 ≤ sizeLine; (first | lia | omega)), _, _, rfl, rfl, _, rfl, ?_⟩  -- kinds > len(LETTERS)
      refine ite2 (fun h2 => ?_) (fun h2 => ?_)
      · have h3 : (6 : Int) < k := of_decide_eq_true h2
        exact ⟨(by show 1 ≤ sizeLine; (first | lia | omega)), x fun z => by (first | lia | omega)⟩
      · have h3 : ¬ (6 : Int) < k := fun z => h2 (decide_eq_true z)
        exact q ⟨by (first | lia | omega), by (first | lia | omega)⟩

noncomputable def spLenX (ad : Adr) : Sp := fun vs H Q E => ∃ n k : Int, vs = [.int n, .int k] ∧ ((1 ≤ k ∧ k ≤ 6) → (1 ≤ n ∧ n ≤ 24) → Q .non H) ∧ (¬ (1 ≤ k ∧ k ≤ 6) → E (.ref ad.BadKinds) none H) ∧ ((1 ≤ k ∧ k ≤ 6) → ¬ (1 ≤ n ∧ n ≤ 24) → E (.ref ad.BadWord) none H)
theorem ok_looked_length {f : Addr} {fd : FuncData} (F : Fun K "looked_length" "looked_length" s_looked_length f fd) (tt : Txt K mg ad) (C_looked_kinds : Cal P w K mg base (CX1 P w) "looked_kinds" 1 ["kinds"] (spKindsX ad)) :
    FnOk P w K mg base (CX1 P w) 2 f fd ["length", "kinds"] (spLenX ad) := by
  refine F.okX sc_looked_length (fun vs H Q E h => ?_) (fun cdv A outer s H vs Q E hr h => ?_)
  · obtain ⟨n, k, rfl, _⟩ := h
    rfl
  · obtain ⟨n, k, rfl, q, x1, x2⟩ := h
    have hs : sizeLine = 16777216 := sizeLine_eq
    refine ⟨_, (pss_cons (ps_expr (pe_cal C_looked_kinds hr passX (pa_cN (pv 1) pa_nil)))
      (pss_one (ps_if (PW.pt (pw_or (pt_cmpR op_lt (pv 0) pe_int (nomark _)) (pw_or1 (pt_cmpR op_gt (pv 0) (pe_glob (by rfl) tt.g_LONGEST tt.r_LONGEST) (nomark _))))) (pss_one (ps_raise (E := fun cls H' => E cls none H') tt.x_BadWord rfl (fun _ _ _ _ _ _ _ I hx q => raiseX I hx q) (pa_cC (pe_strT [97, 32, 119, 111, 114, 100, 32, 104, 97, 115, 32, 49, 32, 116, 111, 32, 50, 52, 32, 108, 101, 116, 116, 101, 114, 115] (by decide +kernel)) pa_nil))) pss_nil))), ?_⟩
    (try rw [cxK2]); (try rw [cxK1])
    refine ⟨_, rfl, k, rfl, fun hk => ?_, x1⟩  -- looked_kinds(kinds)
    refine ⟨_, rfl, _, _, rfl, rfl, _, rfl, ?_⟩  -- length < 1
    refine ite2 (fun h0 => iteT ?_) (fun h0 => ?_)
    · have h1 : n < 1 := of_decide_eq_true h0
      exact ⟨(by show 1 ≤ sizeLine; (first | lia | omega)), x2 hk fun z => by (first | lia | omega)⟩
    · have h1 : ¬ n < 1 := fun z => h0 (decide_eq_true z)
      refine ⟨_, rfl, _, _, rfl, rfl, _, rfl, ?_⟩  -- length > LONGEST
      refine ite2 (fun h2 => ?_) (fun h2 => ?_)
      · have h3 : (24 : Int) < n := of_decide_eq_true h2
        exact ⟨(by show 1 ≤ sizeLine; (first | lia | omega)), x2 hk fun z => by (first | lia | omega)⟩
      · have h3 : ¬ (24 : Int) < n := fun z => h2 (decide_eq_true z)
        exact q hk ⟨by (first | lia | omega), by (first | lia | omega)⟩

noncomputable def spLettersX (ad : Adr) : Sp := fun vs H Q E => ∃ k : Int, vs = [.int k] ∧ (∀ kn : Nat, k = (kn : Nat) → (1 ≤ kn ∧ kn ≤ 6) → Q (T (([97, 98, 99, 100, 101, 102] : List Nat).take kn)) H) ∧ (¬ (1 ≤ k ∧ k ≤ 6) → E (.ref ad.BadKinds) none H)
theorem ok_letters {f : Addr} {fd : FuncData} (F : Fun K "letters" "letters" s_letters f fd) (tt : Txt K mg ad) (C_looked_kinds : Cal P w K mg base (CX1 P w) "looked_kinds" 1 ["kinds"] (spKindsX ad)) : FnOk P w K mg base (CX1 P w) 2 f fd ["kinds"] (spLettersX ad) := by
  refine F.okX sc_letters (fun vs H Q E h => ?_) (fun cdv A outer s H vs Q E hr h => ?_)
  · obtain ⟨k, rfl, _⟩ := h
    rfl
  · obtain ⟨k, rfl, q, x⟩ := h
    have hs : sizeLine = 16777216 := sizeLine_eq
    refine ⟨_, (pss_cons (ps_expr (pe_cal C_looked_kinds hr passX (pa_cN (pv 0) pa_nil)))
      (pss_one (ps_ret (pe_slice sl_T (pe_glob (by rfl) tt.g_LETTERS tt.r_LETTERS) po_none (po_some (pv 0)))))), ?_⟩
    (try rw [cxK2]); (try rw [cxK1])
    refine ⟨_, rfl, k, rfl, fun hk => ?_, x⟩  -- looked_kinds(kinds)
    obtain ⟨kn, rfl⟩ : ∃ kn : Nat, k = (kn : Nat) := ⟨k.toNat, by (first | lia | omega)⟩
    refine ⟨_, rfl, _, rfl, _, rfl, (by show 6 ≤ sizeLine; (first | lia | omega)), ?_⟩  -- return LETTERS[:kinds]
    rw [cutL_to (by show kn ≤ 6; (first | lia | omega))]
    exact q kn rfl ⟨by (first | lia | omega), by (first | lia | omega)⟩

noncomputable def Good (w : List Nat) (kn : Nat) : Prop := (1 ≤ w.length ∧ w.length ≤ 24) ∧ ∀ c ∈ w, 97 ≤ c ∧ c < 97 + kn
noncomputable def spLookedX (ad : Adr) : Sp := fun vs H Q E => ∃ (w : List Nat) (k : Int), vs = [T w, .int k] ∧ w.length ≤ 100000 ∧ (¬ (1 ≤ k ∧ k ≤ 6) → E (.ref ad.BadKinds) none H) ∧
  ∀ kn : Nat, k = (kn : Nat) → (1 ≤ kn ∧ kn ≤ 6) → (Good w kn → Q .non H) ∧ (¬ Good w kn → E (.ref ad.BadWord) none H)
theorem ok_looked {f : Addr} {fd : FuncData} (F : Fun K "looked" "looked" s_looked f fd) (tt : Txt K mg ad) (C_looked_length : Cal P w K mg base (CX1 P w) "looked_length" 2 ["length", "kinds"] (spLenX ad))
    (C_letters : Cal P w K mg base (CX1 P w) "letters" 2 ["kinds"] (spLettersX ad)) : FnOk P w K mg base (CX1 P w) 3 f fd ["word", "kinds"] (spLookedX ad) := by
  refine F.okX sc_looked (fun vs H Q E h => ?_) (fun cdv A outer s H vs Q E hr h => ?_)
  · obtain ⟨w, k, rfl, _⟩ := h
    rfl
  · obtain ⟨w, k, rfl, hw, x1, q⟩ := h
    have hs : sizeLine = 16777216 := sizeLine_eq
    refine ⟨_, (pss_cons (ps_expr (pe_cal C_looked_length hr passX (pa_cK (pe_callB call_len_T (by rfl) tt.b_len PySem.boot_len (pa_cN (pv 0) pa_nil)) (pa_cN (pv 1) pa_nil))))
      (pss_cons (ps_set (i := 2) sc_looked.nd rfl (Or.inl rfl) (pe_cal C_letters hr passX (pa_cN (pv 1) pa_nil)))
      (pss_one (ps_for PassesOwn.leaving rfl (pi_str (pv 0)) (pg_name (i := 3) sc_looked.nd rfl (Or.inl rfl)) (pss_one (ps_if (pt_cmpR op_notin_sT (pv 3) (pv 2) (by with_unfolding_all rfl)) (pss_one (ps_raise (E := fun cls H' => E cls none H') tt.x_BadWord rfl (fun _ _ _ _ _ _ _ I hx q => raiseX I hx q) (pa_cC (pe_strT [97, 32, 119, 111, 114, 100, 32, 104, 97, 115, 32, 108, 101, 116, 116, 101, 114, 115, 32, 111, 102, 32, 105, 116, 115, 32, 107, 105, 110, 100, 115, 32, 97, 108, 111, 110, 101] (by decide +kernel)) pa_nil))) pss_nil)))))), ?_⟩
    (try rw [cxK2]); (try rw [cxK1])
    refine ⟨_, rfl, _, rfl, (by (first | lia | omega)), _, rfl, _, k, rfl, fun hk hn => ?_, x1, fun hk hn => ?_⟩  -- looked_length(len(word), kinds)
    rotate_left
    · obtain ⟨kn, rfl⟩ : ∃ kn : Nat, k = (kn : Nat) := ⟨k.toNat, by (first | lia | omega)⟩
      exact (q kn rfl ⟨by (first | lia | omega), by (first | lia | omega)⟩).2 fun z => hn ⟨by have := z.1; (first | lia | omega), by have := z.1; (first | lia | omega)⟩
    obtain ⟨kn, rfl⟩ : ∃ kn : Nat, k = (kn : Nat) := ⟨k.toNat, by (first | lia | omega)⟩
    obtain ⟨q1, q2⟩ := q kn rfl ⟨by (first | lia | omega), by (first | lia | omega)⟩
    refine ⟨_, rfl, _, rfl, fun kn' ek hk' => ?_, fun z => absurd hk z⟩  -- known = letters(kinds)
    obtain rfl : kn = kn' := by (first | lia | omega)
    refine ⟨_, rfl, _, rfl, ?_⟩  -- for word
    refine for_text (l := w) (fun i σ H2 => H = H2 ∧ (∀ c ∈ w.take i, 97 ≤ c ∧ c < 97 + kn) ∧ ∃ v, σ = [some (T w), some (.int (kn : Nat)), some (T (([97, 98, 99, 100, 101, 102] : List Nat).take kn)), v]) ⟨rfl, fun c hc => (by simp at hc), none, rfl⟩ ?_ ?_
    · rintro i c σ H2 hi ⟨rfl, hall, v, rfl⟩
      refine ⟨_, rfl, _, rfl, _, rfl, _, rfl, _, rfl, ?_⟩  -- sign not in known
      refine ite2 (fun h0 => ?_) (fun h0 => ?_)
      · have h1 : ¬ c ∈ ([97, 98, 99, 100, 101, 102] : List Nat).take kn := fun z => by
          rw [decide_eq_true z] at h0
          cases h0
        refine ⟨(by show 1 ≤ sizeLine; (first | lia | omega)), q2 fun z => h1 ?_⟩
        exact (abc_mem (by (first | lia | omega))).mpr (z.2 c (List.mem_of_getElem? hi))
      · have h1 : c ∈ ([97, 98, 99, 100, 101, 102] : List Nat).take kn := by
          apply Classical.byContradiction
          intro z
          rw [decide_eq_false z] at h0
          exact h0 rfl
        refine ⟨rfl, fun d hd => ?_, _, rfl⟩
        have hil := (List.getElem?_eq_some_iff.mp hi).1
        rw [List.take_add_one, hi] at hd
        rcases List.mem_append.mp hd with z | z
        · exact hall d z
        · have : d = c := by simpa using z
          subst this
          exact (abc_mem (by (first | lia | omega))).mp h1
    · rintro σ H2 ⟨rfl, hall, v, rfl⟩
      rw [List.take_length] at hall
      exact q1 ⟨⟨by (first | lia | omega), by (first | lia | omega)⟩, hall⟩

noncomputable def spTotal : Sp := fun vs H Q _ => ∃ n k : Nat, vs = [.int (n : Nat), .int (k : Nat)] ∧ (n ≤ 1000 ∧ k ≤ 1000) ∧ Q (.int ((k ^ n : Nat) : Int)) H

theorem ok_word_total {f : Addr} {fd : FuncData} (F : Fun K "word_total" "word_total" s_word_total f fd) (tt : Txt K mg ad) : FnOk P w K mg base (CX1 P w) 1 f fd ["length", "kinds"] spTotal := by
  refine F.okN sc_word_total (fun vs H Q E h => ?_) (fun cdv A outer s H vs Q E hr h => ?_)
  · obtain ⟨n, k, rfl, _⟩ := h
    rfl
  · obtain ⟨n, k, rfl, hn, q⟩ := h
    refine ⟨_, (pss_cons (ps_set (i := 2) sc_word_total.nd rfl (Or.inl rfl) pe_int)
      (pss_cons (ps_for PassesOwn.never rfl (pi_range1 (by rfl) tt.b_range (pa_cN (pv 0) pa_nil)) (pg_name (i := 3) sc_word_total.nd rfl (Or.inl rfl)) (pss_one (ps_set (i := 2) sc_word_total.nd rfl (Or.inl rfl) (pe_op op_mul (pv 2) (pv 1)))))
      (pss_one (ps_ret (pv 2))))), ?_⟩
    (try rw [cxK2]); (try rw [cxK1])
    refine ⟨_, rfl, _, rfl, by (first | lia | omega), by (first | lia | omega), ?_⟩  -- for range(length)
    rw [Int.toNat_natCast]
    refine for_range (fun i σ H2 => H2 = H ∧ ∃ v, σ = [some (.int (n : Nat)), some (.int (k : Nat)), some (.int ((k ^ i : Nat) : Int)), v]) ⟨rfl, none, rfl⟩ ?_ ?_
    · rintro i σ H2 hi ⟨rfl, v, rfl⟩
      refine ⟨_, rfl, _, rfl, _, _, rfl, rfl, .inr ⟨by (first | lia | omega), by (first | lia | omega)⟩, ?_⟩  -- total = total * kinds
      refine ⟨rfl, some (.int (0 + (i : Int))), ?_⟩
      rw [Nat.pow_succ, Int.natCast_mul]
      rfl
    · rintro σ H2 ⟨rfl, v, rfl⟩
      exact ⟨_, rfl, q⟩  -- return total

noncomputable def spSpell : Sp := fun vs H Q _ => ∃ N n k : Nat, vs = [.int (N : Nat), .int (n : Nat), .int (k : Nat)] ∧ (n ≤ 1000 ∧ 1 ≤ k ∧ k ≤ 6) ∧ ∀ H', Same H H' → Q (T (Wd.spell k n N)) H'
theorem ok_spelled {f : Addr} {fd : FuncData} (F : Fun K "spelled" "spelled" s_spelled f fd) (tt : Txt K mg ad) : FnOk P w K mg base (CX1 P w) 1 f fd ["number", "length", "kinds"] spSpell := by
  refine F.okN sc_spelled (fun vs H Q E h => ?_) (fun cdv A outer s H vs Q E hr h => ?_)
  · obtain ⟨N, n, k, rfl, _⟩ := h
    rfl
  · obtain ⟨N, n, k, rfl, hn, q⟩ := h
    have hs : sizeLine = 16777216 := sizeLine_eq
    refine ⟨_, (pss_cons (ps_set (i := 3) sc_spelled.nd rfl (Or.inl rfl) (pe_lst pa_nil))
      (pss_cons (ps_set (i := 4) sc_spelled.nd rfl (Or.inl rfl) (pv 0))
      (pss_cons (ps_for PassesOwn.never rfl (pi_range1 (by rfl) tt.b_range (pa_cN (pv 1) pa_nil)) (pg_name (i := 5) sc_spelled.nd rfl (Or.inl rfl)) (pss_cons (ps_expr (pe_bm PySem.F.plainAttrs_list PySem.F.slot_list_append PySem.F.type_list_append mt_append (pv 3) (pa_cS (pe_ix ix_T (pe_glob (by rfl) tt.g_LETTERS tt.r_LETTERS) (pe_op op_mod (pv 4) (pv 2)) (fun _ _ => rfl)) pa_nil)))
      (pss_one (ps_set (i := 4) sc_spelled.nd rfl (Or.inl rfl) (pe_op op_fdiv (pv 4) (pv 2))))))
      (pss_one (ps_ret (pe_joinrev rfl (by rfl) tt.b_reversed (pv 3) (by decide +kernel))))))), ?_⟩
    (try rw [cxK2]); (try rw [cxK1])
    refine ⟨(by show 0 ≤ sizeLine; (first | lia | omega)), fun D hD => ?_⟩  -- backward = []
    refine ⟨_, rfl, ?_⟩  -- rest = number
    refine ⟨_, rfl, _, rfl, by (first | lia | omega), by (first | lia | omega), ?_⟩  -- for range(length)
    rw [Int.toNat_natCast]
    refine for_range (fun i σ H2 => Same H H2 ∧ H2 D = some (.lst (((List.range i).map fun j => [97 + N / k ^ j % k]).map T)) ∧ ∃ v, σ = [some (.int (N : Nat)), some (.int (n : Nat)), some (.int (k : Nat)), some (.ref D), some (.int ((N / k ^ i : Nat) : Int)), v])
      ⟨(fun b o e => by rw [upd_ne (ne_of_none e hD)]; exact e), upd_same, none, by rw [Nat.pow_zero, Nat.div_one]; rfl⟩ ?_ ?_
    · rintro i σ H2 hi ⟨s2, hd, v, rfl⟩
      have hm := Nat.mod_lt (N / k ^ i) (show 0 < k by (first | lia | omega))
      have hat : atI [97, 98, 99, 100, 101, 102] (((N / k ^ i : Nat) : Int) % ((k : Nat) : Int)) = some (97 + N / k ^ i % k) := by
        rw [← Int.natCast_emod]
        exact atI_nat (abc6 (by (first | lia | omega)))
      refine ⟨_, rfl, .inl ⟨rfl, _, SqL.of hd⟩, _, rfl, _, rfl, _, _, rfl, rfl, (by show (0 : Int) < ((k : Nat) : Int); (first | lia | omega)), _, rfl, _, rfl, (by show 6 ≤ sizeLine; (first | lia | omega)), _, hat, D, _, _, rfl, rfl, hd, (by rw [List.length_map, List.length_map, List.length_range]; (first | lia | omega)), ?_⟩  -- backward.append(LETTERS[rest % kinds])
      refine ⟨_, rfl, _, rfl, _, _, rfl, rfl, ⟨by (first | lia | omega), by (first | lia | omega)⟩, ?_⟩  -- rest = rest // kinds
      refine ⟨(fun b o e => by rw [upd_ne (ne_of_none e hD)]; exact s2 b o e), ?_, some (.int (0 + (i : Int))), ?_⟩
      · rw [List.range_succ, List.map_append, List.map_append]
        exact upd_same
      · rw [Nat.pow_succ, ← Nat.div_div_eq_div_mul, Int.natCast_ediv]
        rfl
    · rintro σ H2 ⟨s2, hd, v, rfl⟩
      refine ⟨_, rfl, D, _, rfl, SqL.of hd, ?_, ?_⟩  -- return ''.join(reversed(backward))
      · rw [ones_rev, List.length_map, List.length_range]
        (first | lia | omega)
      · rw [← List.map_reverse, ones_rev, List.map_reverse, Wd.spell_rev]
        exact q H2 s2
noncomputable def spTurned : Sp := fun vs H Q _ => ∃ (w : List Nat) (b : Int), vs = [T w, .int b] ∧ w.length ≤ 10000 ∧ Q (T (Wd.rot (b % (w.length : Int)).toNat w)) H
theorem ok_turned {f : Addr} {fd : FuncData} (F : Fun K "turned" "turned" s_turned f fd) (tt : Txt K mg ad) : FnOk P w K mg base (CX1 P w) 1 f fd ["text", "by"] spTurned := by
  refine F.okN sc_turned (fun vs H Q E h => ?_) (fun cdv A outer s H vs Q E hr h => ?_)
  · obtain ⟨w, b, rfl, _⟩ := h
    rfl
  · obtain ⟨w, b, rfl, hw, q⟩ := h
    have hs : sizeLine = 16777216 := sizeLine_eq
    refine ⟨_, (pss_cons (ps_if (pt_cmpR op_eq_T (pv 0) (pe_strT [] (by decide +kernel)) (nomark _)) (pss_one (ps_ret (pv 0))) pss_nil)
      (pss_cons (ps_set (i := 2) sc_turned.nd rfl (Or.inl rfl) (pe_op op_mod (pv 1) (pe_callB call_len_T (by rfl) tt.b_len PySem.boot_len (pa_cN (pv 0) pa_nil))))
      (pss_one (ps_ret (pe_op op_add_T (pe_slice sl_T (pv 0) (po_some (pv 2)) po_none) (pe_slice sl_T (pv 0) po_none (po_some (pv 2)))))))), ?_⟩
    (try rw [cxK2]); (try rw [cxK1])
    refine ⟨_, rfl, _, rfl, _, rfl, _, rfl, ?_⟩
    refine ite2 (fun h0 => ?_) (fun h0 => ?_)
    · have e : w = [] := of_decide_eq_true h0
      subst e
      refine ⟨_, rfl, ?_⟩
      have e2 : Wd.rot (b % (([] : List Nat).length : Int)).toNat [] = [] := by simp [Wd.rot]
      rw [e2] at q
      exact q
    · have hne : w ≠ [] := fun z => h0 (decide_eq_true z)
      have hp : 0 < w.length := List.length_pos_iff.mpr hne
      have b0 := Int.emod_nonneg b (show (w.length : Int) ≠ 0 by (first | lia | omega))
      have b1 := Int.emod_lt_of_pos b (show (0 : Int) < (w.length : Int) by (first | lia | omega))
      refine ⟨_, rfl, _, rfl, _, rfl, (by (first | lia | omega)), _, _, rfl, rfl, (by show (0 : Int) < ((w.length : Nat) : Int); (first | lia | omega)), ?_⟩
      obtain ⟨m, hm⟩ := Int.eq_ofNat_of_zero_le b0
      have hm' : b % (w.length : Int) = (m : Int) := hm
      rw [hm', Int.toNat_natCast] at q
      rw [hm'] at b1
      refine ⟨_, rfl, _, rfl, _, rfl, _, rfl, (by (first | lia | omega)), _, rfl, _, rfl, _, rfl, _, rfl, (by (first | lia | omega)), _, rfl, _, rfl, ?_, ?_⟩
      · have c1 := cutL_length_le w (some (b % (w.length : Int))) none
        have c2 := cutL_length_le w none (some (b % (w.length : Int)))
        (first | lia | omega)
      · have e : cutL w (some (b % (w.length : Int))) none ++ cutL w none (some (b % (w.length : Int))) = Wd.rot m w := by
          rw [hm', cutL_from (by (first | lia | omega)), cutL_to (by (first | lia | omega))]
          rfl
        rw [e]
        exact q
noncomputable def spTurnBy : Sp := fun vs H Q _ => ∃ (w : List Nat), vs = [T w] ∧ w.length ≤ 10000 ∧ Q (.int ((Wd.turnBy w : Nat) : Int)) H
theorem ok_turn_by {f : Addr} {fd : FuncData} (F : Fun K "turn_by" "turn_by" s_turn_by f fd) (tt : Txt K mg ad) (C_turned : Cal P w K mg base (CX1 P w) "turned" 1 ["text", "by"] spTurned) : FnOk P w K mg base (CX1 P w) 2 f fd ["word"] spTurnBy := by
  refine F.okN sc_turn_by (fun vs H Q E h => ?_) (fun cdv A outer s H vs Q E hr h => ?_)
  · obtain ⟨w, rfl, _⟩ := h
    rfl
  · obtain ⟨w, rfl, hw, q⟩ := h
    have hs : sizeLine = 16777216 := sizeLine_eq
    refine ⟨_, (pss_cons (ps_set (i := 1) sc_turn_by.nd rfl (Or.inl rfl) pe_int)
      (pss_cons (ps_for PassesOwn.never rfl (pi_range2 (by rfl) tt.b_range (pa_cC pe_int (pa_cK (pe_callB call_len_T (by rfl) tt.b_len PySem.boot_len (pa_cN (pv 0) pa_nil)) pa_nil))) (pg_name (i := 2) sc_turn_by.nd rfl (Or.inl rfl)) (pss_one (ps_if (pt_cmpR op_lt_T (pe_cal C_turned hr pass1 (pa_cN (pv 0) (pa_cN (pv 2) pa_nil))) (pe_cal C_turned hr pass1 (pa_cN (pv 0) (pa_cN (pv 1) pa_nil))) (nomark _)) (pss_one (ps_set (i := 1) sc_turn_by.nd rfl (Or.inl rfl) (pv 2))) pss_nil)))
      (pss_one (ps_ret (pv 1))))), ?_⟩
    (try rw [cxK2]); (try rw [cxK1])
    refine ⟨_, rfl, _, rfl, (by (first | lia | omega)), _, _, rfl, ⟨by decide, by decide, by (first | lia | omega), by (first | lia | omega)⟩, ?_⟩
    refine for_range (fun i σ H2 => H2 = H ∧ ∃ v, σ = [some (T w), some (.int ((Wd.bestTo w i : Nat) : Int)), v]) ⟨rfl, none, rfl⟩ ?_ ?_
    · rintro i σ H2 hi ⟨rfl, v, rfl⟩
      have hb := Wd.best_le w i
      have hlt : i + 1 < w.length := by (first | lia | omega)
      refine ⟨_, rfl, _, rfl, w, 1 + (i : Int), rfl, hw, ?_⟩
      refine ⟨_, rfl, _, rfl, w, ((Wd.bestTo w i : Nat) : Int), rfl, hw, ?_⟩
      have e1 : ((1 + (i : Int)) % (w.length : Int)).toNat = i + 1 := by rw [Int.emod_eq_of_lt (by (first | lia | omega)) (by (first | lia | omega))]; (first | lia | omega)
      have e2 : (((Wd.bestTo w i : Nat) : Int) % (w.length : Int)).toNat = Wd.bestTo w i := by rw [Int.emod_eq_of_lt (by (first | lia | omega)) (by (first | lia | omega))]; (first | lia | omega)
      rw [e1, e2]
      refine ⟨_, rfl, _, rfl, _, rfl, ?_⟩
      refine ite2 (fun h0 => ?_) (fun h0 => ?_)
      · have h1 : Wd.rot (i + 1) w < Wd.rot (Wd.bestTo w i) w := of_decide_eq_true h0
        refine ⟨_, rfl, rfl, some (.int (1 + (i : Int))), ?_⟩
        rw [Wd.bestTo, if_pos h1, show ((i + 1 : Nat) : Int) = 1 + (i : Int) by (first | lia | omega)]
        rfl
      · have h1 : ¬ Wd.rot (i + 1) w < Wd.rot (Wd.bestTo w i) w := fun z => h0 (decide_eq_true z)
        refine ⟨rfl, some (.int (1 + (i : Int))), ?_⟩
        rw [Wd.bestTo, if_neg h1]
        rfl
    · rintro σ H2 ⟨rfl, v, rfl⟩
      refine ⟨_, rfl, ?_⟩
      have e : ((w.length : Int) - 1).toNat = w.length - 1 := by (first | lia | omega)
      rw [e]
      exact q
noncomputable def spLeastTurn : Sp := fun vs H Q _ => ∃ (w : List Nat), vs = [T w] ∧ (0 < w.length ∧ w.length ≤ 10000) ∧ Q (T (Wd.least w)) H
theorem ok_least_turn {f : Addr} {fd : FuncData} (F : Fun K "least_turn" "least_turn" s_least_turn f fd) (tt : Txt K mg ad) (C_turned : Cal P w K mg base (CX1 P w) "turned" 1 ["text", "by"] spTurned) (C_turn_by : Cal P w K mg base (CX1 P w) "turn_by" 2 ["word"] spTurnBy) : FnOk P w K mg base (CX1 P w) 3 f fd ["word"] spLeastTurn := by
  refine F.okN sc_least_turn (fun vs H Q E h => ?_) (fun cdv A outer s H vs Q E hr h => ?_)
  · obtain ⟨w, rfl, _⟩ := h
    rfl
  · obtain ⟨w, rfl, hw, q⟩ := h
    refine ⟨_, (pss_one (ps_ret (pe_cal C_turned hr pass1 (pa_cN (pv 0) (pa_cK (pe_cal C_turn_by hr pass1 (pa_cN (pv 0) pa_nil)) pa_nil))))), ?_⟩
    (try rw [cxK2]); (try rw [cxK1])
    have hb := Wd.turnBy_lt hw.1
    refine ⟨_, rfl, _, rfl, w, rfl, hw.2, w, ((Wd.turnBy w : Nat) : Int), rfl, hw.2, ?_⟩
    have e2 : (((Wd.turnBy w : Nat) : Int) % (w.length : Int)).toNat = Wd.turnBy w := by rw [Int.emod_eq_of_lt (by (first | lia | omega)) (by (first | lia | omega))]; (first | lia | omega)
    rw [e2, ← Wd.least_eq]
    exact q
noncomputable def spIsLeast : Sp := fun vs H Q _ => ∃ (w : List Nat), vs = [T w] ∧ w.length ≤ 10000 ∧ Q (.bl (decide (w = Wd.least w))) H
theorem ok_is_least {f : Addr} {fd : FuncData} (F : Fun K "is_least" "is_least" s_is_least f fd) (tt : Txt K mg ad) (C_turn_by : Cal P w K mg base (CX1 P w) "turn_by" 2 ["word"] spTurnBy) : FnOk P w K mg base (CX1 P w) 3 f fd ["word"] spIsLeast := by
  refine F.okN sc_is_least (fun vs H Q E h => ?_) (fun cdv A outer s H vs Q E hr h => ?_)
  · obtain ⟨w, rfl, _⟩ := h
    rfl
  · obtain ⟨w, rfl, hw, q⟩ := h
    refine ⟨_, (pss_one (ps_ret (pe_cmpR op_eq_I (pe_cal C_turn_by hr pass1 (pa_cN (pv 0) pa_nil)) pe_int (nomark _)))), ?_⟩
    (try rw [cxK2]); (try rw [cxK1])
    refine ⟨_, rfl, w, rfl, hw, _, rfl, _, rfl, ?_⟩
    have e : decide (((Wd.turnBy w : Nat) : Int) = 0) = decide (w = Wd.least w) := by
      rw [Bool.eq_iff_iff, decide_eq_true_iff, decide_eq_true_iff, ← Wd.isLeast_iff]
      (first | lia | omega)
    rw [e]
    exact q

theorem div_cast (a b : Nat) : ((a : Nat) : Int) / ((b : Nat) : Int) = ((a / b : Nat) : Int) := (Int.natCast_ediv a b).symm
noncomputable def spTimes : Sp := fun vs H Q _ => ∃ (w : List Nat), vs = [T w] ∧ (0 < w.length ∧ w.length ≤ 10000) ∧ ∀ p, Wd.RootLen w p → Q (.int ((w.length / p : Nat) : Int)) H
theorem ok_times_of {f : Addr} {fd : FuncData} (F : Fun K "times_of" "times_of" s_times_of f fd) (tt : Txt K mg ad) : FnOk P w K mg base (CX1 P w) 1 f fd ["word"] spTimes := by
  refine F.okN sc_times_of (fun vs H Q E h => ?_) (fun cdv A outer s H vs Q E hr h => ?_)
  · obtain ⟨w, rfl, _⟩ := h
    rfl
  · obtain ⟨w, rfl, hw, q⟩ := h
    have hs : sizeLine = 16777216 := sizeLine_eq
    refine ⟨_, (pss_cons (ps_for PassesOwn.never rfl (pi_range2 (by rfl) tt.b_range (pa_cC pe_int (pa_cK (pe_callB call_len_T (by rfl) tt.b_len PySem.boot_len (pa_cN (pv 0) pa_nil)) pa_nil))) (pg_name (i := 1) sc_times_of.nd rfl (Or.inl rfl)) (pss_cons (ps_set (i := 2) sc_times_of.nd rfl (Or.inl rfl) (pe_op op_fdiv (pe_callB call_len_T (by rfl) tt.b_len PySem.boot_len (pa_cN (pv 0) pa_nil)) (pv 1)))
      (pss_one (ps_if (pt_cmpR op_eq_T (pe_op op_mul_T (pe_slice sl_T (pv 0) po_none (po_some (pv 1))) (pv 2)) (pv 0) (nomark _)) (pss_one (ps_ret (pv 2))) pss_nil))))
      (pss_one (ps_ret pe_int))), ?_⟩
    (try rw [cxK2]); (try rw [cxK1])
    refine ⟨_, rfl, _, rfl, (by (first | lia | omega)), _, _, rfl, ⟨by decide, by decide, by (first | lia | omega), by (first | lia | omega)⟩, ?_⟩
    refine for_range (fun i σ H2 => H2 = H ∧ (∀ q, 0 < q → q ≤ i → Wd.rep (w.length / q) (w.take q) ≠ w) ∧ ∃ v v', σ = [some (T w), v, v']) ⟨rfl, fun q h0 h1 => by (first | lia | omega), none, none, rfl⟩ ?_ ?_
    · rintro i σ H2 hi ⟨rfl, hno, v, v', rfl⟩
      have hlt : i + 1 < w.length := by (first | lia | omega)
      have e1 : 1 + (i : Int) = ((i + 1 : Nat) : Int) := by (first | lia | omega)
      have hq : w.length / (i + 1) ≤ w.length := Nat.div_le_self _ _
      have hm : w.length / (i + 1) * (i + 1) ≤ w.length := Nat.div_mul_le_self _ _
      have ct : cutL w none (some (1 + (i : Int))) = w.take (i + 1) := by rw [e1]; exact cutL_to (by (first | lia | omega))
      have hl : (w.take (i + 1)).length = i + 1 := by rw [List.length_take]; (first | lia | omega)
      refine ⟨_, rfl, _, rfl, (by (first | lia | omega)), _, rfl, _, _, rfl, rfl, ⟨by (first | lia | omega), by (first | lia | omega)⟩, ?_⟩
      have e2 : (w.length : Int) / (1 + (i : Int)) = ((w.length / (i + 1) : Nat) : Int) := by rw [e1, div_cast]
      dsimp only
      rw [e2]
      refine ⟨_, rfl, _, rfl, _, rfl, _, rfl, (by (first | lia | omega)), _, rfl, _, rfl, w.length / (i + 1), rfl, ⟨by (first | lia | omega), (by rw [ct, hl]; (first | lia | omega))⟩, _, rfl, _, rfl, _, rfl, _, rfl, ?_⟩
      rw [ct]
      refine ite2 (fun h0 => ?_) (fun h0 => ?_)
      · have h1 : Wd.rep (w.length / (i + 1)) (w.take (i + 1)) = w := of_decide_eq_true h0
        exact ⟨_, rfl, q (i + 1) ⟨by (first | lia | omega), by (first | lia | omega), h1, fun p p0 p1 => hno p p0 (by (first | lia | omega))⟩⟩
      · have h1 : Wd.rep (w.length / (i + 1)) (w.take (i + 1)) ≠ w := fun z => h0 (decide_eq_true z)
        refine ⟨rfl, fun p p0 p1 => ?_, _, _, rfl⟩
        by_cases hp : p = i + 1
        · rw [hp]
          exact h1
        · exact hno p p0 (by (first | lia | omega))
    · rintro σ H2 ⟨rfl, hno, v, v', rfl⟩
      have e : Wd.rep (w.length / w.length) (w.take w.length) = w := by rw [Nat.div_self hw.1, List.take_length, Wd.rep_one]
      have z := q w.length ⟨hw.1, Nat.le_refl _, e, fun p p0 p1 => hno p p0 (by (first | lia | omega))⟩
      rw [Nat.div_self hw.1] at z
      exact z
noncomputable def spRoot : Sp := fun vs H Q _ => ∃ (w : List Nat), vs = [T w] ∧ (0 < w.length ∧ w.length ≤ 10000) ∧ ∀ p, Wd.RootLen w p → Q (T (w.take p)) H
theorem ok_root {f : Addr} {fd : FuncData} (F : Fun K "root" "root" s_root f fd) (tt : Txt K mg ad) (C_times_of : Cal P w K mg base (CX1 P w) "times_of" 1 ["word"] spTimes) : FnOk P w K mg base (CX1 P w) 2 f fd ["word"] spRoot := by
  refine F.okN sc_root (fun vs H Q E h => ?_) (fun cdv A outer s H vs Q E hr h => ?_)
  · obtain ⟨w, rfl, _⟩ := h
    rfl
  · obtain ⟨w, rfl, hw, q⟩ := h
    have hs : sizeLine = 16777216 := sizeLine_eq
    refine ⟨_, (pss_one (ps_ret (pe_slice sl_T (pv 0) po_none (po_some (pe_op op_fdiv (pe_callB call_len_T (by rfl) tt.b_len PySem.boot_len (pa_cN (pv 0) pa_nil)) (pe_cal C_times_of hr pass1 (pa_cN (pv 0) pa_nil))))))), ?_⟩
    (try rw [cxK2]); (try rw [cxK1])
    refine ⟨_, rfl, _, rfl, _, rfl, (by (first | lia | omega)), _, rfl, w, rfl, hw, fun p hp => ?_⟩
    have hd : p ∣ w.length := Nat.dvd_of_mod_eq_zero hp.rp.2.1
    have h1 : 0 < w.length / p := Nat.div_pos hp.le hp.pos
    have h2 : w.length / p ≤ w.length := Nat.div_le_self _ _
    have h3 : w.length / (w.length / p) = p := Nat.div_div_self hd (by (first | lia | omega))
    refine ⟨_, _, rfl, rfl, ⟨by (first | lia | omega), by (first | lia | omega)⟩, _, rfl, _, rfl, (by (first | lia | omega)), ?_⟩
    rw [div_cast, h3, cutL_to hp.le]
    exact q p hp

theorem abc_top {k : Nat} (h1 : 1 ≤ k) (h2 : k ≤ 6) : atI (([97, 98, 99, 100, 101, 102] : List Nat).take k) (-1) = some (96 + k) := by
  have key : ∀ m : Nat, m < 6 → atI (([97, 98, 99, 100, 101, 102] : List Nat).take (m + 1)) (-1) = some (96 + (m + 1)) := by decide
  obtain ⟨m, rfl⟩ : ∃ m, k = m + 1 := ⟨k - 1, by (first | lia | omega)⟩
  exact key m (by (first | lia | omega))
noncomputable def spFilled : Sp := fun vs H Q _ => ∃ (p : List Nat) (n k : Nat), vs = [T p, .int (n : Nat), .int (k : Nat)] ∧ ((1 ≤ k ∧ k ≤ 6) ∧ p.length ≤ n ∧ n ≤ 10000) ∧ Q (T (Wd.fill k n p)) H
theorem ok_filled {f : Addr} {fd : FuncData} (F : Fun K "filled" "filled" s_filled f fd) (tt : Txt K mg ad) (C_letters : Cal P w K mg base (CX1 P w) "letters" 2 ["kinds"] (spLettersX ad)) : FnOk P w K mg base (CX1 P w) 3 f fd ["text", "length", "kinds"] spFilled := by
  refine F.okN sc_filled (fun vs H Q E h => ?_) (fun cdv A outer s H vs Q E hr h => ?_)
  · obtain ⟨p, n, k, rfl, _⟩ := h
    rfl
  · obtain ⟨p, n, k, rfl, ⟨hk, hp, hn⟩, q⟩ := h
    have hs : sizeLine = 16777216 := sizeLine_eq
    refine ⟨_, (pss_one (ps_ret (pe_op op_add_T (pv 0) (pe_op op_mul_T (pe_ix ix_T (pe_cal C_letters hr pass1 (pa_cN (pv 2) pa_nil)) (pe_un un_neg pe_int) (fun _ _ => rfl)) (pe_op op_sub (pv 1) (pe_callB call_len_T (by rfl) tt.b_len PySem.boot_len (pa_cN (pv 0) pa_nil))))))), ?_⟩
    (try rw [cxK2]); (try rw [cxK1])
    refine ⟨_, rfl, _, rfl, _, rfl, fun kn ek hk2 => ?_, fun z => absurd ⟨by (first | lia | omega), by (first | lia | omega)⟩ z⟩  -- letters(kinds)
    obtain rfl : k = kn := by (first | lia | omega)
    refine ⟨_, rfl, _, rfl, _, rfl, (by rw [List.length_take]; (first | lia | omega)), 96 + k, abc_top hk.1 hk.2, _, rfl, _, rfl, _, rfl, (by (first | lia | omega)), _, _, rfl, rfl, _, rfl, n - p.length, congrArg V.int (by (first | lia | omega)), ⟨by (first | lia | omega), (by show (n - p.length) * 1 ≤ sizeLine; (first | lia | omega))⟩, _, rfl, _, rfl, (by rw [Wd.rep_len]; show p.length + (n - p.length) * 1 ≤ sizeLine; (first | lia | omega)), ?_⟩
    rw [Wd.rep_letter]
    exact q

noncomputable def spIsBeg : Sp := fun vs H Q _ => ∃ (p : List Nat) (n k : Nat), vs = [T p, .int (n : Nat), .int (k : Nat)] ∧ ((1 ≤ k ∧ k ≤ 6) ∧ p.length ≤ 10000 ∧ n ≤ 10000) ∧ ∀ b : Bool, (b = true ↔ Wd.IsB k n p) → Q (.bl b) H
theorem ok_is_beginning {f : Addr} {fd : FuncData} (F : Fun K "is_beginning" "is_beginning" s_is_beginning f fd) (tt : Txt K mg ad) (C_is_least : Cal P w K mg base (CX1 P w) "is_least" 3 ["word"] spIsLeast)
    (C_filled : Cal P w K mg base (CX1 P w) "filled" 3 ["text", "length", "kinds"] spFilled) : FnOk P w K mg base (CX1 P w) 4 f fd ["text", "length", "kinds"] spIsBeg := by
  refine F.okN sc_is_beginning (fun vs H Q E h => ?_) (fun cdv A outer s H vs Q E hr h => ?_)
  · obtain ⟨p, n, k, rfl, _⟩ := h
    rfl
  · obtain ⟨p, n, k, rfl, ⟨hk, hp, hn⟩, q⟩ := h
    have hs : sizeLine = 16777216 := sizeLine_eq
    refine ⟨_, (pss_one (ps_ret (pe_and (pe_cmpR op_le (pe_callB call_len_T (by rfl) tt.b_len PySem.boot_len (pa_cN (pv 0) pa_nil)) (pv 1) (nomark _)) (pe_one (pe_cal C_is_least hr pass1 (pa_cK (pe_cal C_filled hr pass1 (pa_cN (pv 0) (pa_cN (pv 1) (pa_cN (pv 2) pa_nil)))) pa_nil)))))), ?_⟩
    (try rw [cxK2]); (try rw [cxK1])
    refine ⟨_, rfl, _, rfl, (by (first | lia | omega)), _, rfl, _, _, rfl, rfl, _, rfl, ?_⟩  -- len(text) <= length
    refine ite2 (fun h0 => ?_) (fun h0 => ?_)
    · have h1 : p.length ≤ n := by have := of_decide_eq_true h0; (first | lia | omega)
      refine ⟨_, rfl, _, rfl, _, rfl, p, n, k, rfl, ⟨hk, h1, by (first | lia | omega)⟩, _, rfl, (by rw [Wd.fill_len h1]; (first | lia | omega)), q _ ?_⟩
      rw [decide_eq_true_iff]
      exact ⟨fun z => ⟨h1, z⟩, fun z => z.2⟩
    · have h1 : ¬ p.length ≤ n := fun z => h0 (decide_eq_true (by (first | lia | omega)))
      exact q false ⟨fun z => (by cases z), fun z => absurd z.1 h1⟩

theorem first_letter {k : Nat} (hk : 1 ≤ k ∧ k ≤ 6) (p : Nat → Bool) (h : p (96 + k) = true) : ∃ c r, (([97, 98, 99, 100, 101, 102] : List Nat).take k).filter p = c :: r ∧ (97 ≤ c ∧ c < 97 + k) ∧ p c = true ∧ ∀ d, 97 ≤ d → d < c → p d = false := by
  have hm : 96 + k ∈ (([97, 98, 99, 100, 101, 102] : List Nat).take k).filter p := List.mem_filter.mpr ⟨(abc_mem hk.2).mpr ⟨by (first | lia | omega), by (first | lia | omega)⟩, h⟩
  have hso : (([97, 98, 99, 100, 101, 102] : List Nat).take k).Pairwise (· < ·) := List.Pairwise.sublist (List.take_sublist _ _) (by decide)
  have hsf := hso.filter p
  cases hq : (([97, 98, 99, 100, 101, 102] : List Nat).take k).filter p with
  | nil => rw [hq] at hm; cases hm
  | cons c r =>
    have hc : c ∈ (([97, 98, 99, 100, 101, 102] : List Nat).take k).filter p := by rw [hq]; exact List.mem_cons_self
    obtain ⟨h1, h2⟩ := List.mem_filter.mp hc
    have h3 := (abc_mem hk.2).mp h1
    refine ⟨c, r, rfl, h3, h2, fun d hd hlt => ?_⟩
    cases hp : p d with
    | false => rfl
    | true =>
      have h4 : d ∈ c :: r := by rw [← hq]; exact List.mem_filter.mpr ⟨(abc_mem hk.2).mpr ⟨hd, by (first | lia | omega)⟩, hp⟩
      rw [hq] at hsf
      rcases List.mem_cons.mp h4 with h5 | h5
      · (first | lia | omega)
      · have := (List.pairwise_cons.mp hsf).1 d h5
        (first | lia | omega)
noncomputable def invFrom (k n : Nat) (p : List Nat) (H : Hp) (m : Nat) (σ : St) (H2 : Hp) : Prop := ∃ (r : List Nat) (v : Option V), m = n - r.length ∧ Same H H2 ∧ Wd.LF k n p r ∧ σ = [some (T p), some (.int (n : Nat)), some (.int (k : Nat)), some (T r), v]
noncomputable def spFrom : Sp := fun vs H Q _ => ∃ (p : List Nat) (n k : Nat), vs = [T p, .int (n : Nat), .int (k : Nat)] ∧ ((1 ≤ k ∧ k ≤ 6) ∧ n ≤ 1000 ∧ Wd.IsB k n p ∧ Wd.Okk k p) ∧ ∀ r H', Wd.LB k n p r → Same H H' → Q (T r) H'
theorem ok_least_from {f : Addr} {fd : FuncData} (F : Fun K "least_from" "least_from" s_least_from f fd) (tt : Txt K mg ad) (C_letters : Cal P w K mg base (CX1 P w) "letters" 2 ["kinds"] (spLettersX ad))
    (C_is_beginning : Cal P w K mg base (CX1 P w) "is_beginning" 4 ["text", "length", "kinds"] spIsBeg) : FnOk P w K mg base (CX1 P w) 5 f fd ["beginning", "length", "kinds"] spFrom := by
  refine F.okN sc_least_from (fun vs H Q E h => ?_) (fun cdv A outer s H vs Q E hr h => ?_)
  · obtain ⟨p, n, k, rfl, _⟩ := h
    rfl
  · obtain ⟨p, n, k, rfl, ⟨hk, hn, hb, ho⟩, q⟩ := h
    have hs : sizeLine = 16777216 := sizeLine_eq
    refine ⟨_, (pss_cons (ps_set (i := 3) sc_least_from.nd rfl (Or.inr rfl) (pv 0))
      (pss_cons (ps_while PassesOwn.never (pt_cmpR op_lt (pe_callB call_len_T (by rfl) tt.b_len PySem.boot_len (pa_cN (pv 3) pa_nil)) (pv 1) (nomark _)) (pss_cons (ps_setCompf (i := 4) cs_least_from_0 rfl (pi_str (pe_cal C_letters hr pass1 (pa_cN (pv 2) pa_nil))) (fun cl C s' H' fp => (pt_val (pe_cal C_is_beginning hr pass1 (pa_cB (pe_op op_add_T (pv 4) (pv 0)) (pa_cN (pv 2) (pa_cN (pv 3) pa_nil)))))) (fun cl C s' H' fp => (pv 0)) sc_least_from.nd rfl rfl)
      (pss_one (ps_set (i := 3) sc_least_from.nd rfl (Or.inr rfl) (pe_op op_add_T (pv 3) (pe_ix ix_list (pv 4) pe_int (fun _ _ => rfl)))))))
      (pss_one (ps_ret (pv 3))))), ?_⟩
    (try rw [cxK2]); (try rw [cxK1])
    refine ⟨_, rfl, ?_⟩  -- word = beginning
    refine ⟨invFrom k n p H, ⟨_, p, none, rfl, Same.refl _, Wd.LF.start hb ho, rfl⟩, ?_⟩
    rintro m σ H2 ⟨r, v, rfl, s2, hf, rfl⟩
    have hrl := hf.isb.1
    refine ⟨_, rfl, _, rfl, (by (first | lia | omega)), _, rfl, _, _, rfl, rfl, _, rfl, ?_⟩  -- len(word) < length
    refine ite2 (fun h0 => ?_) (fun h0 => ?_)
    · have h1 : r.length < n := by have := of_decide_eq_true h0; (first | lia | omega)
      refine ⟨fun σ' H' => ∃ m', m' < n - r.length ∧ invFrom k n p H m' σ' H', fun σ' H' z => z, ?_⟩
      refine ⟨_, rfl, _, rfl, fun kn ek hk2 => ?_, fun z => absurd ⟨by (first | lia | omega), by (first | lia | omega)⟩ z⟩  -- letters(kinds)
      obtain rfl : k = kn := by (first | lia | omega)
      refine ⟨_, rfl, ?_⟩
      refine compf_text (fun c => decide (Wd.IsB k n (r ++ [c]))) (by rw [List.length_take]; (first | lia | omega)) (fun i c H' hi s' N hN => ?_) (fun x H' N hN => ⟨_, rfl, hN⟩) fun D H3 hD s3 hd3 => ?_
      · refine ⟨_, rfl, _, rfl, _, rfl, _, rfl, (by show r.length + 1 ≤ sizeLine; (first | lia | omega)), _, rfl, _, rfl, r ++ [c], n, k, rfl, ⟨hk, (by rw [List.length_append]; show r.length + 1 ≤ 10000; (first | lia | omega)), by (first | lia | omega)⟩, fun b hb => ⟨b, rfl, ?_⟩⟩
        have e : b = decide (Wd.IsB k n (r ++ [c])) := by rw [Bool.eq_iff_iff, decide_eq_true_iff]; exact hb
        rw [e]
        exact hN H' (Same.refl _)
      · obtain ⟨c, rest, hq, hc, hpc, hno⟩ := first_letter hk (fun c => decide (Wd.IsB k n (r ++ [c]))) (decide_eq_true (hf.isb.snoc h1))
        rw [hq] at hd3
        refine ⟨_, rfl, _, rfl, D, _, _, T [c], rfl, rfl, SqL.of hd3, atI_nat (j := 0) rfl, _, rfl, _, rfl, (by show r.length + 1 ≤ sizeLine; (first | lia | omega)), ?_⟩  -- word = word + going_on[0]
        refine ⟨n - (r ++ [c]).length, ?_, r ++ [c], some (.ref D), rfl, s2.trans s3, hf.step (by (first | lia | omega)) h1 hc (of_decide_eq_true hpc) (fun d hd hlt => of_decide_eq_false (hno d hd hlt)), rfl⟩
        rw [List.length_append]
        show n - (r.length + 1) < n - r.length
        (first | lia | omega)
    · have h1 : ¬ r.length < n := fun z => h0 (decide_eq_true (by (first | lia | omega)))
      exact ⟨_, rfl, q r H2 (hf.done (by (first | lia | omega))) s2⟩  -- return word

noncomputable def ResB (k n : Nat) (p : List Nat) (x : V) : Prop := (x = .non ∧ ¬ Wd.IsB k n p) ∨ ∃ r, x = T r ∧ Wd.LB k n p r
noncomputable def spLBX (ad : Adr) : Sp := fun vs H Q E => ∃ (p : List Nat) (n k : Int), vs = [T p, .int n, .int k] ∧ p.length ≤ 100000 ∧ (¬ (1 ≤ k ∧ k ≤ 6) → E (.ref ad.BadKinds) none H) ∧ ((1 ≤ k ∧ k ≤ 6) → ¬ (1 ≤ n ∧ n ≤ 24) → E (.ref ad.BadWord) none H) ∧
  ∀ kn nn : Nat, k = (kn : Nat) → n = (nn : Nat) → (1 ≤ kn ∧ kn ≤ 6) → (1 ≤ nn ∧ nn ≤ 24) → (p = [] ∨ Good p kn → ∀ x H', ResB kn nn p x → Same H H' → Q x H') ∧ (p ≠ [] → ¬ Good p kn → E (.ref ad.BadWord) none H)
theorem ok_least_beginning {f : Addr} {fd : FuncData} (F : Fun K "least_beginning" "least_beginning" s_least_beginning f fd) (tt : Txt K mg ad) (C_looked_length : Cal P w K mg base (CX1 P w) "looked_length" 2 ["length", "kinds"] (spLenX ad))
    (C_looked : Cal P w K mg base (CX1 P w) "looked" 3 ["word", "kinds"] (spLookedX ad)) (C_is_beginning : Cal P w K mg base (CX1 P w) "is_beginning" 4 ["text", "length", "kinds"] spIsBeg)
    (C_least_from : Cal P w K mg base (CX1 P w) "least_from" 5 ["beginning", "length", "kinds"] spFrom) : FnOk P w K mg base (CX1 P w) 6 f fd ["text", "length", "kinds"] (spLBX ad) := by
  refine F.okX sc_least_beginning (fun vs H Q E h => ?_) (fun cdv A outer s H vs Q E hr h => ?_)
  · obtain ⟨p, n, k, rfl, _⟩ := h
    rfl
  · obtain ⟨p, n, k, rfl, hp, x1, x2, q⟩ := h
    have hs : sizeLine = 16777216 := sizeLine_eq
    refine ⟨_, (pss_cons (ps_expr (pe_cal C_looked_length hr passX (pa_cN (pv 1) (pa_cN (pv 2) pa_nil))))
      (pss_cons (ps_if (pt_cmpR op_ne_T (pv 0) (pe_strT [] (by decide +kernel)) (nomark _)) (pss_one (ps_expr (pe_cal C_looked hr passX (pa_cN (pv 0) (pa_cN (pv 2) pa_nil))))) pss_nil)
      (pss_cons (ps_if (pt_not (pt_val (pe_cal C_is_beginning hr pass1 (pa_cN (pv 0) (pa_cN (pv 1) (pa_cN (pv 2) pa_nil)))))) (pss_one (ps_ret pe_non)) pss_nil)
      (pss_one (ps_ret (pe_cal C_least_from hr pass1 (pa_cN (pv 0) (pa_cN (pv 1) (pa_cN (pv 2) pa_nil))))))))), ?_⟩
    (try rw [cxK2]); (try rw [cxK1])
    refine ⟨_, rfl, _, rfl, n, k, rfl, fun hk hn => ?_, x1, x2⟩  -- looked_length(length, kinds)
    obtain ⟨kn, rfl⟩ : ∃ kn : Nat, k = (kn : Nat) := ⟨k.toNat, by (first | lia | omega)⟩
    obtain ⟨nn, rfl⟩ : ∃ nn : Nat, n = (nn : Nat) := ⟨n.toNat, by (first | lia | omega)⟩
    obtain ⟨q1, q2⟩ := q kn nn rfl rfl ⟨by (first | lia | omega), by (first | lia | omega)⟩ ⟨by (first | lia | omega), by (first | lia | omega)⟩
    refine ⟨_, rfl, _, rfl, _, rfl, _, rfl, ?_⟩  -- text != ''
    refine ite2 (fun h0 => ?a) (fun h0 => ?b)
    case' a =>
      have hne : p ≠ [] := fun z => by rw [z] at h0; exact absurd h0 (by decide)
      refine ⟨_, rfl, _, rfl, p, _, rfl, hp, fun z => absurd hk z, fun kn' ek hk' => ⟨fun hg => ?_, fun hg => ?_⟩⟩  -- looked(text, kinds)
      rotate_left
      · obtain rfl : kn = kn' := by (first | lia | omega)
        exact q2 hne hg
      obtain rfl : kn = kn' := by (first | lia | omega)
      have hg2 : p = [] ∨ Good p kn := .inr hg
      have hpl : p.length ≤ 24 := hg.1.2
      have hpo : Wd.Okk kn p := hg.2
    case' b =>
      have hne : p = [] := Classical.byContradiction fun z => h0 (by rw [decide_eq_false z]; rfl)
      have hg2 : p = [] ∨ Good p kn := .inl hne
      have hpl : p.length ≤ 24 := by rw [hne]; exact Nat.zero_le _
      have hpo : Wd.Okk kn p := by rw [hne]; exact fun c hc => (by cases hc)
    all_goals
      refine ⟨_, rfl, _, rfl, _, rfl, p, nn, kn, rfl, ⟨⟨by (first | lia | omega), by (first | lia | omega)⟩, by (first | lia | omega), by (first | lia | omega)⟩, fun b hb => ⟨b, rfl, ?_⟩⟩  -- is_beginning(text, length, kinds)
      cases b with
      | false => exact iteT (q1 hg2 .non H (.inl ⟨rfl, fun z => by have := hb.mpr z; cases this⟩) (Same.refl _))
      | true => exact iteF ⟨_, rfl, _, rfl, _, rfl, p, nn, kn, rfl, ⟨⟨by (first | lia | omega), by (first | lia | omega)⟩, by (first | lia | omega), hb.mp rfl, hpo⟩, fun r H' hr s' => q1 hg2 (T r) H' (.inr ⟨r, rfl, hr⟩) s'⟩

noncomputable def ResN (k : Nat) (w : List Nat) (x : V) : Prop := (x = .non ∧ ∀ v, Wd.LW k w.length v → ¬ w < v) ∨ ∃ r, x = T r ∧ Wd.NX k w r
theorem one_lt {c d : Nat} : ([c] : List Nat) < [d] ↔ c < d := by
  rw [List.cons_lt_cons_iff]
  constructor
  · rintro (h | ⟨_, h⟩)
    · exact h
    · exact absurd h (by simp)
  · exact .inl
noncomputable def spNextX (ad : Adr) : Sp := fun vs H Q E => ∃ (w : List Nat) (k : Int), vs = [T w, .int k] ∧ w.length ≤ 100000 ∧ (¬ (1 ≤ k ∧ k ≤ 6) → E (.ref ad.BadKinds) none H) ∧
  ∀ kn : Nat, k = (kn : Nat) → (1 ≤ kn ∧ kn ≤ 6) → (Good w kn → ∀ x H', ResN kn w x → Same H H' → Q x H') ∧ (¬ Good w kn → E (.ref ad.BadWord) none H)
theorem ok_next_least {f : Addr} {fd : FuncData} (F : Fun K "next_least" "next_least" s_next_least f fd) (tt : Txt K mg ad) (C_looked : Cal P w K mg base (CX1 P w) "looked" 3 ["word", "kinds"] (spLookedX ad))
    (C_letters : Cal P w K mg base (CX1 P w) "letters" 2 ["kinds"] (spLettersX ad)) (C_is_beginning : Cal P w K mg base (CX1 P w) "is_beginning" 4 ["text", "length", "kinds"] spIsBeg)
    (C_least_from : Cal P w K mg base (CX1 P w) "least_from" 5 ["beginning", "length", "kinds"] spFrom) : FnOk P w K mg base (CX1 P w) 6 f fd ["word", "kinds"] (spNextX ad) := by
  refine F.okX sc_next_least (fun vs H Q E h => ?_) (fun cdv A outer s H vs Q E hr h => ?_)
  · obtain ⟨w, k, rfl, _⟩ := h
    rfl
  · obtain ⟨w, k, rfl, hw, x1, q⟩ := h
    have hs : sizeLine = 16777216 := sizeLine_eq
    refine ⟨_, (pss_cons (ps_expr (pe_cal C_looked hr passX (pa_cN (pv 0) (pa_cN (pv 1) pa_nil))))
      (pss_cons (ps_for PassesOwn.leaving rfl (pi_range3 (by rfl) tt.b_range (pa_cB (pe_op op_sub (pe_callB call_len_T (by rfl) tt.b_len PySem.boot_len (pa_cN (pv 0) pa_nil)) pe_int) (pa_cU (pe_un un_neg pe_int) (pa_cU (pe_un un_neg pe_int) pa_nil)))) (pg_name (i := 2) sc_next_least.nd rfl (Or.inl rfl)) (pss_one (ps_for PassesOwn.leaving rfl (pi_str (pe_cal C_letters hr passX (pa_cN (pv 1) pa_nil))) (pg_name (i := 3) sc_next_least.nd rfl (Or.inl rfl)) (pss_cons (ps_set (i := 4) sc_next_least.nd rfl (Or.inl rfl) (pe_op op_add_T (pe_slice sl_T (pv 0) po_none (po_some (pv 2))) (pv 3)))
      (pss_one (ps_if (PW.pt (pw_and (pt_cmpR op_gt_T (pv 3) (pe_ix ix_T (pv 0) (pv 2) (fun _ _ => rfl)) (nomark _)) (pw_and1 (pt_val (pe_cal C_is_beginning hr pass1 (pa_cN (pv 4) (pa_cK (pe_callB call_len_T (by rfl) tt.b_len PySem.boot_len (pa_cN (pv 0) pa_nil)) (pa_cN (pv 1) pa_nil)))))))) (pss_one (ps_ret (pe_cal C_least_from hr pass1 (pa_cN (pv 4) (pa_cK (pe_callB call_len_T (by rfl) tt.b_len PySem.boot_len (pa_cN (pv 0) pa_nil)) (pa_cN (pv 1) pa_nil)))))) pss_nil))))))
      (pss_one (ps_ret pe_non)))), ?_⟩
    (try rw [cxK2]); (try rw [cxK1])
    refine ⟨_, rfl, _, rfl, w, k, rfl, hw, x1, fun kn ek hk => ?_⟩  -- looked(word, kinds)
    subst ek
    obtain ⟨q1, q2⟩ := q kn rfl hk
    refine ⟨fun hg => ?_, q2⟩
    have hwl := hg.1
    have hwo : Wd.Okk kn w := hg.2
    refine ⟨_, rfl, _, rfl, (by (first | lia | omega)), _, _, rfl, rfl, _, rfl, _, rfl, _, _, rfl, ⟨by (first | lia | omega), by (first | lia | omega), by (first | lia | omega), by (first | lia | omega)⟩, ?_⟩  -- for range(len(word) - 1, -1, -1)
    rw [show ((w.length : Nat) : Int) - 1 - -1 = ((w.length : Nat) : Int) by (first | lia | omega), Int.toNat_natCast]
    refine for_down (fun i σ H2 => Same H H2 ∧ Wd.Nn kn w (w.length - i) ∧ ∃ v1 v2 v3, σ = [some (T w), some (.int (kn : Nat)), v1, v2, v3]) ⟨Same.refl _, Wd.Nn.start kn w, none, none, none, rfl⟩ ?_ ?_
    · rintro i σ H2 hi ⟨s2, hnn, v1, v2, v3, rfl⟩
      obtain ⟨m, hm⟩ : ∃ m, w.length - i = m + 1 := ⟨w.length - i - 1, by (first | lia | omega)⟩
      rw [hm] at hnn
      have hml : m < w.length := by (first | lia | omega)
      have epl : ((w.length : Nat) : Int) - 1 - (i : Int) = ((m : Nat) : Int) := by (first | lia | omega)
      have hgm := Wd.okk_getD hwo hml
      have hat : atI w ((m : Nat) : Int) = some (w.getD m 0) := atI_nat (Wd.gD hml)
      have htl : (w.take m).length = m := by rw [List.length_take]; (first | lia | omega)
      rw [epl]
      refine ⟨_, rfl, _, rfl, fun kn' ek hk2 => ?_, fun z => absurd ⟨by (first | lia | omega), by (first | lia | omega)⟩ z⟩  -- for letters(kinds)
      obtain rfl : kn = kn' := by (first | lia | omega)
      refine ⟨_, rfl, ?_⟩
      refine for_text (l := ([97, 98, 99, 100, 101, 102] : List Nat).take kn) (fun j σ H3 => Same H2 H3 ∧ (∀ d, 97 ≤ d → d < 97 + j → w.getD m 0 < d → ¬ Wd.IsB kn w.length (w.take m ++ [d])) ∧ ∃ v2 v3, σ = [some (T w), some (.int (kn : Nat)), some (.int ((m : Nat) : Int)), v2, v3]) ⟨Same.refl _, fun d h1 h2 => by (first | lia | omega), _, _, rfl⟩ ?_ ?_
      · rintro j c σ H3 hj ⟨s3, hno, v2, v3, rfl⟩
        have hjl := (List.getElem?_eq_some_iff.mp hj).1
        rw [List.length_take] at hjl
        have hj6 : j < kn := by have : ([97, 98, 99, 100, 101, 102] : List Nat).length = 6 := rfl; (first | lia | omega)
        obtain rfl : c = 97 + j := by
          rw [List.getElem?_take_of_lt hj6, abc6 (by (first | lia | omega))] at hj
          exact (Option.some.inj hj).symm
        refine ⟨_, rfl, _, rfl, _, rfl, _, rfl, (by (first | lia | omega)), _, rfl, _, rfl, _, rfl, ?_, ?_⟩  -- text = word[:place] + letter
        · rw [cutL_take, htl]
          show m + 1 ≤ sizeLine
          (first | lia | omega)
        rw [cutL_take]
        refine ⟨_, rfl, _, rfl, _, rfl, _, rfl, _, rfl, (by (first | lia | omega)), _, hat, _, rfl, _, rfl, _, rfl, ?_⟩  -- letter > word[place]
        refine ite2 (fun h0 => ?_) (fun h0 => ?_)
        · have h1 : w.getD m 0 < 97 + j := one_lt.mp (of_decide_eq_true h0)
          refine ⟨_, rfl, _, rfl, _, rfl, (by (first | lia | omega)), _, rfl, w.take m ++ [97 + j], w.length, kn, rfl, ⟨hk, (by rw [List.length_append, htl]; show m + 1 ≤ 10000; (first | lia | omega)), by (first | lia | omega)⟩, fun b hb => ⟨b, rfl, ?_⟩⟩  -- is_beginning(..)
          cases b with
          | true =>
            refine iteT ?_
            have hb2 := hb.mp rfl
            refine ⟨_, rfl, _, rfl, _, rfl, (by (first | lia | omega)), _, rfl, w.take m ++ [97 + j], w.length, kn, rfl, ⟨hk, by (first | lia | omega), hb2, ?_⟩, fun r H' hr s' => ?_⟩  -- return least_from(..)
            · exact Wd.okk_app.mpr ⟨fun x hx => hwo x (List.mem_of_mem_take hx), fun x hx => by rw [List.mem_singleton] at hx; (first | lia | omega)⟩
            · exact q1 hg (T r) H' (.inr ⟨r, rfl, hnn.found (by (first | lia | omega)) hml h1 (fun d hd hlt hwd => hno d hd hlt hwd) hr⟩) ((s2.trans s3).trans s')
          | false =>
            refine iteF ⟨s3, fun d hd hlt hwd => ?_, _, _, rfl⟩
            by_cases e : d = 97 + j
            · subst e
              exact fun z => by have := hb.mpr z; cases this
            · exact hno d hd (by (first | lia | omega)) hwd
        · have h1 : ¬ w.getD m 0 < 97 + j := fun z => h0 (decide_eq_true (one_lt.mpr z))
          refine iteF ⟨s3, fun d hd hlt hwd => ?_, _, _, rfl⟩
          by_cases e : d = 97 + j
          · subst e
            exact absurd hwd h1
          · exact hno d hd (by (first | lia | omega)) hwd
      · rintro σ H3 ⟨s3, hno, v2, v3, rfl⟩
        rw [List.length_take] at hno
        have h6 : ([97, 98, 99, 100, 101, 102] : List Nat).length = 6 := rfl
        refine ⟨s2.trans s3, ?_, _, _, _, rfl⟩
        rw [show w.length - (i + 1) = m by (first | lia | omega)]
        exact hnn.step (by (first | lia | omega)) hml fun d hd hlt hwd => hno d hd (by (first | lia | omega)) hwd
    · rintro σ H2 ⟨s2, hnn, v1, v2, v3, rfl⟩
      rw [Nat.sub_self] at hnn
      exact q1 hg .non H2 (.inl ⟨rfl, hnn.none⟩) s2  -- return None

noncomputable def invLast (k : Nat) (w : List Nat) (H : Hp) (m : Nat) (σ : St) (H2 : Hp) : Prop := H2 = H ∧ ∃ (l : List Nat) (v : Option V), m ≤ w.length ∧ l.length = w.length ∧ (Wd.Lst l → Wd.LL k w l) ∧ (¬ Wd.Lst l → Wd.Jn k w m) ∧ σ = [some (T w), some (.int (k : Nat)), some (T l), some (.int (m : Nat)), v]
noncomputable def spLastX (ad : Adr) : Sp := fun vs H Q E => ∃ (w : List Nat) (k : Int), vs = [T w, .int k] ∧ w.length ≤ 100000 ∧ (¬ (1 ≤ k ∧ k ≤ 6) → E (.ref ad.BadKinds) none H) ∧
  ∀ kn : Nat, k = (kn : Nat) → (1 ≤ kn ∧ kn ≤ 6) → (Good w kn → ∀ r, Wd.LL kn w r → Q (T r) H) ∧ (¬ Good w kn → E (.ref ad.BadWord) none H)
theorem ok_last_least {f : Addr} {fd : FuncData} (F : Fun K "last_least" "last_least" s_last_least f fd) (tt : Txt K mg ad) (C_looked : Cal P w K mg base (CX1 P w) "looked" 3 ["word", "kinds"] (spLookedX ad))
    (C_is_least : Cal P w K mg base (CX1 P w) "is_least" 3 ["word"] spIsLeast) (C_filled : Cal P w K mg base (CX1 P w) "filled" 3 ["text", "length", "kinds"] spFilled) : FnOk P w K mg base (CX1 P w) 4 f fd ["word", "kinds"] (spLastX ad) := by
  refine F.okX sc_last_least (fun vs H Q E h => ?_) (fun cdv A outer s H vs Q E hr h => ?_)
  · obtain ⟨w, k, rfl, _⟩ := h
    rfl
  · obtain ⟨w, k, rfl, hw, x1, q⟩ := h
    have hs : sizeLine = 16777216 := sizeLine_eq
    refine ⟨_, (pss_cons (ps_expr (pe_cal C_looked hr passX (pa_cN (pv 0) (pa_cN (pv 1) pa_nil))))
      (pss_cons (ps_set (i := 2) sc_last_least.nd rfl (Or.inl rfl) (pv 0))
      (pss_cons (ps_set (i := 3) sc_last_least.nd rfl (Or.inl rfl) (pe_callB call_len_T (by rfl) tt.b_len PySem.boot_len (pa_cN (pv 0) pa_nil)))
      (pss_cons (ps_while PassesOwn.leaving (pt_not (pt_val (pe_cal C_is_least hr pass1 (pa_cN (pv 2) pa_nil)))) (pss_cons (ps_set (i := 3) sc_last_least.nd rfl (Or.inl rfl) (pe_op op_sub (pv 3) pe_int))
      (pss_cons (ps_set (i := 4) sc_last_least.nd rfl (Or.inl rfl) (pe_op op_sub (pe_bm PySem.F.plainAttrs_str PySem.F.slot_str_index PySem.F.type_str_index mt_index6 (pe_glob (by rfl) tt.g_LETTERS tt.r_LETTERS) (pa_cS (pe_ix ix_T (pv 0) (pv 3) (fun _ _ => rfl)) pa_nil)) pe_int))
      (pss_one (ps_if (pt_cmpR op_ge (pv 4) pe_int (nomark _)) (pss_one (ps_set (i := 2) sc_last_least.nd rfl (Or.inl rfl) (pe_cal C_filled hr pass1 (pa_cB (pe_op op_add_T (pe_slice sl_T (pv 0) po_none (po_some (pv 3))) (pe_ix ix_T (pe_glob (by rfl) tt.g_LETTERS tt.r_LETTERS) (pv 4) (fun _ _ => rfl))) (pa_cK (pe_callB call_len_T (by rfl) tt.b_len PySem.boot_len (pa_cN (pv 0) pa_nil)) (pa_cN (pv 1) pa_nil)))))) pss_nil)))))
      (pss_one (ps_ret (pv 2))))))), ?_⟩
    (try rw [cxK2]); (try rw [cxK1])
    refine ⟨_, rfl, _, rfl, w, k, rfl, hw, x1, fun kn ek hk => ?_⟩  -- looked(word, kinds)
    subst ek
    obtain ⟨q1, q2⟩ := q kn rfl hk
    refine ⟨fun hg => ?_, q2⟩
    have hwl := hg.1
    have hwo : Wd.Okk kn w := hg.2
    refine ⟨_, rfl, _, rfl, _, rfl, (by (first | lia | omega)), ?_⟩  -- last = word; place = len(word)
    refine ⟨invLast kn w H, ⟨w.length, rfl, w, none, Nat.le_refl _, rfl, fun h => Wd.LL.self hwo h, fun h => Wd.Jn.start h, rfl⟩, ?_⟩
    rintro m σ H2 ⟨rfl, l, v, hm, hl, hyes, hno, rfl⟩
    refine ⟨_, rfl, l, rfl, by (first | lia | omega), _, rfl, ?_⟩  -- not is_least(last)
    by_cases hlst : Wd.Lst l
    · rw [decide_eq_true (show l = Wd.least l from hlst)]
      exact iteF ⟨_, rfl, q1 hg l (hyes hlst)⟩  -- return last
    · rw [decide_eq_false (show ¬ l = Wd.least l from hlst)]
      refine iteT ?_
      have hj := hno hlst
      obtain ⟨j, rfl⟩ : ∃ j, m = j + 1 := by
        cases m with
        | zero => exact absurd hj (Wd.Jn.zero (by (first | lia | omega)) hwo)
        | succ j => exact ⟨j, rfl⟩
      have hjl : j < w.length := by (first | lia | omega)
      have hgj := Wd.okk_getD hwo hjl
      have htl : (w.take j).length = j := by rw [List.length_take]; (first | lia | omega)
      have hat : atI w (((j + 1 : Nat) : Int) - 1) = some (w.getD j 0) := by
        rw [show ((j + 1 : Nat) : Int) - 1 = ((j : Nat) : Int) by (first | lia | omega)]
        exact atI_nat (Wd.gD hjl)
      refine ⟨fun σ' H' => ∃ m', m' < j + 1 ∧ invLast kn w H2 m' σ' H', fun σ' H' z => z, ?_⟩
      refine ⟨_, rfl, _, _, rfl, rfl, ?_⟩  -- place = place - 1
      refine ⟨rfl, _, rfl, _, rfl, _, rfl, _, rfl, (by (first | lia | omega)), _, hat, rfl, _, rfl, ⟨by (first | lia | omega), by (first | lia | omega)⟩, _, _, rfl, rfl, ?_⟩  -- lesser = LETTERS.index(word[place]) - 1
      refine ⟨_, rfl, _, _, rfl, rfl, _, rfl, ?_⟩  -- lesser >= 0
      refine ite2 (fun h0 => ?_) (fun h0 => ?_)
      · have h1 : (0 : Int) ≤ ((w.getD j 0 - 97 : Nat) : Int) - 1 := of_decide_eq_true h0
        have hat2 : atI [97, 98, 99, 100, 101, 102] (((w.getD j 0 - 97 : Nat) : Int) - 1) = some (w.getD j 0 - 1) := by
          rw [show ((w.getD j 0 - 97 : Nat) : Int) - 1 = ((w.getD j 0 - 98 : Nat) : Int) by (first | lia | omega), show w.getD j 0 - 1 = 97 + (w.getD j 0 - 98) by (first | lia | omega)]
          exact atI_nat (abc6 (by (first | lia | omega)))
        have hcut : cutL w none (some (((j + 1 : Nat) : Int) - 1)) = w.take j := by
          rw [show ((j + 1 : Nat) : Int) - 1 = ((j : Nat) : Int) by (first | lia | omega)]
          exact cutL_take w j
        refine ⟨_, rfl, _, rfl, _, rfl, _, rfl, (by (first | lia | omega)), _, rfl, _, rfl, _, rfl, (by show 6 ≤ sizeLine; (first | lia | omega)), _, hat2, _, rfl, _, rfl, ?_, _, rfl, _, rfl, (by (first | lia | omega)), _, rfl, w.take j ++ [w.getD j 0 - 1], w.length, kn, ?_, ⟨hk, ?_, by (first | lia | omega)⟩, ?_⟩  -- last = filled(..)
        · rw [hcut, htl]
          show j + 1 ≤ sizeLine
          (first | lia | omega)
        · rw [hcut]
          rfl
        · rw [List.length_append, htl]
          show j + 1 ≤ w.length
          (first | lia | omega)
        · refine ⟨j, by (first | lia | omega), rfl, Wd.fill kn w.length (w.take j ++ [w.getD j 0 - 1]), some (.int (((w.getD j 0 - 97 : Nat) : Int) - 1)), by (first | lia | omega), Wd.fill_len (by rw [List.length_append, htl]; show j + 1 ≤ w.length; (first | lia | omega)), fun z => hj.found (by (first | lia | omega)) hwo hjl (by (first | lia | omega)) z, fun z => hj.down (by (first | lia | omega)) hwo hjl z, ?_⟩
          rw [show ((j : Nat) : Int) = ((j + 1 : Nat) : Int) - 1 by (first | lia | omega)]
          rfl
      · have h1 : ¬ (0 : Int) ≤ ((w.getD j 0 - 97 : Nat) : Int) - 1 := fun z => h0 (decide_eq_true z)
        refine ⟨j, by (first | lia | omega), rfl, l, some (.int (((w.getD j 0 - 97 : Nat) : Int) - 1)), by (first | lia | omega), hl, hyes, fun _ => hj.a hjl (by (first | lia | omega)), ?_⟩
        rw [show ((j : Nat) : Int) = ((j + 1 : Nat) : Int) - 1 by (first | lia | omega)]
        rfl

noncomputable def rV (k : Nat) (w : List Nat) (t : Nat) : V := .int (((Wd.pw k w t).length : Nat) : Int)
noncomputable def gV (k : Nat) (w : List Nat) (p : Nat) : V := .int ((96 + k - w.getD p 0 : Nat) : Int)
theorem sum_cast (l : List Nat) : (l.map fun (n : Nat) => ((n : Nat) : Int)).sum = ((l.sum : Nat) : Int) := by
  induction l with
  | nil => rfl
  | cons a l ih => rw [List.map_cons, List.sum_cons, List.sum_cons, ih, Int.natCast_add]
theorem range_at {f : Nat → V} {n i : Nat} (h : i < n) : ((List.range n).map f)[i]? = some (f i) := by rw [List.getElem?_map, List.getElem?_range h]; rfl
noncomputable def spRests : Sp := fun vs H Q _ => ∃ (g : Addr) (k : Nat) (w : List Nat), vs = [.ref g] ∧ H g = some (.lst ((List.range w.length).map (gV k w))) ∧ (k ≤ 6 ∧ 1 ≤ w.length ∧ w.length ≤ 24) ∧ ∀ D H', H D = none → Same H H' → H' D = some (.lst ((List.range w.length).map (rV k w))) → Q (.ref D) H'
theorem ok_rests {f : Addr} {fd : FuncData} (F : Fun K "rests" "rests" s_rests f fd) (tt : Txt K mg ad) : FnOk P w K mg base (CX1 P w) 1 f fd ["greater"] spRests := by
  refine F.okN sc_rests (fun vs H Q E h => ?_) (fun cdv A outer s H vs Q E hr h => ?_)
  · obtain ⟨g, k, w, rfl, _⟩ := h
    rfl
  · obtain ⟨g, k, w, rfl, hS, ⟨hk, h1, h24⟩, q⟩ := h
    have hs : sizeLine = 16777216 := sizeLine_eq
    have hgl : ((List.range w.length).map (gV k w)).length = w.length := by rw [List.length_map, List.length_range]
    refine ⟨_, (pss_cons (ps_set (i := 1) sc_rests.nd rfl (Or.inr rfl) (pe_lst (pa_cC pe_int pa_nil)))
      (pss_cons (ps_for PassesOwn.never rfl (pi_range2 (by rfl) tt.b_range (pa_cC pe_int (pa_cK (pe_callB call_len_seq (by rfl) tt.b_len PySem.boot_len (pa_cN (pv 0) pa_nil)) pa_nil))) (pg_name (i := 2) sc_rests.nd rfl (Or.inr rfl)) (pss_one (ps_expr (pe_bm PySem.F.plainAttrs_list PySem.F.slot_list_append PySem.F.type_list_append mt_append (pv 1) (pa_cK (pe_callB (call_sumX rfl) (by rfl) tt.b_sum PyProof.Rows.boot_sum (pa_cons (pe_comp cs_rests_0 rfl (pi_range1 (by rfl) tt.b_range (pa_cN (pv 2) pa_nil)) (fun cl C s' H' fp => (pe_op op_mul (pe_ix (ix_list_K K rfl) (pv 1) (pv 0) (fun _ _ => rfl)) (pe_ix (ix_list_K K rfl) (pv 2) (pe_op op_sub (pe_op op_sub (pv 3) pe_int) (pv 0)) (fun _ _ => rfl))))) pa_nil)) pa_nil)))))
      (pss_one (ps_ret (pv 1))))), ?_⟩
    (try rw [cxK2]); (try rw [cxK1])
    refine ⟨(by show 1 ≤ sizeLine; (first | lia | omega)), fun D hD => ?_⟩  -- counted = [1]
    have t1 := same_upd (o := .lst [.int 1]) hD
    refine ⟨_, rfl, g, _, rfl, .inl (SqL.of (t1 g _ hS)), _, _, rfl, ⟨by decide, by decide, by rw [hgl]; (first | lia | omega), by rw [hgl]; (first | lia | omega)⟩, ?_⟩  -- for size in range(1, len(greater))
    rw [hgl]
    refine for_range (fun i σ G => Same H G ∧ G D = some (.lst ((List.range (i + 1)).map (rV k w))) ∧ ∃ v : Option V, σ = [some (.ref g), some (.ref D), v])
      ⟨t1, (by rw [upd_same]; show some (HO.lst [.int 1]) = some (HO.lst [rV k w 0]); rw [rV, Wd.pw_zero]; rfl), none, rfl⟩ ?_ ?_
    · rintro i σ G hi ⟨s2, d2, v, rfl⟩
      have hi2 : i + 1 < w.length := by (first | lia | omega)
      refine ⟨_, rfl, .inl ⟨rfl, _, SqL.of d2⟩, _, rfl, _, rfl, by (first | lia | omega), by (first | lia | omega), ?_⟩  -- counted.append(sum([..]))
      have en : (1 + (i : Int)).toNat = i + 1 := by (first | lia | omega)
      rw [en]
      refine comp_range (lo := 0) (n := i + 1) (fun p => .int (((96 + k - w.getD p 0) * (Wd.pw k w (i - p)).length : Nat) : Int)) (by (first | lia | omega)) (fun p G3 hp s3 N hN => ?_) fun D3 G3 hD3 s3 hd3 => ?_
      · have e1 : atI ((List.range w.length).map (gV k w)) (0 + (p : Int)) = some (gV k w p) := by rw [Int.zero_add]; exact atI_nat (range_at (by (first | lia | omega)))
        have e2 : atI ((List.range (i + 1)).map (rV k w)) (1 + (i : Int) - 1 - (0 + (p : Int))) = some (rV k w (i - p)) := by
          rw [show 1 + (i : Int) - 1 - (0 + (p : Int)) = ((i - p : Nat) : Int) by (first | lia | omega)]
          exact atI_nat (range_at (by (first | lia | omega)))
        have g3 := hN G3 (Same.refl _)
        rw [Int.natCast_mul] at g3
        exact ⟨_, rfl, _, rfl, g, _, _, _, rfl, rfl, SqL.of (s3 g _ (s2 g _ hS)), e1, _, rfl, _, rfl, _, _, rfl, rfl, _, rfl, _, _, rfl, rfl, D, _, _, _, rfl, rfl, SqL.of (s3 D _ d2), e2, _, _, rfl, rfl, .inl ⟨by (first | lia | omega), by (first | lia | omega)⟩, g3⟩
      have hd3' : G3 D3 = some (.lst ((((List.range (i + 1)).map fun p => (96 + k - w.getD p 0) * (Wd.pw k w (i - p)).length).map fun (n : Nat) => ((n : Nat) : Int)).map V.int)) := by
        rw [hd3, List.map_map, List.map_map]
        rfl
      refine ⟨D3, _, rfl, SqL.of hd3', ?_⟩
      rw [sum_cast, ← Wd.pw_len]
      refine ⟨D, _, _, rfl, rfl, s3 D _ d2, (by rw [List.length_map, List.length_range]; (first | lia | omega)), ?_⟩
      refine ⟨fun b o e => ?_, ?_, _, rfl⟩
      · rw [upd_ne (ne_of_none e hD)]
        exact s3 b o (s2 b o e)
      · rw [upd_same, List.range_succ (n := i + 1), List.map_append]
        rfl
    · rintro σ G ⟨s2, d2, v, rfl⟩
      have e : (((w.length : Nat) : Int) - 1).toNat + 1 = w.length := by (first | lia | omega)
      rw [e] at d2
      exact ⟨_, rfl, q D G hD s2 d2⟩

noncomputable def spAbove : Sp := fun vs H Q _ => ∃ (w : List Nat) (k : Nat), vs = [T w, .int (k : Nat)] ∧ ((1 ≤ k ∧ k ≤ 6) ∧ (1 ≤ w.length ∧ w.length ≤ 24) ∧ Wd.Okk k w) ∧ ∀ H', Same H H' → Q (.int (((Wd.gl k w).length : Nat) : Int)) H'
theorem ok_count_above {f : Addr} {fd : FuncData} (F : Fun K "count_above" "count_above" s_count_above f fd) (tt : Txt K mg ad) (C_rests : Cal P w K mg base (CX1 P w) "rests" 1 ["greater"] spRests) : FnOk P w K mg base (CX1 P w) 2 f fd ["word", "kinds"] spAbove := by
  refine F.okN sc_count_above (fun vs H Q E h => ?_) (fun cdv A outer s H vs Q E hr h => ?_)
  · obtain ⟨w, k, rfl, _⟩ := h
    rfl
  · obtain ⟨w, k, rfl, ⟨hk, hw, ho⟩, q⟩ := h
    have hs : sizeLine = 16777216 := sizeLine_eq
    refine ⟨_, (pss_cons (ps_set (i := 2) sc_count_above.nd rfl (Or.inr rfl) (pe_comp cs_count_above_0 rfl (pi_str (pv 0)) (fun cl C s' H' fp => (pe_op op_sub (pe_op op_sub (pv 2) pe_int) (pe_bmK K rfl PySem.F.plainAttrs_str PySem.F.slot_str_index PySem.F.type_str_index mt_index6 (pe_glob (by rfl) tt.g_LETTERS tt.r_LETTERS) (pa_cN (pv 0) pa_nil))))))
      (pss_cons (ps_set (i := 3) sc_count_above.nd rfl (Or.inr rfl) (pe_cal C_rests hr pass1 (pa_cN (pv 2) pa_nil)))
      (pss_cons (ps_set (i := 4) sc_count_above.nd rfl (Or.inr rfl) (pe_op op_sub (pe_callB call_len_T (by rfl) tt.b_len PySem.boot_len (pa_cN (pv 0) pa_nil)) pe_int))
      (pss_one (ps_ret (pe_callB (call_sumX rfl) (by rfl) tt.b_sum PyProof.Rows.boot_sum (pa_cons (pe_comp cs_count_above_1 rfl (pi_range1 (by rfl) tt.b_range (pa_cK (pe_callB call_len_T (by rfl) tt.b_len PySem.boot_len (pa_cN (pv 0) pa_nil)) pa_nil)) (fun cl C s' H' fp => (pe_op op_mul (pe_op op_mul (pe_op op_add (pv 0) pe_int) (pe_ix (ix_list_K K rfl) (pv 3) (pv 0) (fun _ _ => rfl))) (pe_ix (ix_list_K K rfl) (pv 4) (pe_op op_sub (pv 5) (pv 0)) (fun _ _ => rfl))))) pa_nil))))))), ?_⟩
    (try rw [cxK2]); (try rw [cxK1])
    refine ⟨_, rfl, w, rfl, ?_⟩  -- greater = [.. for letter in word]
    refine comp_text (l := w) (fun c => V.int ((96 + k - c : Nat) : Int)) (by (first | lia | omega)) (fun i c H2 hc s2 N hN => ?_) fun D H2 hD s2 hd2 => ?_
    · have hcb := ho c (List.mem_of_getElem? hc)
      have g := hN H2 (Same.refl _)
      rw [show ((96 + k - c : Nat) : Int) = ((k : Nat) : Int) - 1 - ((c - 97 : Nat) : Int) by (first | lia | omega)] at g
      exact ⟨_, rfl, _, _, rfl, rfl, rfl, _, rfl, rfl, c, rfl, ⟨by (first | lia | omega), by (first | lia | omega)⟩, _, _, rfl, rfl, g⟩
    have hd2' : H2 D = some (.lst ((List.range w.length).map (gV k w))) := by
      rw [hd2]
      refine congrArg (fun l => some (HO.lst l)) (List.ext_getElem? fun i => ?_)
      by_cases hi : i < w.length
      · rw [range_at hi, List.getElem?_map, Wd.gD hi]
        rfl
      · rw [List.getElem?_eq_none (by rw [List.length_map]; (first | lia | omega)), List.getElem?_eq_none (by rw [List.length_map, List.length_range]; (first | lia | omega))]
    refine ⟨_, rfl, D, k, w, rfl, hd2', ⟨hk.2, hw.1, hw.2⟩, fun D3 H3 hD3 s3 hd3 => ?_⟩  -- counted = rests(greater)
    refine ⟨_, rfl, _, rfl, (by (first | lia | omega)), _, _, rfl, rfl, ?_⟩  -- last = len(word) - 1
    refine ⟨_, rfl, _, rfl, (by (first | lia | omega)), _, rfl, by (first | lia | omega), by (first | lia | omega), ?_⟩  -- range(len(word))
    rw [Int.toNat_natCast]
    refine comp_range (lo := 0) (n := w.length) (fun p => .int (((p + 1) * (96 + k - w.getD p 0) * (Wd.pw k w (w.length - 1 - p)).length : Nat) : Int)) (by (first | lia | omega)) (fun p H4 hp s4 N hN => ?_) fun D4 H4 hD4 s4 hd4 => ?_
    · have e1 : atI ((List.range w.length).map (gV k w)) (0 + (p : Int)) = some (gV k w p) := by rw [Int.zero_add]; exact atI_nat (range_at (by (first | lia | omega)))
      have e2 : atI ((List.range w.length).map (rV k w)) (((w.length : Nat) : Int) - 1 - (0 + (p : Int))) = some (rV k w (w.length - 1 - p)) := by
        rw [show ((w.length : Nat) : Int) - 1 - (0 + (p : Int)) = ((w.length - 1 - p : Nat) : Int) by (first | lia | omega)]
        exact atI_nat (range_at (by (first | lia | omega)))
      have g := hN H4 (Same.refl _)
      rw [Int.natCast_mul, Int.natCast_mul, show ((p + 1 : Nat) : Int) = 0 + (p : Int) + 1 by (first | lia | omega)] at g
      have hx : (0 + (p : Int) + 1) * ((96 + k - w.getD p 0 : Nat) : Int) = (((p + 1) * (96 + k - w.getD p 0) : Nat) : Int) := by rw [Int.natCast_mul, show ((p + 1 : Nat) : Int) = 0 + (p : Int) + 1 by (first | lia | omega)]
      have hb : (p + 1) * (96 + k - w.getD p 0) ≤ 24 * 102 := Nat.mul_le_mul (by (first | lia | omega)) (by (first | lia | omega))
      refine ⟨_, rfl, _, _, rfl, rfl, _, rfl, _, rfl, D, _, _, _, rfl, rfl, SqL.of (s4 D _ (s3 D _ hd2')), e1, _, _, rfl, rfl, .inl ⟨by (first | lia | omega), by (first | lia | omega)⟩, _, rfl, _, rfl, _, rfl, _, _, rfl, rfl, D3, _, _, _, rfl, rfl, SqL.of (s4 D3 _ hd3), e2, _, _, rfl, rfl, .inl ⟨?_, ?_⟩, g⟩
      · rw [hx]; (first | lia | omega)
      · rw [hx]; (first | lia | omega)
    have hd4' : H4 D4 = some (.lst ((((List.range w.length).map fun p => (p + 1) * (96 + k - w.getD p 0) * (Wd.pw k w (w.length - 1 - p)).length).map fun (n : Nat) => ((n : Nat) : Int)).map V.int)) := by
      rw [hd4, List.map_map, List.map_map]
      rfl
    refine ⟨D4, _, rfl, SqL.of hd4', ?_⟩
    rw [sum_cast, ← Wd.gl_len]
    exact q H4 (s2.trans (s3.trans s4))

noncomputable def spUpX (ad : Adr) : Sp := fun vs H Q E => ∃ (w : List Nat) (k : Int), vs = [T w, .int k] ∧ w.length ≤ 100000 ∧ (¬ (1 ≤ k ∧ k ≤ 6) → E (.ref ad.BadKinds) none H) ∧
  ∀ kn : Nat, k = (kn : Nat) → (1 ≤ kn ∧ kn ≤ 6) → (Good w kn → ∀ H', Same H H' → Q (.int ((Wd.upN kn w : Nat) : Int)) H') ∧ (¬ Good w kn → E (.ref ad.BadWord) none H)
theorem ok_up_to {f : Addr} {fd : FuncData} (F : Fun K "up_to" "up_to" s_up_to f fd) (tt : Txt K mg ad) (C_looked : Cal P w K mg base (CX1 P w) "looked" 3 ["word", "kinds"] (spLookedX ad)) (C_word_total : Cal P w K mg base (CX1 P w) "word_total" 1 ["length", "kinds"] spTotal)
    (C_count_above : Cal P w K mg base (CX1 P w) "count_above" 2 ["word", "kinds"] spAbove) (C_last_least : Cal P w K mg base (CX1 P w) "last_least" 4 ["word", "kinds"] (spLastX ad)) : FnOk P w K mg base (CX1 P w) 5 f fd ["word", "kinds"] (spUpX ad) := by
  refine F.okX sc_up_to (fun vs H Q E h => ?_) (fun cdv A outer s H vs Q E hr h => ?_)
  · obtain ⟨w, k, rfl, _⟩ := h
    rfl
  · obtain ⟨w, k, rfl, hw, x1, q⟩ := h
    have hs : sizeLine = 16777216 := sizeLine_eq
    refine ⟨_, (pss_cons (ps_expr (pe_cal C_looked hr passX (pa_cN (pv 0) (pa_cN (pv 1) pa_nil))))
      (pss_one (ps_ret (pe_op op_sub (pe_cal C_word_total hr pass1 (pa_cK (pe_callB call_len_T (by rfl) tt.b_len PySem.boot_len (pa_cN (pv 0) pa_nil)) (pa_cN (pv 1) pa_nil))) (pe_cal C_count_above hr pass1 (pa_cK (pe_cal C_last_least hr passX (pa_cN (pv 0) (pa_cN (pv 1) pa_nil))) (pa_cN (pv 1) pa_nil))))))), ?_⟩
    (try rw [cxK2]); (try rw [cxK1])
    refine ⟨_, rfl, _, rfl, w, k, rfl, hw, x1, fun kn ek hk => ?_⟩  -- looked(word, kinds)
    subst ek
    obtain ⟨q1, q2⟩ := q kn rfl hk
    refine ⟨fun hg => ?_, q2⟩
    have hwl := hg.1
    have hwo : Wd.Okk kn w := hg.2
    refine ⟨_, rfl, _, rfl, (by (first | lia | omega)), _, rfl, w.length, kn, rfl, ⟨by (first | lia | omega), by (first | lia | omega)⟩, ?_⟩  -- word_total(len(word), kinds)
    refine ⟨_, rfl, _, rfl, w, _, rfl, hw, fun z => absurd ⟨by (first | lia | omega), by (first | lia | omega)⟩ z, fun kn' ek hk' => ?_⟩  -- last_least(word, kinds)
    obtain rfl : kn = kn' := by (first | lia | omega)
    refine ⟨fun _ l hl => ?_, fun z => absurd hg z⟩
    have hll := hl.lw.len
    refine ⟨_, rfl, l, kn, rfl, ⟨hk, ⟨by (first | lia | omega), by (first | lia | omega)⟩, hl.lw.ok⟩, fun H2 s2 => ⟨_, _, rfl, rfl, ?_⟩⟩  -- count_above(..)
    have := Wd.up_len (by (first | lia | omega)) (by (first | lia | omega)) hl
    have g := q1 hg H2 s2
    rw [show ((Wd.upN kn w : Nat) : Int) = ((kn ^ w.length : Nat) : Int) - (((Wd.gl kn l).length : Nat) : Int) by (first | lia | omega)] at g
    exact g

noncomputable def spCnt (cnt : Nat → List Nat → Nat) (ad : Adr) : Sp := fun vs H Q E => ∃ (w : List Nat) (k : Int), vs = [T w, .int k] ∧ w.length ≤ 100000 ∧ (¬ (1 ≤ k ∧ k ≤ 6) → E (.ref ad.BadKinds) none H) ∧
  ∀ kn : Nat, k = (kn : Nat) → (1 ≤ kn ∧ kn ≤ 6) → (Good w kn → ∀ H', Same H H' → Q (.int ((cnt kn w : Nat) : Int)) H') ∧ (¬ Good w kn → E (.ref ad.BadWord) none H)
noncomputable def FirstAt (cnt : Nat → List Nat → Nat) (kn nn : Nat) (N : Int) (m : Nat) : Prop := m < kn ^ nn ∧ N < ((cnt kn (Wd.spell kn nn m) : Nat) : Int) ∧ (m = 0 ∨ ((cnt kn (Wd.spell kn nn (m - 1)) : Nat) : Int) ≤ N)
noncomputable def spFWA (P : Program) (w : World) (K : PySem.W.Frag) (mg : Str → Option Value) (base : Heap) (ad : Adr) : Sp := fun vs H Q E => ∃ (n k N : Int) (f : Addr) (j : Nat) (cnt : Nat → List Nat → Nat), vs = [.int n, .int k, .int N, .ref f] ∧ CalF P w K mg base (CX1 P w) f j ["word", "kinds"] (spCnt cnt ad) ∧ j ≤ 7 ∧ (¬ (1 ≤ k ∧ k ≤ 6) → E (.ref ad.BadKinds) none H) ∧ ((1 ≤ k ∧ k ≤ 6) → ¬ (1 ≤ n ∧ n ≤ 24) → E (.ref ad.BadWord) none H) ∧
  ∀ kn nn : Nat, k = (kn : Nat) → n = (nn : Nat) → (1 ≤ kn ∧ kn ≤ 6) → (1 ≤ nn ∧ nn ≤ 24) → (¬ (0 ≤ N ∧ N < ((cnt kn (Wd.spell kn nn (kn ^ nn - 1)) : Nat) : Int)) → ∀ H', Same H H' → E (.ref ad.NoSuch) none H') ∧ ((0 ≤ N ∧ N < ((cnt kn (Wd.spell kn nn (kn ^ nn - 1)) : Nat) : Int)) → ∀ m H', FirstAt cnt kn nn N m → Same H H' → Q (T (Wd.spell kn nn m)) H')
theorem spell_good {kn nn m : Nat} (hk : 1 ≤ kn ∧ kn ≤ 6) (hn : 1 ≤ nn ∧ nn ≤ 24) : Good (Wd.spell kn nn m) kn := ⟨by rw [Wd.spell_len]; exact hn, Wd.spell_mem (by (first | lia | omega)) _ _⟩
noncomputable def invFWA (f : Addr) (cnt : Nat → List Nat → Nat) (kn nn : Nat) (N : Int) (H : Hp) (m : Nat) (σ : St) (H2 : Hp) : Prop := ∃ (a b : Nat) (v : Option V), m = b - a ∧ a ≤ b ∧ b < kn ^ nn ∧ N < ((cnt kn (Wd.spell kn nn b) : Nat) : Int) ∧ (a = 0 ∨ ((cnt kn (Wd.spell kn nn (a - 1)) : Nat) : Int) ≤ N) ∧ Same H H2 ∧ σ = [some (.int (nn : Nat)), some (.int (kn : Nat)), some (.int N), some (.ref f), some (.int (a : Nat)), some (.int (b : Nat)), v]
theorem ok_first_word_above {f0 : Addr} {fd : FuncData} (F : Fun K "first_word_above" "first_word_above" s_first_word_above f0 fd) (tt : Txt K mg ad) (C_looked_length : Cal P w K mg base (CX1 P w) "looked_length" 2 ["length", "kinds"] (spLenX ad))
    (C_word_total : Cal P w K mg base (CX1 P w) "word_total" 1 ["length", "kinds"] spTotal) (C_spelled : Cal P w K mg base (CX1 P w) "spelled" 1 ["number", "length", "kinds"] spSpell) : FnOk P w K mg base (CX1 P w) 8 f0 fd ["length", "kinds", "number", "counted_up_to"] (spFWA P w K mg base ad) := by
  refine F.okX sc_first_word_above (fun vs H Q E h => ?_) (fun cdv A outer s H vs Q E hr h => ?_)
  · obtain ⟨n, k, N, f, j, cnt, rfl, _⟩ := h
    rfl
  · obtain ⟨n, k, N, f, j, cnt, rfl, hcf, hj, x1, x2, q⟩ := h
    have hs : sizeLine = 16777216 := sizeLine_eq
    refine ⟨_, (pss_cons (ps_expr (pe_cal C_looked_length hr passX (pa_cN (pv 0) (pa_cN (pv 1) pa_nil))))
      (pss_cons (ps_set (i := 4) sc_first_word_above.nd rfl (Or.inl rfl) pe_int)
      (pss_cons (ps_set (i := 5) sc_first_word_above.nd rfl (Or.inl rfl) (pe_op op_sub (pe_cal C_word_total hr pass1 (pa_cN (pv 0) (pa_cN (pv 1) pa_nil))) pe_int))
      (pss_cons (ps_if (PW.pt (pw_or (pt_cmpR op_lt (pv 2) pe_int (nomark _)) (pw_or1 (pt_cmpR op_ge (pv 2) (pe_calL hcf hr passX (pv 3) (pa_cK (pe_cal C_spelled hr pass1 (pa_cN (pv 5) (pa_cN (pv 0) (pa_cN (pv 1) pa_nil)))) (pa_cN (pv 1) pa_nil)) hj) (nomark _))))) (pss_one (ps_raise (E := fun cls H' => E cls none H') tt.x_NoSuch rfl (fun _ _ _ _ _ _ _ I hx q => raiseX I hx q) (pa_cC (pe_strT [116, 104, 101, 114, 101, 32, 105, 115, 32, 110, 111, 32, 119, 111, 114, 100, 32, 111, 102, 32, 116, 104, 105, 115, 32, 110, 117, 109, 98, 101, 114] (by decide +kernel)) pa_nil))) pss_nil)
      (pss_cons (ps_while PassesOwn.leaving (pt_cmpR op_lt (pv 4) (pv 5) (nomark _)) (pss_cons (ps_set (i := 6) sc_first_word_above.nd rfl (Or.inl rfl) (pe_op op_fdiv (pe_op op_add (pv 4) (pv 5)) pe_int))
      (pss_one (ps_if (pt_cmpR op_gt (pe_calL hcf hr passX (pv 3) (pa_cK (pe_cal C_spelled hr pass1 (pa_cN (pv 6) (pa_cN (pv 0) (pa_cN (pv 1) pa_nil)))) (pa_cN (pv 1) pa_nil)) hj) (pv 2) (nomark _)) (pss_one (ps_set (i := 5) sc_first_word_above.nd rfl (Or.inl rfl) (pv 6))) (pss_one (ps_set (i := 4) sc_first_word_above.nd rfl (Or.inl rfl) (pe_op op_add (pv 6) pe_int)))))))
      (pss_one (ps_ret (pe_cal C_spelled hr pass1 (pa_cN (pv 4) (pa_cN (pv 0) (pa_cN (pv 1) pa_nil))))))))))), ?_⟩
    (try rw [cxK2]); (try rw [cxK1])
    refine ⟨_, rfl, _, rfl, n, k, rfl, fun hk hn => ?_, x1, x2⟩  -- looked_length(length, kinds)
    obtain ⟨kn, rfl⟩ : ∃ kn : Nat, k = (kn : Nat) := ⟨k.toNat, by (first | lia | omega)⟩
    obtain ⟨nn, rfl⟩ : ∃ nn : Nat, n = (nn : Nat) := ⟨n.toNat, by (first | lia | omega)⟩
    have hk' : 1 ≤ kn ∧ kn ≤ 6 := ⟨by (first | lia | omega), by (first | lia | omega)⟩
    have hn' : 1 ≤ nn ∧ nn ≤ 24 := ⟨by (first | lia | omega), by (first | lia | omega)⟩
    obtain ⟨q1, q2⟩ := q kn nn rfl rfl hk' hn'
    have hp0 : 0 < kn ^ nn := Nat.pow_pos (by (first | lia | omega))
    refine ⟨_, rfl, _, rfl, nn, kn, rfl, ⟨by (first | lia | omega), by (first | lia | omega)⟩, _, _, rfl, rfl, ?_⟩  -- last = word_total(length, kinds) - 1
    dsimp only
    rw [show ((kn ^ nn : Nat) : Int) - 1 = ((kn ^ nn - 1 : Nat) : Int) by (first | lia | omega)]
    refine ⟨_, rfl, _, _, rfl, rfl, _, rfl, ?_⟩  -- number < 0
    refine ite2 (fun h0 => iteT ?_) (fun h0 => ?_)
    · have h1 : N < 0 := of_decide_eq_true h0
      exact ⟨(by show 1 ≤ sizeLine; (first | lia | omega)), q1 (fun z => by (first | lia | omega)) H (Same.refl _)⟩
    have h1 : ¬ N < 0 := fun z => h0 (decide_eq_true z)
    refine ⟨_, rfl, _, rfl, rfl, _, rfl, _, rfl, _, rfl, kn ^ nn - 1, nn, kn, rfl, ⟨by (first | lia | omega), by (first | lia | omega), by (first | lia | omega)⟩, fun H1 s1 => ⟨_, rfl, _, _, rfl, (by rw [Wd.spell_len]; (first | lia | omega)), fun z => absurd (by (first | lia | omega)) z, fun kn' ek hk3 => ?_⟩⟩  -- counted_up_to(spelled(last, length, kinds), kinds)
    obtain rfl : kn = kn' := by (first | lia | omega)
    refine ⟨fun _ H2 s2 => ?_, fun z => absurd (spell_good hk' hn') z⟩
    refine ⟨_, _, rfl, rfl, _, rfl, ?_⟩  -- number >= ..
    refine ite2 (fun h2 => ?_) (fun h2 => ?_)
    · have h3 := of_decide_eq_true h2
      exact ⟨(by show 1 ≤ sizeLine; (first | lia | omega)), q1 (fun z => by (first | lia | omega)) H2 (s1.trans s2)⟩
    have h3 : N < ((cnt kn (Wd.spell kn nn (kn ^ nn - 1)) : Nat) : Int) := Int.lt_of_not_ge fun z => h2 (decide_eq_true z)
    refine ⟨invFWA f cnt kn nn N H, ⟨_, 0, kn ^ nn - 1, none, rfl, by (first | lia | omega), by (first | lia | omega), h3, .inl rfl, s1.trans s2, rfl⟩, ?_⟩
    rintro m σ G ⟨a, b, v, rfl, hab, hb, hNb, ha, sG, rfl⟩
    refine ⟨_, rfl, _, rfl, _, _, rfl, rfl, _, rfl, ?_⟩  -- first < last
    refine ite2 (fun h4 => ?_) (fun h4 => ?_)
    · have hlt : a < b := by have := of_decide_eq_true h4; (first | lia | omega)
      refine ⟨fun σ' H' => ∃ m', m' < b - a ∧ invFWA f cnt kn nn N H m' σ' H', fun σ' H' z => z, ?_⟩
      refine ⟨_, rfl, _, rfl, _, _, rfl, rfl, _, _, rfl, rfl, ⟨by decide, by decide⟩, ?_⟩  -- middle = (first + last) // 2
      dsimp only
      obtain ⟨c, hc, hc1, hc2⟩ : ∃ c : Nat, (((a : Nat) : Int) + ((b : Nat) : Int)) / 2 = ((c : Nat) : Int) ∧ a ≤ c ∧ c < b := ⟨(a + b) / 2, by (first | lia | omega), by (first | lia | omega), by (first | lia | omega)⟩
      rw [hc]
      refine ⟨_, rfl, rfl, _, rfl, _, rfl, _, rfl, c, nn, kn, rfl, ⟨by (first | lia | omega), by (first | lia | omega), by (first | lia | omega)⟩, fun G1 s3 => ⟨_, rfl, _, _, rfl, (by rw [Wd.spell_len]; (first | lia | omega)), fun z => absurd (by (first | lia | omega)) z, fun kn' ek hk3 => ?_⟩⟩  -- counted_up_to(spelled(middle, length, kinds), kinds)
      obtain rfl : kn = kn' := by (first | lia | omega)
      refine ⟨fun _ G2 s4 => ?_, fun z => absurd (spell_good hk' hn') z⟩
      have s5 := sG.trans (s3.trans s4)
      refine ⟨_, rfl, _, _, rfl, rfl, _, rfl, ?_⟩  -- .. > number
      refine ite2 (fun h5 => ?_) (fun h5 => ?_)
      · have h6 := of_decide_eq_true h5
        exact ⟨_, rfl, c - a, by (first | lia | omega), a, c, _, rfl, hc1, by (first | lia | omega), h6, ha, s5, rfl⟩
      · have h6 : ¬ N < ((cnt kn (Wd.spell kn nn c) : Nat) : Int) := fun z => h5 (decide_eq_true z)
        refine ⟨_, rfl, _, _, rfl, rfl, b - (c + 1), by (first | lia | omega), c + 1, b, some (.int ((c : Nat) : Int)), rfl, hc2, hb, hNb, .inr (by rw [Nat.add_sub_cancel]; (first | lia | omega)), s5, ?_⟩
        rw [Int.natCast_add]
        rfl
    · have hge : a = b := by
        have : ¬ ((a : Nat) : Int) < ((b : Nat) : Int) := fun z => h4 (decide_eq_true z)
        (first | lia | omega)
      subst hge
      exact ⟨_, rfl, _, rfl, _, rfl, a, nn, kn, rfl, ⟨by (first | lia | omega), by (first | lia | omega), by (first | lia | omega)⟩, fun G1 s3 => q2 ⟨by (first | lia | omega), h3⟩ a G1 ⟨hb, hNb, ha⟩ (sG.trans s3)⟩

noncomputable def FirstOk (w : List Nat) (kn : Nat) : Prop := Good w kn ∧ Wd.Lst w
theorem FirstOk.lw {w : List Nat} {kn : Nat} (h : FirstOk w kn) : Wd.LW kn w.length w := ⟨rfl, h.1.2, h.2⟩
noncomputable def spLFirst (ad : Adr) : Sp := fun vs H Q E => ∃ (w : List Nat) (k : Int), vs = [T w, .int k] ∧ w.length ≤ 10000 ∧ (¬ (1 ≤ k ∧ k ≤ 6) → E (.ref ad.BadKinds) none H) ∧
  ∀ kn : Nat, k = (kn : Nat) → (1 ≤ kn ∧ kn ≤ 6) → (FirstOk w kn → Q .non H) ∧ (¬ FirstOk w kn → E (.ref ad.BadWord) none H)
theorem ok_looked_first {f : Addr} {fd : FuncData} (F : Fun K "looked_first" "looked_first" s_looked_first f fd) (tt : Txt K mg ad) (C_looked : Cal P w K mg base (CX1 P w) "looked" 3 ["word", "kinds"] (spLookedX ad)) (C_is_least : Cal P w K mg base (CX1 P w) "is_least" 3 ["word"] spIsLeast) : FnOk P w K mg base (CX1 P w) 4 f fd ["first", "kinds"] (spLFirst ad) := by
  refine F.okX sc_looked_first (fun vs H Q E h => ?_) (fun cdv A outer s H vs Q E hr h => ?_)
  · obtain ⟨w, k, rfl, _⟩ := h
    rfl
  · obtain ⟨w, k, rfl, hw, x1, q⟩ := h
    have hs : sizeLine = 16777216 := sizeLine_eq
    refine ⟨_, (pss_cons (ps_expr (pe_cal C_looked hr passX (pa_cN (pv 0) (pa_cN (pv 1) pa_nil))))
      (pss_one (ps_if (pt_not (pt_val (pe_cal C_is_least hr pass1 (pa_cN (pv 0) pa_nil)))) (pss_one (ps_raise (E := fun cls H' => E cls none H') tt.x_BadWord rfl (fun _ _ _ _ _ _ _ I hx q => raiseX I hx q) (pa_cC (pe_strT [97, 32, 102, 105, 114, 115, 116, 32, 105, 115, 32, 97, 32, 108, 101, 97, 115, 116, 32, 119, 111, 114, 100] (by decide +kernel)) pa_nil))) pss_nil))), ?_⟩
    (try rw [cxK2]); (try rw [cxK1])
    refine ⟨_, rfl, _, rfl, w, k, rfl, (by (first | lia | omega)), x1, fun kn ek hk => ?_⟩  -- looked(first, kinds)
    obtain ⟨q1, q2⟩ := q kn ek hk
    refine ⟨fun hg => ?_, fun hg => q2 fun z => hg z.1⟩
    refine ⟨_, rfl, w, rfl, hw, _, rfl, ?_⟩  -- is_least(first)
    by_cases hl : Wd.Lst w
    · rw [decide_eq_true (show w = Wd.least w from hl)]
      exact iteF (q1 ⟨hg, hl⟩)
    · rw [decide_eq_false (show ¬ w = Wd.least w from hl)]
      exact iteT ⟨(by show 1 ≤ sizeLine; (first | lia | omega)), q2 fun z => hl z.2⟩

noncomputable def spCB : Sp := fun vs H Q _ => ∃ (w : List Nat) (kn : Nat), vs = [T w, .int (kn : Nat)] ∧ ((1 ≤ kn ∧ kn ≤ 6) ∧ FirstOk w kn) ∧ ∀ H', Same H H' → Q (.int ((Wd.cb kn w : Nat) : Int)) H'
theorem ok_count_below {f : Addr} {fd : FuncData} (F : Fun K "count_below" "count_below" s_count_below f fd) (tt : Txt K mg ad) (C_up_to : Cal P w K mg base (CX1 P w) "up_to" 5 ["word", "kinds"] (spUpX ad)) (C_root : Cal P w K mg base (CX1 P w) "root" 2 ["word"] spRoot) : FnOk P w K mg base (CX1 P w) 6 f fd ["least", "kinds"] spCB := by
  refine F.okX sc_count_below (fun vs H Q E h => ?_) (fun cdv A outer s H vs Q E hr h => ?_)
  · obtain ⟨w, kn, rfl, _⟩ := h
    rfl
  · obtain ⟨w, kn, rfl, ⟨hk, hf⟩, q⟩ := h
    have hs : sizeLine = 16777216 := sizeLine_eq
    have hwl := hf.1.1
    refine ⟨_, (pss_one (ps_ret (pe_op op_sub (pe_cal C_up_to hr passX (pa_cN (pv 0) (pa_cN (pv 1) pa_nil))) (pe_callB call_len_T (by rfl) tt.b_len PySem.boot_len (pa_cK (pe_cal C_root hr pass1 (pa_cN (pv 0) pa_nil)) pa_nil))))), ?_⟩
    (try rw [cxK2]); (try rw [cxK1])
    refine ⟨_, rfl, _, rfl, w, _, rfl, (by (first | lia | omega)), fun z => absurd (by (first | lia | omega)) z, fun kn' ek hk' => ?_⟩  -- up_to(least, kinds)
    obtain rfl : kn = kn' := by (first | lia | omega)
    refine ⟨fun _ H1 s1 => ?_, fun z => absurd hf.1 z⟩
    refine ⟨_, rfl, w, rfl, ⟨by (first | lia | omega), by (first | lia | omega)⟩, fun p hp => ?_⟩  -- root(least)
    have hpl := hp.le
    have htl : (w.take p).length = p := by rw [List.length_take]; (first | lia | omega)
    refine ⟨_, rfl, (by (first | lia | omega)), _, _, rfl, rfl, ?_⟩
    have h1 := Wd.up_cb (show 0 < kn by (first | lia | omega)) (by (first | lia | omega)) hf.lw
    rw [Wd.rootL_eq hp] at h1
    have g := q H1 s1
    rw [show ((Wd.cb kn w : Nat) : Int) = ((Wd.upN kn w : Nat) : Int) - (((w.take p).length : Nat) : Int) by rw [htl]; (first | lia | omega)] at g
    exact g

noncomputable def spRSize (ad : Adr) : Sp := fun vs H Q E => ∃ (w : List Nat) (k : Int), vs = [T w, .int k] ∧ w.length ≤ 10000 ∧ (¬ (1 ≤ k ∧ k ≤ 6) → E (.ref ad.BadKinds) none H) ∧
  ∀ kn : Nat, k = (kn : Nat) → (1 ≤ kn ∧ kn ≤ 6) → (FirstOk w kn → ∀ H', Same H H' → Q (.int (((Wd.ringF kn w).length : Nat) : Int)) H') ∧ (¬ FirstOk w kn → E (.ref ad.BadWord) none H)
theorem ok_ring_size {f : Addr} {fd : FuncData} (F : Fun K "ring_size" "ring_size" s_ring_size f fd) (tt : Txt K mg ad) (C_looked_first : Cal P w K mg base (CX1 P w) "looked_first" 4 ["first", "kinds"] (spLFirst ad)) (C_word_total : Cal P w K mg base (CX1 P w) "word_total" 1 ["length", "kinds"] spTotal) (C_count_below : Cal P w K mg base (CX1 P w) "count_below" 6 ["least", "kinds"] spCB) : FnOk P w K mg base (CX1 P w) 7 f fd ["first", "kinds"] (spRSize ad) := by
  refine F.okX sc_ring_size (fun vs H Q E h => ?_) (fun cdv A outer s H vs Q E hr h => ?_)
  · obtain ⟨w, k, rfl, _⟩ := h
    rfl
  · obtain ⟨w, k, rfl, hw, x1, q⟩ := h
    have hs : sizeLine = 16777216 := sizeLine_eq
    refine ⟨_, (pss_cons (ps_expr (pe_cal C_looked_first hr passX (pa_cN (pv 0) (pa_cN (pv 1) pa_nil))))
      (pss_one (ps_ret (pe_op op_sub (pe_cal C_word_total hr pass1 (pa_cK (pe_callB call_len_T (by rfl) tt.b_len PySem.boot_len (pa_cN (pv 0) pa_nil)) (pa_cN (pv 1) pa_nil))) (pe_cal C_count_below hr passX (pa_cN (pv 0) (pa_cN (pv 1) pa_nil))))))), ?_⟩
    (try rw [cxK2]); (try rw [cxK1])
    refine ⟨_, rfl, _, rfl, w, k, rfl, hw, x1, fun kn ek hk => ?_⟩  -- looked_first(first, kinds)
    subst ek
    obtain ⟨q1, q2⟩ := q kn rfl hk
    refine ⟨fun hf => ?_, q2⟩
    have hwl := hf.1.1
    refine ⟨_, rfl, _, rfl, (by (first | lia | omega)), _, rfl, w.length, kn, rfl, ⟨by (first | lia | omega), by (first | lia | omega)⟩, ?_⟩  -- word_total(len(first), kinds)
    refine ⟨_, rfl, _, rfl, w, kn, rfl, ⟨hk, hf⟩, fun H1 s1 => ⟨_, _, rfl, rfl, ?_⟩⟩  -- count_below(first, kinds)
    have h1 := (Wd.ringF_len (show 0 < kn by (first | lia | omega)) (by (first | lia | omega)) hf.lw).1
    have g := q1 hf H1 s1
    rw [show (((Wd.ringF kn w).length : Nat) : Int) = ((kn ^ w.length : Nat) : Int) - ((Wd.cb kn w : Nat) : Int) by (first | lia | omega)] at g
    exact g

noncomputable def LastR (k : Nat) (f : List Nat) (p many : Nat) (t : List Nat) : Prop := t = [] ∨ ∃ (t0 : Nat) (u : List Nat), t.length = t0 + Wd.rootL u ∧ t0 < many ∧ (p + t0) % (Wd.ringF k f).length = Wd.cb k u - Wd.cb k f ∧ Wd.cb k u - Wd.cb k f + Wd.rootL u ≤ (Wd.ringF k f).length
noncomputable def spPut : Sp := fun vs H Q _ => ∃ (f l : List Nat) (kn many : Nat), vs = [T f, .int (kn : Nat), T l, .int (many : Nat)] ∧ ((1 ≤ kn ∧ kn ≤ 6) ∧ FirstOk f kn ∧ Wd.LW kn f.length l ∧ ¬ l < f ∧ many ≤ 100000) ∧
  ∀ (t : List Nat) H', many ≤ t.length → t.length ≤ many + 24 → t = Wd.ringAt (Wd.ringF kn f) t.length (Wd.cb kn l - Wd.cb kn f) → Wd.cb kn f ≤ Wd.cb kn l → LastR kn f (Wd.cb kn l - Wd.cb kn f) many t → Same H H' → Q (T t) H'
noncomputable def invPut (f l : List Nat) (kn many : Nat) (H : Hp) (m : Nat) (σ : St) (H2 : Hp) : Prop := ∃ (pre ls : List (List Nat)) (t u : List Nat) (v : Option V), Wd.LO kn f.length = pre ++ f :: ls ∧ m = many - t.length ∧ t.length ≤ many + 24 ∧ Wd.Walk (Wd.ringOf (f :: ls)) f kn (f :: ls) (Wd.cb kn l - Wd.cb kn f) t u ∧ LastR kn f (Wd.cb kn l - Wd.cb kn f) many t ∧ Same H H2 ∧ σ = [some (T f), some (.int (kn : Nat)), some (T l), some (.int (many : Nat)), some (T t), some (T u), v]
theorem ok_put_together {f : Addr} {fd : FuncData} (F : Fun K "put_together" "put_together" s_put_together f fd) (tt : Txt K mg ad) (C_root : Cal P w K mg base (CX1 P w) "root" 2 ["word"] spRoot) (C_next_least : Cal P w K mg base (CX1 P w) "next_least" 6 ["word", "kinds"] (spNextX ad)) : FnOk P w K mg base (CX1 P w) 7 f fd ["first", "kinds", "least", "many"] spPut := by
  refine F.okN sc_put_together (fun vs H Q E h => ?_) (fun cdv A outer s H vs Q E hr h => ?_)
  · obtain ⟨f, l, kn, many, rfl, _⟩ := h
    rfl
  · obtain ⟨f, l, kn, many, rfl, ⟨hk, hf, hl, hge, hmany⟩, q⟩ := h
    have hs : sizeLine = 16777216 := sizeLine_eq
    have hfl := hf.1.1
    have hk0 : 0 < kn := by (first | lia | omega)
    have hn0 : 0 < f.length := by (first | lia | omega)
    obtain ⟨pre, ls, he, hR⟩ := Wd.ringF_is hk0 hf.lw
    obtain ⟨a, b, hab⟩ := Wd.split_at hk0 he hl hge
    have hlen := Wd.ring_len hk0 hn0 a pre b l f (by rw [he, hab]) (by rw [← hab]; rfl)
    have hpos := Wd.ring_pos hk0 hn0 he
    have hlin : l ∈ f :: ls := by rw [hab]; simp
    refine ⟨_, (pss_cons (ps_set (i := 4) sc_put_together.nd rfl (Or.inl rfl) (pe_strT [] (by decide +kernel)))
      (pss_cons (ps_set (i := 5) sc_put_together.nd rfl (Or.inl rfl) (pv 2))
      (pss_cons (ps_while PassesOwn.never (pt_cmpR op_lt (pe_callB call_len_T (by rfl) tt.b_len PySem.boot_len (pa_cN (pv 4) pa_nil)) (pv 3) (nomark _)) (pss_cons (ps_set (i := 4) sc_put_together.nd rfl (Or.inl rfl) (pe_op op_add_T (pv 4) (pe_cal C_root hr pass1 (pa_cN (pv 5) pa_nil))))
      (pss_cons (ps_set (i := 6) sc_put_together.nd rfl (Or.inl rfl) (pe_cal C_next_least hr pass1 (pa_cN (pv 5) (pa_cN (pv 1) pa_nil))))
      (pss_one (ps_set (i := 5) sc_put_together.nd rfl (Or.inl rfl) (pe_ifExp (pt_cmp (pc_isN (pv 6))) (pv 0) (pv 6)))))))
      (pss_one (ps_ret (pv 4)))))), ?_⟩
    (try rw [cxK2]); (try rw [cxK1])
    refine ⟨_, rfl, ?_⟩  -- text = ""; at = least
    refine ⟨invPut f l kn many H, ⟨_, pre, ls, [], l, none, he, rfl, by show 0 ≤ many + 24; (first | lia | omega), ⟨hlin, rfl, ?_, by (first | lia | omega)⟩, .inl rfl, Same.refl _, rfl⟩, ?_⟩
    · show (Wd.cb kn l - Wd.cb kn f + 0) % _ = _
      refine Nat.mod_eq_of_lt ?_
      have hlp := (Wd.rootL_is (w := l) (by rw [hl.len]; exact hn0)).pos
      rw [hab, Wd.ringOf_app, List.length_append, Wd.ringOf_cons, List.length_append, Wd.rootW_len (by rw [hl.len]; exact hn0)]
      (first | lia | omega)
    rintro m σ H2 ⟨pre', ls', t, u, v, he', rfl, htl, hw, hlast, s2, rfl⟩
    have hls : f :: ls' = f :: ls := by
      have hnd := Wd.LO_nodup (k := kn) (n := f.length) hk0
      have hsp := he'.symm.trans he
      rw [he'] at hnd
      have h1 := (List.append_eq_append_iff.mp hsp)
      rcases h1 with ⟨a', e1, e2⟩ | ⟨a', e1, e2⟩
      · cases a' with
        | nil => exact e2
        | cons x a' =>
          have hx : x = f := (List.cons.inj e2).1.symm
          have hm : f ∈ ls' := by rw [(List.cons.inj e2).2]; simp
          exact absurd hm (List.nodup_cons.mp (List.nodup_append.mp hnd).2.1).1
      · cases a' with
        | nil => exact e2.symm
        | cons x a' =>
          have hx : x = f := (List.cons.inj e2).1.symm
          have hm : f ∈ pre' := by rw [e1, hx]; simp
          exact absurd rfl ((List.nodup_append.mp hnd).2.2 f hm f (by simp))
    rw [hls] at hw
    have hu : Wd.LW kn f.length u := (Wd.mem_LO hk0).mp (by rw [he]; exact List.mem_append_right _ hw.mem)
    have hul := hu.len
    refine ⟨_, rfl, _, rfl, (by (first | lia | omega)), _, rfl, _, _, rfl, rfl, _, rfl, ?_⟩  -- len(text) < many
    refine ite2 (fun h0 => ?_) (fun h0 => ?_)
    · have hlt : t.length < many := by have := of_decide_eq_true h0; (first | lia | omega)
      obtain ⟨w1, w2, w3⟩ := hw.step hk0 hn0 he
      refine ⟨fun σ' H' => ∃ m', m' < many - t.length ∧ invPut f l kn many H m' σ' H', fun σ' H' z => z, ?_⟩
      refine ⟨_, rfl, _, rfl, u, rfl, ⟨by (first | lia | omega), by (first | lia | omega)⟩, fun p hp => ?_⟩  -- text = text + root(at)
      have hpe := Wd.rootL_eq hp
      have htk : u.take p = Wd.rootW u := by rw [← hpe]; rfl
      have hpp := hp.pos
      have hple := hp.le
      rw [htk]
      have hrl := Wd.rootW_len (w := u) (by (first | lia | omega))
      refine ⟨_, rfl, _, rfl, (by rw [hrl]; (first | lia | omega)), ?_⟩
      refine ⟨_, rfl, _, rfl, u, _, rfl, (by (first | lia | omega)), fun z => absurd ⟨by (first | lia | omega), by (first | lia | omega)⟩ z, fun kn' ek hk' => ?_⟩  -- later = next_least(at, kinds)
      obtain rfl : kn = kn' := by (first | lia | omega)
      have hgu : Good u kn := ⟨⟨by (first | lia | omega), by (first | lia | omega)⟩, hu.ok⟩
      refine ⟨fun _ x H3 hx s3 => ?_, fun z => absurd hgu z⟩
      have hnew : LastR kn f (Wd.cb kn l - Wd.cb kn f) many (t ++ Wd.rootW u) := .inr ⟨t.length, u, by rw [List.length_append, hrl], hlt, by rw [hR]; exact hw.at_, by rw [hR]; exact w2⟩
      have hmes : many - (t ++ Wd.rootW u).length < many - t.length := by rw [List.length_append, hrl]; (first | lia | omega)
      have hbd : (t ++ Wd.rootW u).length ≤ many + 24 := by rw [List.length_append, hrl]; (first | lia | omega)
      refine ⟨_, rfl, _, rfl, ?_⟩  -- later is None
      rcases hx with ⟨rfl, hno⟩ | ⟨r, rfl, hr⟩
      · refine itP (decide_eq_true rfl) ?_
        refine ⟨_, rfl, _, hmes, pre, ls, t ++ Wd.rootW u, f, _, he, rfl, hbd, hw.next hk0 hn0 he (.inr ⟨rfl, fun x hx => hno x (by rw [hul]; exact hx)⟩), hnew, s2.trans s3, rfl⟩
      · refine itN (fun z => absurd (of_decide_eq_true z) (fun z => nomatch z)) ?_
        refine ⟨_, rfl, _, hmes, pre, ls, t ++ Wd.rootW u, r, _, he, rfl, hbd, hw.next hk0 hn0 he (.inl hr), hnew, s2.trans s3, rfl⟩
    · have hge2 : many ≤ t.length := by
        have : ¬ ((t.length : Nat) : Int) < ((many : Nat) : Int) := fun z => h0 (decide_eq_true z)
        (first | lia | omega)
      exact ⟨_, rfl, q t H2 hge2 htl (by rw [hR]; exact hw.rd) (by (first | lia | omega)) hlast s2⟩

noncomputable def spWhole (ad : Adr) : Sp := fun vs H Q E => ∃ (w : List Nat) (k : Int), vs = [T w, .int k] ∧ w.length ≤ 10000 ∧ (¬ (1 ≤ k ∧ k ≤ 6) → E (.ref ad.BadKinds) none H) ∧
  ∀ kn : Nat, k = (kn : Nat) → (1 ≤ kn ∧ kn ≤ 6) → (¬ FirstOk w kn → E (.ref ad.BadWord) none H) ∧ (FirstOk w kn → (4096 < (Wd.ringF kn w).length → ∀ H', Same H H' → E (.ref ad.TooMany) none H') ∧ ((Wd.ringF kn w).length ≤ 4096 → ∀ H', Same H H' → Q (T (Wd.ringF kn w)) H'))
theorem ok_whole_ring {f : Addr} {fd : FuncData} (F : Fun K "whole_ring" "whole_ring" s_whole_ring f fd) (tt : Txt K mg ad) (C_ring_size : Cal P w K mg base (CX1 P w) "ring_size" 7 ["first", "kinds"] (spRSize ad)) (C_put_together : Cal P w K mg base (CX1 P w) "put_together" 7 ["first", "kinds", "least", "many"] spPut) : FnOk P w K mg base (CX1 P w) 8 f fd ["first", "kinds"] (spWhole ad) := by
  refine F.okX sc_whole_ring (fun vs H Q E h => ?_) (fun cdv A outer s H vs Q E hr h => ?_)
  · obtain ⟨w, k, rfl, _⟩ := h
    rfl
  · obtain ⟨w, k, rfl, hw, x1, q⟩ := h
    have hs : sizeLine = 16777216 := sizeLine_eq
    refine ⟨_, (pss_cons (ps_set (i := 2) sc_whole_ring.nd rfl (Or.inl rfl) (pe_cal C_ring_size hr passX (pa_cN (pv 0) (pa_cN (pv 1) pa_nil))))
      (pss_cons (ps_if (pt_cmpR op_gt (pv 2) (pe_glob (by rfl) tt.g_MOST_WORDS tt.r_MOST_WORDS) (nomark _)) (pss_one (ps_raise (E := fun cls H' => E cls none H') tt.x_TooMany rfl (fun _ _ _ _ _ _ _ I hx q => raiseX I hx q) (pa_cC (pe_strT [116, 104, 101, 32, 114, 105, 110, 103, 32, 104, 97, 115, 32, 109, 111, 114, 101, 32, 116, 104, 97, 110, 32, 52, 48, 57, 54, 32, 108, 101, 116, 116, 101, 114, 115] (by decide +kernel)) pa_nil))) pss_nil)
      (pss_one (ps_ret (pe_cal C_put_together hr pass1 (pa_cN (pv 0) (pa_cN (pv 1) (pa_cN (pv 0) (pa_cN (pv 2) pa_nil))))))))), ?_⟩
    (try rw [cxK2]); (try rw [cxK1])
    refine ⟨_, rfl, _, rfl, w, k, rfl, hw, x1, fun kn ek hk => ?_⟩  -- size = ring_size(first, kinds)
    subst ek
    obtain ⟨q1, q2⟩ := q kn rfl hk
    refine ⟨fun hf H1 s1 => ?_, q1⟩
    obtain ⟨q3, q4⟩ := q2 hf
    have hwl := hf.1.1
    obtain ⟨_, hR0⟩ := Wd.ringF_len (show 0 < kn by (first | lia | omega)) (by (first | lia | omega)) hf.lw
    refine ⟨_, rfl, _, _, rfl, rfl, _, rfl, ?_⟩  -- size > MOST_WORDS
    refine ite2 (fun h0 => ⟨(by show 1 ≤ sizeLine; (first | lia | omega)), q3 (by have := of_decide_eq_true h0; (first | lia | omega)) H1 s1⟩) (fun h0 => ?_)
    have h0 : (Wd.ringF kn w).length ≤ 4096 := by
      have : ¬ (4096 : Int) < (((Wd.ringF kn w).length : Nat) : Int) := fun z => h0 (decide_eq_true z)
      (first | lia | omega)
    refine ⟨_, rfl, _, rfl, _, rfl, _, rfl, w, w, kn, (Wd.ringF kn w).length, rfl, ⟨hk, hf, hf.lw, Wd.ltir _, by (first | lia | omega)⟩, fun t H2 t1 t2 t3 _ t5 s2 => ?_⟩  -- put_together(first, kinds, first, size)
    have htl : t.length = (Wd.ringF kn w).length := by
      rcases t5 with rfl | ⟨t0, u, e1, e2, e3, e4⟩
      · rw [List.length_nil] at t1; (first | lia | omega)
      · rw [Nat.sub_self, Nat.zero_add, Nat.mod_eq_of_lt e2] at e3
        (first | lia | omega)
    rw [Nat.sub_self, htl, Wd.ringAt_all hR0] at t3
    rw [t3]
    exact q4 h0 H2 (s1.trans s2)

noncomputable def spPiece (ad : Adr) : Sp := fun vs H Q E => ∃ (w : List Nat) (k pl mn : Int), vs = [T w, .int k, .int pl, .int mn] ∧ w.length ≤ 10000 ∧ (¬ (1 ≤ k ∧ k ≤ 6) → E (.ref ad.BadKinds) none H) ∧
  ∀ kn : Nat, k = (kn : Nat) → (1 ≤ kn ∧ kn ≤ 6) → (¬ FirstOk w kn → E (.ref ad.BadWord) none H) ∧ (FirstOk w kn → (200 < mn → ∀ H', Same H H' → E (.ref ad.TooMany) none H') ∧ (mn < 0 → ∀ H', Same H H' → E (.ref ad.NoSuch) none H') ∧
    ∀ (many i : Nat), mn = (many : Nat) → many ≤ 200 → pl % (((Wd.ringF kn w).length : Nat) : Int) = (i : Int) → ∀ H', Same H H' → Q (T (Wd.ringAt (Wd.ringF kn w) many i)) H')
theorem ok_piece_at {f : Addr} {fd : FuncData} (F : Fun K "piece_at" "piece_at" s_piece_at f fd) (tt : Txt K mg ad) (C_ring_size : Cal P w K mg base (CX1 P w) "ring_size" 7 ["first", "kinds"] (spRSize ad)) (C_count_below : Cal P w K mg base (CX1 P w) "count_below" 6 ["least", "kinds"] spCB) (C_first_word_above : Cal P w K mg base (CX1 P w) "first_word_above" 8 ["length", "kinds", "number", "counted_up_to"] (spFWA P w K mg base ad))
    (C_up_to : Cal P w K mg base (CX1 P w) "up_to" 5 ["word", "kinds"] (spUpX ad)) (C_put_together : Cal P w K mg base (CX1 P w) "put_together" 7 ["first", "kinds", "least", "many"] spPut) : FnOk P w K mg base (CX1 P w) 9 f fd ["first", "kinds", "place", "many"] (spPiece ad) := by
  refine F.okX sc_piece_at (fun vs H Q E h => ?_) (fun cdv A outer s H vs Q E hr h => ?_)
  · obtain ⟨w, k, pl, mn, rfl, _⟩ := h
    rfl
  · obtain ⟨w, k, pl, mn, rfl, hw, x1, q⟩ := h
    have hs : sizeLine = 16777216 := sizeLine_eq
    obtain ⟨fu, hmg, hcf⟩ := C_up_to.val
    refine ⟨_, (pss_cons (ps_set (i := 4) sc_piece_at.nd rfl (Or.inl rfl) (pe_cal C_ring_size hr passX (pa_cN (pv 0) (pa_cN (pv 1) pa_nil))))
      (pss_cons (ps_if (pt_cmpR op_gt (pv 3) (pe_glob (by rfl) tt.g_MOST_OF_A_PIECE tt.r_MOST_OF_A_PIECE) (nomark _)) (pss_one (ps_raise (E := fun cls H' => E cls none H') tt.x_TooMany rfl (fun _ _ _ _ _ _ _ I hx q => raiseX I hx q) (pa_cC (pe_strT [97, 32, 112, 105, 101, 99, 101, 32, 104, 97, 115, 32, 97, 116, 32, 109, 111, 115, 116, 32, 50, 48, 48, 32, 108, 101, 116, 116, 101, 114, 115] (by decide +kernel)) pa_nil))) pss_nil)
      (pss_cons (ps_if (pt_cmpR op_lt (pv 3) pe_int (nomark _)) (pss_one (ps_raise (E := fun cls H' => E cls none H') tt.x_NoSuch rfl (fun _ _ _ _ _ _ _ I hx q => raiseX I hx q) (pa_cC (pe_strT [116, 104, 101, 114, 101, 32, 105, 115, 32, 110, 111, 32, 112, 105, 101, 99, 101, 32, 111, 102, 32, 108, 101, 115, 115, 32, 116, 104, 97, 110, 32, 110, 111, 32, 108, 101, 116, 116, 101, 114, 115] (by decide +kernel)) pa_nil))) pss_nil)
      (pss_cons (ps_set (i := 5) sc_piece_at.nd rfl (Or.inl rfl) (pe_op op_add (pe_cal C_count_below hr passX (pa_cN (pv 0) (pa_cN (pv 1) pa_nil))) (pe_op op_mod (pv 2) (pv 4))))
      (pss_cons (ps_set (i := 6) sc_piece_at.nd rfl (Or.inl rfl) (pe_cal C_first_word_above hr passX (pa_cK (pe_callB call_len_T (by rfl) tt.b_len PySem.boot_len (pa_cN (pv 0) pa_nil)) (pa_cN (pv 1) (pa_cN (pv 5) (pa_cN (pe_glob (v := .ref fu) (by rfl) hmg rfl) pa_nil))))))
      (pss_cons (ps_set (i := 7) sc_piece_at.nd rfl (Or.inl rfl) (pe_op op_sub (pv 5) (pe_cal C_count_below hr passX (pa_cN (pv 6) (pa_cN (pv 1) pa_nil)))))
      (pss_one (ps_ret (pe_slice sl_T (pe_cal C_put_together hr pass1 (pa_cN (pv 0) (pa_cN (pv 1) (pa_cN (pv 6) (pa_cB (pe_op op_add (pv 7) (pv 3)) pa_nil))))) (po_some (pv 7)) (po_some (pe_op op_add (pv 7) (pv 3)))))))))))), ?_⟩
    (try rw [cxK2]); (try rw [cxK1])
    refine ⟨_, rfl, _, rfl, w, k, rfl, hw, x1, fun kn ek hk => ?_⟩  -- size = ring_size(first, kinds)
    subst ek
    obtain ⟨q1, q2⟩ := q kn rfl hk
    refine ⟨fun hf H1 s1 => ?_, q1⟩
    obtain ⟨q2, q3, q4⟩ := q2 hf
    have hwl := hf.1.1
    have hk0 : 0 < kn := by (first | lia | omega)
    have hn0 : 0 < w.length := by (first | lia | omega)
    obtain ⟨hRl, hR0⟩ := Wd.ringF_len hk0 hn0 hf.lw
    refine ⟨_, rfl, _, _, rfl, rfl, _, rfl, ?_⟩  -- many > 200
    refine ite2 (fun h0 => ⟨(by show 1 ≤ sizeLine; (first | lia | omega)), q2 (of_decide_eq_true h0) H1 s1⟩) (fun h0 => ?_)
    have h0 : ¬ 200 < mn := fun z => h0 (decide_eq_true z)
    refine ⟨_, rfl, _, _, rfl, rfl, _, rfl, ?_⟩  -- many < 0
    refine ite2 (fun h1 => ⟨(by show 1 ≤ sizeLine; (first | lia | omega)), q3 (of_decide_eq_true h1) H1 s1⟩) (fun h1 => ?_)
    have h1 : ¬ mn < 0 := fun z => h1 (decide_eq_true z)
    obtain ⟨many, rfl⟩ : ∃ many : Nat, mn = (many : Nat) := ⟨mn.toNat, by (first | lia | omega)⟩
    obtain ⟨i, hi, hil⟩ : ∃ i : Nat, pl % (((Wd.ringF kn w).length : Nat) : Int) = (i : Int) ∧ i < (Wd.ringF kn w).length := by
      have g0 := Int.emod_nonneg pl (show (((Wd.ringF kn w).length : Nat) : Int) ≠ 0 by (first | lia | omega))
      have g1 := Int.emod_lt_of_pos pl (show (0 : Int) < (((Wd.ringF kn w).length : Nat) : Int) by (first | lia | omega))
      exact ⟨(pl % (((Wd.ringF kn w).length : Nat) : Int)).toNat, by (first | lia | omega), by (first | lia | omega)⟩
    obtain ⟨l, hl, hge, hcl, hc1, hc2⟩ := Wd.ringF_at hk0 hn0 hf.lw hil
    refine ⟨_, rfl, _, rfl, w, kn, rfl, ⟨hk, hf⟩, fun H2 s2 => ?_⟩  -- count_below(first, kinds)
    refine ⟨_, rfl, _, rfl, _, _, rfl, rfl, (by show (0 : Int) < (((Wd.ringF kn w).length : Nat) : Int); (first | lia | omega)), _, _, rfl, rfl, ?_⟩  -- below
    dsimp only
    rw [hi]
    refine ⟨_, rfl, _, rfl, (by (first | lia | omega)), _, rfl, _, rfl, _, _, ((Wd.cb kn w : Nat) : Int) + (i : Int), fu, 5, Wd.upN, rfl, hcf, by decide, fun z => absurd (by (first | lia | omega)) z, fun _ z => absurd (by (first | lia | omega)) z, fun kn' nn ek en hk' hn' => ?_⟩  -- first_word_above(len(first), kinds, below, up_to)
    obtain rfl : kn = kn' := by (first | lia | omega)
    obtain rfl : w.length = nn := by (first | lia | omega)
    have htop := Wd.up_top (k := kn) (n := w.length) hk0 hn0
    rw [Wd.spell_top hk0, htop]
    refine ⟨fun z => absurd ⟨by (first | lia | omega), by (first | lia | omega)⟩ z, fun _ m H3 hm s3 => ?_⟩
    obtain ⟨m1, m2, m3⟩ := hm
    have hsl := Wd.first_up (N := Wd.cb kn w + i) hk0 hl m1 (by (first | lia | omega)) (m3.imp id fun z => by (first | lia | omega)) hc1 hc2
    rw [hsl]
    have hll := hl.len
    have hfl : FirstOk l kn := ⟨⟨⟨by (first | lia | omega), by (first | lia | omega)⟩, hl.ok⟩, hl.lst⟩
    refine ⟨_, rfl, _, rfl, _, rfl, l, kn, rfl, ⟨hk, hfl⟩, fun H4 s4 => ⟨_, _, rfl, rfl, ?_⟩⟩  -- start = below - count_below(least, kinds)
    obtain ⟨st, hst⟩ : ∃ st : Nat, ((Wd.cb kn w : Nat) : Int) + (i : Int) - ((Wd.cb kn l : Nat) : Int) = (st : Int) := ⟨Wd.cb kn w + i - Wd.cb kn l, by (first | lia | omega)⟩
    have hst24 : st ≤ 24 := by
      have := Wd.up_cb (l := l) hk0 (by (first | lia | omega)) (by rw [hll]; exact hl)
      have := (Wd.rootL_is (w := l) (by (first | lia | omega))).le
      (first | lia | omega)
    dsimp only
    rw [hst]
    refine ⟨_, rfl, _, rfl, _, rfl, _, rfl, _, rfl, _, _, rfl, rfl, w, l, kn, st + many, rfl, ⟨hk, hf, hl, hge, by (first | lia | omega)⟩, fun t H5 ht1 ht2 ht3 _ _ s5 => ?_⟩  -- put_together(first, kinds, least, start + many)
    refine ⟨_, rfl, _, rfl, _, rfl, _, rfl, _, _, rfl, rfl, _, rfl, t, rfl, (by (first | lia | omega)), ?_⟩
    rw [show ((st : Nat) : Int) + ((many : Nat) : Int) = ((st + many : Nat) : Int) by (first | lia | omega), cutL_mid ht1 (by (first | lia | omega)), Nat.add_sub_cancel_left, Wd.ringAt_part hR0 ht3 ht1, show Wd.cb kn l - Wd.cb kn w + st = i by (first | lia | omega)]
    exact q4 many i rfl (by (first | lia | omega)) hi H5 (s1.trans (s2.trans (s3.trans (s4.trans s5))))
noncomputable def spLetter (ad : Adr) : Sp := fun vs H Q E => ∃ (w : List Nat) (k pl : Int), vs = [T w, .int k, .int pl] ∧ w.length ≤ 10000 ∧ (¬ (1 ≤ k ∧ k ≤ 6) → E (.ref ad.BadKinds) none H) ∧
  ∀ kn : Nat, k = (kn : Nat) → (1 ≤ kn ∧ kn ≤ 6) → (¬ FirstOk w kn → E (.ref ad.BadWord) none H) ∧ (FirstOk w kn → ∀ i : Nat, pl % (((Wd.ringF kn w).length : Nat) : Int) = (i : Int) → ∀ H', Same H H' → Q (T (Wd.ringAt (Wd.ringF kn w) 1 i)) H')
theorem ok_letter_at {f : Addr} {fd : FuncData} (F : Fun K "letter_at" "letter_at" s_letter_at f fd) (tt : Txt K mg ad) (C_piece_at : Cal P w K mg base (CX1 P w) "piece_at" 9 ["first", "kinds", "place", "many"] (spPiece ad)) : FnOk P w K mg base (CX1 P w) 10 f fd ["first", "kinds", "place"] (spLetter ad) := by
  refine F.okX sc_letter_at (fun vs H Q E h => ?_) (fun cdv A outer s H vs Q E hr h => ?_)
  · obtain ⟨w, k, pl, rfl, _⟩ := h
    rfl
  · obtain ⟨w, k, pl, rfl, hw, x1, q⟩ := h
    refine ⟨_, (pss_one (ps_ret (pe_cal C_piece_at hr passX (pa_cN (pv 0) (pa_cN (pv 1) (pa_cN (pv 2) (pa_cC pe_int pa_nil))))))), ?_⟩
    (try rw [cxK2]); (try rw [cxK1])
    refine ⟨_, rfl, _, rfl, _, rfl, w, k, pl, 1, rfl, hw, x1, fun kn ek hk => ?_⟩
    obtain ⟨q1, q2⟩ := q kn ek hk
    refine ⟨q1, fun hf => ⟨fun z => absurd z (by decide), fun z => absurd z (by decide), fun many i em _ hi H' s' => ?_⟩⟩
    obtain rfl : many = 1 := by (first | lia | omega)
    exact q2 hf i hi H' s'

noncomputable def spBP : Sp := fun vs H Q _ => ∃ (f l : List Nat) (kn : Nat), vs = [T f, .int (kn : Nat), T l] ∧ ((1 ≤ kn ∧ kn ≤ 6) ∧ FirstOk f kn ∧ FirstOk l kn) ∧ ∀ H', Same H H' → Q (.int (((Wd.cb kn l : Nat) : Int) - ((Wd.cb kn f : Nat) : Int))) H'
theorem ok_begin_place {f : Addr} {fd : FuncData} (F : Fun K "begin_place" "begin_place" s_begin_place f fd) (tt : Txt K mg ad) (C_count_below : Cal P w K mg base (CX1 P w) "count_below" 6 ["least", "kinds"] spCB) : FnOk P w K mg base (CX1 P w) 7 f fd ["first", "kinds", "least"] spBP := by
  refine F.okX sc_begin_place (fun vs H Q E h => ?_) (fun cdv A outer s H vs Q E hr h => ?_)
  · obtain ⟨f, l, kn, rfl, _⟩ := h
    rfl
  · obtain ⟨f, l, kn, rfl, ⟨hk, hf, hl⟩, q⟩ := h
    refine ⟨_, (pss_one (ps_ret (pe_op op_sub (pe_cal C_count_below hr passX (pa_cN (pv 2) (pa_cN (pv 1) pa_nil))) (pe_cal C_count_below hr passX (pa_cN (pv 0) (pa_cN (pv 1) pa_nil)))))), ?_⟩
    (try rw [cxK2]); (try rw [cxK1])
    exact ⟨_, rfl, _, rfl, l, kn, rfl, ⟨hk, hl⟩, fun H1 s1 => ⟨_, rfl, _, rfl, f, kn, rfl, ⟨hk, hf⟩, fun H2 s2 => ⟨_, _, rfl, rfl, q H2 (s1.trans s2)⟩⟩⟩

noncomputable def spLFor (ad : Adr) : Sp := fun vs H Q E => ∃ (f w : List Nat) (k : Int), vs = [T f, .int k, T w] ∧ f.length ≤ 10000 ∧ w.length ≤ 10000 ∧ (¬ (1 ≤ k ∧ k ≤ 6) → E (.ref ad.BadKinds) none H) ∧
  ∀ kn : Nat, k = (kn : Nat) → (1 ≤ kn ∧ kn ≤ 6) → (¬ FirstOk f kn → E (.ref ad.BadWord) none H) ∧ (FirstOk f kn → (¬ (Good w kn ∧ w.length = f.length) → E (.ref ad.BadWord) none H) ∧ ((Good w kn ∧ w.length = f.length) → (Wd.least w < f → E (.ref ad.NoSuch) none H) ∧ (¬ Wd.least w < f → Q .non H)))
theorem ok_looked_for {f : Addr} {fd : FuncData} (F : Fun K "looked_for" "looked_for" s_looked_for f fd) (tt : Txt K mg ad) (C_looked_first : Cal P w K mg base (CX1 P w) "looked_first" 4 ["first", "kinds"] (spLFirst ad)) (C_looked : Cal P w K mg base (CX1 P w) "looked" 3 ["word", "kinds"] (spLookedX ad)) (C_least_turn : Cal P w K mg base (CX1 P w) "least_turn" 3 ["word"] spLeastTurn) : FnOk P w K mg base (CX1 P w) 5 f fd ["first", "kinds", "word"] (spLFor ad) := by
  refine F.okX sc_looked_for (fun vs H Q E h => ?_) (fun cdv A outer s H vs Q E hr h => ?_)
  · obtain ⟨f, w, k, rfl, _⟩ := h
    rfl
  · obtain ⟨f, w, k, rfl, hfl, hwl, x1, q⟩ := h
    have hs : sizeLine = 16777216 := sizeLine_eq
    refine ⟨_, (pss_cons (ps_expr (pe_cal C_looked_first hr passX (pa_cN (pv 0) (pa_cN (pv 1) pa_nil))))
      (pss_cons (ps_expr (pe_cal C_looked hr passX (pa_cN (pv 2) (pa_cN (pv 1) pa_nil))))
      (pss_cons (ps_if (pt_cmpR op_ne_I (pe_callB call_len_T (by rfl) tt.b_len PySem.boot_len (pa_cN (pv 2) pa_nil)) (pe_callB call_len_T (by rfl) tt.b_len PySem.boot_len (pa_cN (pv 0) pa_nil)) (nomark _)) (pss_one (ps_raise (E := fun cls H' => E cls none H') tt.x_BadWord rfl (fun _ _ _ _ _ _ _ I hx q => raiseX I hx q) (pa_cC (pe_strT [116, 104, 101, 32, 119, 111, 114, 100, 32, 104, 97, 115, 32, 97, 110, 111, 116, 104, 101, 114, 32, 110, 117, 109, 98, 101, 114, 32, 111, 102, 32, 108, 101, 116, 116, 101, 114, 115, 32, 116, 104, 97, 110, 32, 116, 104, 101, 32, 102, 105, 114, 115, 116] (by decide +kernel)) pa_nil))) pss_nil)
      (pss_one (ps_if (pt_cmpR op_lt_T (pe_cal C_least_turn hr pass1 (pa_cN (pv 2) pa_nil)) (pv 0) (nomark _)) (pss_one (ps_raise (E := fun cls H' => E cls none H') tt.x_NoSuch rfl (fun _ _ _ _ _ _ _ I hx q => raiseX I hx q) (pa_cC (pe_strT [116, 104, 101, 32, 119, 111, 114, 100, 32, 105, 115, 32, 110, 111, 110, 101, 32, 111, 102, 32, 116, 104, 101, 32, 102, 105, 114, 115, 116, 39, 115, 32, 119, 111, 114, 100, 115] (by decide +kernel)) pa_nil))) pss_nil))))), ?_⟩
    (try rw [cxK2]); (try rw [cxK1])
    refine ⟨_, rfl, _, rfl, f, k, rfl, hfl, x1, fun kn ek hk => ?_⟩  -- looked_first(first, kinds)
    obtain ⟨q1, q2⟩ := q kn ek hk
    refine ⟨fun hf => ?_, q1⟩
    obtain ⟨q3, q4⟩ := q2 hf
    refine ⟨_, rfl, _, rfl, w, k, rfl, (by (first | lia | omega)), fun z => absurd (by (first | lia | omega)) z, fun kn' ek' hk' => ?_⟩  -- looked(word, kinds)
    obtain rfl : kn = kn' := by (first | lia | omega)
    refine ⟨fun hg => ?_, fun hg => q3 fun z => hg z.1⟩
    have hgl := hg.1
    refine ⟨_, rfl, _, rfl, (by (first | lia | omega)), _, rfl, _, rfl, (by (first | lia | omega)), _, rfl, _, rfl, _, rfl, ?_⟩  -- len(word) != len(first)
    by_cases hl : w.length = f.length
    case neg =>
      refine itP (by rw [decide_eq_false (fun z => hl (by (first | lia | omega)))]; rfl) ?_
      exact ⟨(by show 1 ≤ sizeLine; (first | lia | omega)), q3 fun z => hl z.2⟩
    refine itN (by rw [decide_eq_true (by (first | lia | omega))]; exact Bool.false_ne_true) ?_
    obtain ⟨q5, q6⟩ := q4 ⟨hg, hl⟩
    refine ⟨_, rfl, w, rfl, ⟨by (first | lia | omega), by (first | lia | omega)⟩, _, rfl, _, rfl, _, rfl, _, rfl, ?_⟩  -- least_turn(word) < first
    refine ite2 (fun h => ⟨(by show 1 ≤ sizeLine; (first | lia | omega)), q5 (of_decide_eq_true h)⟩) (fun h => q6 fun z => h (decide_eq_true z))

noncomputable def spPlace (ad : Adr) : Sp := fun vs H Q E => ∃ (f w : List Nat) (k : Int), vs = [T f, .int k, T w] ∧ f.length ≤ 10000 ∧ w.length ≤ 10000 ∧ (¬ (1 ≤ k ∧ k ≤ 6) → E (.ref ad.BadKinds) none H) ∧
  ∀ kn : Nat, k = (kn : Nat) → (1 ≤ kn ∧ kn ≤ 6) → (¬ FirstOk f kn → E (.ref ad.BadWord) none H) ∧ (FirstOk f kn → (¬ (Good w kn ∧ w.length = f.length) → E (.ref ad.BadWord) none H) ∧ ((Good w kn ∧ w.length = f.length) → (Wd.least w < f → E (.ref ad.NoSuch) none H) ∧ (¬ Wd.least w < f → ∀ (i : Nat) H', Wd.At (Wd.ringF kn f) f.length w i → Same H H' → Q (.int (i : Nat)) H')))
theorem ok_place_of {f : Addr} {fd : FuncData} (F : Fun K "place_of" "place_of" s_place_of f fd) (tt : Txt K mg ad) (C_looked_for : Cal P w K mg base (CX1 P w) "looked_for" 5 ["first", "kinds", "word"] (spLFor ad)) (C_ring_size : Cal P w K mg base (CX1 P w) "ring_size" 7 ["first", "kinds"] (spRSize ad)) (C_letters : Cal P w K mg base (CX1 P w) "letters" 2 ["kinds"] (spLettersX ad)) (C_turn_by : Cal P w K mg base (CX1 P w) "turn_by" 2 ["word"] spTurnBy)
    (C_least_turn : Cal P w K mg base (CX1 P w) "least_turn" 3 ["word"] spLeastTurn) (C_begin_place : Cal P w K mg base (CX1 P w) "begin_place" 7 ["first", "kinds", "least"] spBP) (C_root : Cal P w K mg base (CX1 P w) "root" 2 ["word"] spRoot) (C_least_beginning : Cal P w K mg base (CX1 P w) "least_beginning" 6 ["text", "length", "kinds"] (spLBX ad)) : FnOk P w K mg base (CX1 P w) 8 f fd ["first", "kinds", "word"] (spPlace ad) := by
  refine F.okX sc_place_of (fun vs H Q E h => ?_) (fun cdv A outer s H vs Q E hr h => ?_)
  · obtain ⟨f, w, k, rfl, _⟩ := h
    rfl
  · obtain ⟨f, w, k, rfl, hfl, hwl, x1, q⟩ := h
    have hs : sizeLine = 16777216 := sizeLine_eq
    refine ⟨_, (pss_cons (ps_expr (pe_cal C_looked_for hr passX (pa_cN (pv 0) (pa_cN (pv 1) (pa_cN (pv 2) pa_nil)))))
      (pss_cons (ps_set (i := 3) sc_place_of.nd rfl (Or.inl rfl) (pe_cal C_ring_size hr passX (pa_cN (pv 0) (pa_cN (pv 1) pa_nil))))
      (pss_cons (ps_set (i := 4) sc_place_of.nd rfl (Or.inl rfl) (pe_ix ix_T (pe_cal C_letters hr passX (pa_cN (pv 1) pa_nil)) (pe_un un_neg pe_int) (fun _ _ => rfl)))
      (pss_cons (ps_if (pt_cmpR op_eq_T (pv 2) (pe_op op_mul_T (pv 4) (pe_callB call_len_T (by rfl) tt.b_len PySem.boot_len (pa_cN (pv 2) pa_nil))) (nomark _)) (pss_one (ps_ret (pe_op op_mod (pe_op op_sub (pv 3) (pe_callB call_len_T (by rfl) tt.b_len PySem.boot_len (pa_cN (pv 2) pa_nil))) (pv 3)))) pss_nil)
      (pss_cons (ps_set (i := 5) sc_place_of.nd rfl (Or.inl rfl) (pe_cal C_turn_by hr pass1 (pa_cN (pv 2) pa_nil)))
      (pss_cons (ps_if (pt_cmpR op_ne_T (pe_slice sl_T (pv 2) po_none (po_some (pv 5))) (pe_op op_mul_T (pv 4) (pv 5)) (nomark _)) (pss_cons (ps_set (i := 6) sc_place_of.nd rfl (Or.inl rfl) (pe_cal C_least_turn hr pass1 (pa_cN (pv 2) pa_nil)))
      (pss_one (ps_ret (pe_op op_sub (pe_op op_add (pe_cal C_begin_place hr passX (pa_cN (pv 0) (pa_cN (pv 1) (pa_cN (pv 6) pa_nil)))) (pe_callB call_len_T (by rfl) tt.b_len PySem.boot_len (pa_cK (pe_cal C_root hr pass1 (pa_cN (pv 6) pa_nil)) pa_nil))) (pv 5))))) pss_nil)
      (pss_cons (ps_set (i := 7) sc_place_of.nd rfl (Or.inl rfl) (pe_callB (call_max2T rfl) (by rfl) tt.b_max PyProof.Rows.boot_max (pa_cN (pv 0) (pa_cK (pe_cal C_least_beginning hr passX (pa_cS (pe_slice sl_T (pv 2) (po_some (pv 5)) po_none) (pa_cK (pe_callB call_len_T (by rfl) tt.b_len PySem.boot_len (pa_cN (pv 2) pa_nil)) (pa_cN (pv 1) pa_nil)))) pa_nil))))
      (pss_one (ps_ret (pe_op op_mod (pe_op op_sub (pe_cal C_begin_place hr passX (pa_cN (pv 0) (pa_cN (pv 1) (pa_cN (pv 7) pa_nil)))) (pv 5)) (pv 3))))))))))), ?_⟩
    (try rw [cxK2]); (try rw [cxK1])
    refine ⟨_, rfl, _, rfl, _, rfl, f, w, k, rfl, hfl, hwl, x1, fun kn ek hk => ?_⟩  -- looked_for(first, kinds, word)
    subst ek
    obtain ⟨q1, q2⟩ := q kn rfl hk
    refine ⟨q1, fun hf => ?_⟩
    obtain ⟨q3, q4⟩ := q2 hf
    refine ⟨q3, fun hg => ?_⟩
    obtain ⟨q5, q6⟩ := q4 hg
    refine ⟨q5, fun hge => ?_⟩
    have q7 := q6 hge
    have hfl2 := hf.1.1
    have hgl := hg.2
    have hk0 : 0 < kn := by (first | lia | omega)
    have hn0 : 0 < f.length := by (first | lia | omega)
    have hwo : w.length = f.length ∧ Wd.Okk kn w := ⟨hgl, hg.1.2⟩
    obtain ⟨pre, ls, he, hR⟩ := Wd.ringF_is hk0 hf.lw
    obtain ⟨_, hR0⟩ := Wd.ringF_len hk0 hn0 hf.lw
    have hby := Wd.turnBy_lt (w := w) (by (first | lia | omega))
    refine ⟨_, rfl, _, rfl, f, _, rfl, hfl, fun z => absurd (by (first | lia | omega)) z, fun kn' ek' hk' => ?_⟩  -- size = ring_size(first, kinds)
    obtain rfl : kn = kn' := by (first | lia | omega)
    refine ⟨fun _ H1 s1 => ?_, fun z => absurd hf z⟩
    refine ⟨_, rfl, _, rfl, fun kn' ek' hk'' => ?_, fun z => absurd (by (first | lia | omega)) z⟩  -- letters(kinds)
    obtain rfl : kn = kn' := by (first | lia | omega)
    refine ⟨_, rfl, _, rfl, _, rfl, (by rw [List.length_take]; (first | lia | omega)), 96 + kn, abc_top hk.1 hk.2, ?_⟩  -- top = ..[-1]
    refine ⟨_, rfl, _, rfl, _, rfl, _, rfl, (by (first | lia | omega)), _, rfl, w.length, rfl, ⟨by (first | lia | omega), (by show w.length * 1 ≤ sizeLine; (first | lia | omega))⟩, _, rfl, _, rfl, _, rfl, ?_⟩  -- word == top * len(word)
    rw [Wd.rep_letter]
    by_cases htop : w = Wd.topW kn w.length
    · refine itP (decide_eq_true htop) ?_
      obtain ⟨i, hi, hat⟩ := Wd.at_top hk0 hn0 he
      rw [← hR] at hi hat
      refine ⟨_, rfl, _, rfl, _, rfl, (by (first | lia | omega)), _, _, rfl, rfl, _, rfl, _, _, rfl, rfl, (by show (0 : Int) < (((Wd.ringF kn f).length : Nat) : Int); (first | lia | omega)), ?_⟩
      dsimp only
      rw [hgl, hi]
      exact q7 i H1 (by rw [htop, hgl]; exact hat) s1
    refine itN (by rw [decide_eq_false (show ¬ w = List.replicate w.length (96 + kn) from htop)]; exact Bool.false_ne_true) ?_
    refine ⟨_, rfl, w, rfl, (by (first | lia | omega)), ?_⟩  -- by = turn_by(word)
    refine ⟨_, rfl, _, rfl, _, rfl, _, rfl, (by (first | lia | omega)), _, rfl, _, rfl, _, rfl, Wd.turnBy w, rfl, ⟨by (first | lia | omega), (by show Wd.turnBy w * 1 ≤ sizeLine; (first | lia | omega))⟩, _, rfl, _, rfl, _, rfl, ?_⟩  -- word[:by] != top * by
    rw [cutL_take, Wd.rep_letter]
    have hlw : Wd.LW kn f.length (Wd.least w) := by rw [← hgl]; exact Wd.lw_least (by (first | lia | omega)) hwo.2
    have hlwl := hlw.len
    by_cases hx : w.take (Wd.turnBy w) = Wd.topW kn (Wd.turnBy w)
    case neg =>
      refine itP (by rw [decide_eq_false (show ¬ w.take (Wd.turnBy w) = List.replicate (Wd.turnBy w) (96 + kn) from hx)]; rfl) ?_
      obtain ⟨c1, c2, hat⟩ := Wd.at_in hk0 hn0 he hwo hge hx
      rw [← hR] at hat
      refine ⟨_, rfl, w, rfl, ⟨by (first | lia | omega), by (first | lia | omega)⟩, ?_⟩  -- least = least_turn(word)
      refine ⟨_, rfl, _, rfl, _, rfl, f, Wd.least w, kn, rfl, ⟨hk, hf, ⟨⟨⟨by (first | lia | omega), by (first | lia | omega)⟩, hlw.ok⟩, hlw.lst⟩⟩, fun H2 s2 => ?_⟩  -- begin_place(first, kinds, least)
      refine ⟨_, rfl, Wd.least w, rfl, ⟨by (first | lia | omega), by (first | lia | omega)⟩, fun p hp => ?_⟩  -- root(least)
      have hpl := hp.le
      have htl : ((Wd.least w).take p).length = p := by rw [List.length_take]; (first | lia | omega)
      have hpe := Wd.rootL_eq hp
      refine ⟨_, rfl, (by (first | lia | omega)), _, _, rfl, rfl, _, rfl, _, _, rfl, rfl, ?_⟩
      have g := q7 _ H2 hat (s1.trans s2)
      rw [show ((Wd.cb kn (Wd.least w) - Wd.cb kn f + Wd.rootL (Wd.least w) - Wd.turnBy w : Nat) : Int) = ((Wd.cb kn (Wd.least w) : Nat) : Int) - ((Wd.cb kn f : Nat) : Int) + ((((Wd.least w).take p).length : Nat) : Int) - ((Wd.turnBy w : Nat) : Int) by rw [htl]; (first | lia | omega)] at g
      exact g
    refine itN (by rw [decide_eq_true (show w.take (Wd.turnBy w) = List.replicate (Wd.turnBy w) (96 + kn) from hx)]; exact Bool.false_ne_true) ?_
    have htop2 : w ≠ Wd.topW kn f.length := fun z => htop (by rw [hgl]; exact z)
    have hdl : (w.drop (Wd.turnBy w)).length = f.length - Wd.turnBy w := by rw [List.length_drop, hgl]
    have hgd : Good (w.drop (Wd.turnBy w)) kn := ⟨⟨by (first | lia | omega), by (first | lia | omega)⟩, Wd.okk_drop hwo.2⟩
    refine ⟨_, rfl, _, rfl, _, rfl, _, rfl, _, rfl, (by (first | lia | omega)), _, rfl, _, rfl, (by (first | lia | omega)), _, rfl, ?_⟩  -- least_beginning(word[by:], len(word), kinds)
    rw [cutL_from (by (first | lia | omega))]
    refine ⟨w.drop (Wd.turnBy w), _, _, rfl, (by (first | lia | omega)), fun z => absurd (by (first | lia | omega)) z, fun _ z => absurd (by (first | lia | omega)) z, fun kn' nn ek' en _ _ => ?_⟩
    obtain rfl : kn = kn' := by (first | lia | omega)
    obtain rfl : f.length = nn := by (first | lia | omega)
    refine ⟨fun _ x H2 hx2 s2 => ?_, fun _ z => absurd hgd z⟩
    obtain ⟨bb, hbb⟩ := Wd.lb_ex (n := f.length) (y := w.drop (Wd.turnBy w)) (x := w.take (Wd.turnBy w)) hk0 (by rw [← (Wd.rot_parts w).2]; exact hlw)
    rcases hx2 with ⟨rfl, hno⟩ | ⟨r, rfl, hr⟩
    · obtain ⟨s0, e0⟩ := hbb.pre
      exact absurd (hbb.lw.isB hk0 e0) hno
    obtain rfl : bb = r := hbb.uniq hr
    refine ⟨f, bb, rfl, ?_⟩  -- later = max(first, ..)
    obtain ⟨i, hi, hat⟩ := Wd.at_begin hk0 hn0 he hwo hge hx htop2 hbb
    rw [← hR] at hi hat
    have hbbl := hbb.lw.len
    have hlat : FirstOk (if f < bb then bb else f) kn := by
      by_cases c : f < bb
      · rw [if_pos c]; exact ⟨⟨⟨by (first | lia | omega), by (first | lia | omega)⟩, hbb.lw.ok⟩, hbb.lw.lst⟩
      · rw [if_neg c]; exact hf
    refine ⟨_, rfl, _, rfl, _, rfl, f, _, kn, rfl, ⟨hk, hf, hlat⟩, fun H3 s3 => ?_⟩  -- begin_place(first, kinds, later)
    refine ⟨_, rfl, _, _, rfl, rfl, _, rfl, _, _, rfl, rfl, (by show (0 : Int) < (((Wd.ringF kn f).length : Nat) : Int); (first | lia | omega)), ?_⟩
    dsimp only
    rw [hi]
    exact q7 i H3 hat (s1.trans (s2.trans s3))

noncomputable def Exc4 (ad : Adr) (H : Hp) (a : Addr) (nm : List Nat) : Prop := (H a = some (ExcAt a (.ref ad.BadKinds)) ∧ nm = [107, 105, 110, 100, 115]) ∨ (H a = some (ExcAt a (.ref ad.BadWord)) ∧ nm = [119, 111, 114, 100]) ∨ (H a = some (ExcAt a (.ref ad.NoSuch)) ∧ nm = [115, 117, 99, 104]) ∨ (H a = some (ExcAt a (.ref ad.TooMany)) ∧ nm = [109, 97, 110, 121])
theorem exc_k {ad : Adr} {H : Hp} {a : Addr} (h : H a = some (ExcAt a (.ref ad.BadKinds))) : Exc4 ad H a [107, 105, 110, 100, 115] := .inl ⟨h, rfl⟩
theorem exc_w {ad : Adr} {H : Hp} {a : Addr} (h : H a = some (ExcAt a (.ref ad.BadWord))) : Exc4 ad H a [119, 111, 114, 100] := .inr (.inl ⟨h, rfl⟩)
theorem exc_s {ad : Adr} {H : Hp} {a : Addr} (h : H a = some (ExcAt a (.ref ad.NoSuch))) : Exc4 ad H a [115, 117, 99, 104] := .inr (.inr (.inl ⟨h, rfl⟩))
theorem exc_m {ad : Adr} {H : Hp} {a : Addr} (h : H a = some (ExcAt a (.ref ad.TooMany))) : Exc4 ad H a [109, 97, 110, 121] := .inr (.inr (.inr ⟨h, rfl⟩))
noncomputable def One4 (K : PySem.W.Frag) (ad : Adr) (H : Hp) (a : Addr) (nm : List Nat) : Prop := ∃ (C : Addr) (b0 b1 b2 b3 : Bool) (j : Nat), H a = some (ExcAt a (.ref C)) ∧ Knd K C ∧ PySem.W.kitOne K (.ref C) (.ref ad.BadKinds) = some b0 ∧ PySem.W.kitOne K (.ref C) (.ref ad.BadWord) = some b1 ∧ PySem.W.kitOne K (.ref C) (.ref ad.NoSuch) = some b2 ∧ PySem.W.kitOne K (.ref C) (.ref ad.TooMany) = some b3 ∧ PySem.W.kitOne K (.ref C) (.type "ValueError") = some true ∧
  ([V.bl b0, .bl b1, .bl b2, .bl b3].countP fun y => eqV y (.bl true)) = 1 ∧ [V.bl b0, .bl b1, .bl b2, .bl b3][j]? = some (.bl true) ∧ (∀ i z, i < j → [V.bl b0, .bl b1, .bl b2, .bl b3][i]? = some z → eqV z (.bl true) = false) ∧ [T [107, 105, 110, 100, 115], T [119, 111, 114, 100], T [115, 117, 99, 104], T [109, 97, 110, 121]][j]? = some (T nm)
theorem Exc4.one {H : Hp} {a : Addr} {nm : List Nat} (tt : Txt K mg ad) (h : Exc4 ad H a nm) : One4 K ad H a nm := by
  rcases h with ⟨ha, rfl⟩ | ⟨ha, rfl⟩ | ⟨ha, rfl⟩ | ⟨ha, rfl⟩
  · exact ⟨_, _, _, _, _, 0, ha, tt.n_BadKinds, tt.q_kk, tt.q_kw, tt.q_ks, tt.q_km, tt.q_kv, rfl, rfl, fun i z hi => absurd hi (Nat.not_lt_zero i), rfl⟩
  · refine ⟨_, _, _, _, _, 1, ha, tt.n_BadWord, tt.q_wk, tt.q_ww, tt.q_ws, tt.q_wm, tt.q_wv, rfl, rfl, fun i z hi hz => ?_, rfl⟩
    match i, hi with
    | 0, _ => cases hz; rfl
  · refine ⟨_, _, _, _, _, 2, ha, tt.n_NoSuch, tt.q_sk, tt.q_sw, tt.q_ss, tt.q_sm, tt.q_sv, rfl, rfl, fun i z hi hz => ?_, rfl⟩
    match i, hi with
    | 0, _ => cases hz; rfl
    | 1, _ => cases hz; rfl
  · refine ⟨_, _, _, _, _, 3, ha, tt.n_TooMany, tt.q_mk, tt.q_mw, tt.q_ms, tt.q_mm, tt.q_mv, rfl, rfl, fun i z hi hz => ?_, rfl⟩
    match i, hi with
    | 0, _ => cases hz; rfl
    | 1, _ => cases hz; rfl
    | 2, _ => cases hz; rfl
noncomputable def Fin63 (way : Nat) (f : List Nat) (kn : Nat) (many : Int) (w r : List Nat) : Prop := (way ≤ 1 ∧ r = [110, 111, 110, 101]) ∨ (way = 2 ∧ ((200 < many ∧ r = [109, 97, 110, 121]) ∨ (many < 0 ∧ r = [115, 117, 99, 104]) ∨ ((0 ≤ many ∧ many ≤ 200) ∧ r = [110, 111, 110, 101]))) ∨ (way = 3 ∧ ((¬ (Good w kn ∧ w.length = f.length) ∧ r = [119, 111, 114, 100]) ∨ ((Good w kn ∧ w.length = f.length) ∧ ((Wd.least w < f ∧ r = [115, 117, 99, 104]) ∨ (¬ Wd.least w < f ∧ r = [110, 111, 110, 101]))))) ∨ (way = 4 ∧ ((4096 < (Wd.ringF kn f).length ∧ r = [109, 97, 110, 121]) ∨ ((Wd.ringF kn f).length ≤ 4096 ∧ r = [110, 111, 110, 101])))
noncomputable def Out63 (way : Nat) (f : List Nat) (k many : Int) (w r : List Nat) : Prop := (¬ (1 ≤ k ∧ k ≤ 6) ∧ r = [107, 105, 110, 100, 115]) ∨ ∃ kn : Nat, k = (kn : Nat) ∧ (1 ≤ kn ∧ kn ≤ 6) ∧ ((¬ FirstOk f kn ∧ r = [119, 111, 114, 100]) ∨ (FirstOk f kn ∧ Fin63 way f kn many w r))
section
variable {way kn : Nat} {f w : List Nat} {k many : Int}
theorem out_k (h : ¬ (1 ≤ k ∧ k ≤ 6)) : Out63 way f k many w [107, 105, 110, 100, 115] := .inl ⟨h, rfl⟩
theorem out_w (ek : k = (kn : Nat)) (hk : 1 ≤ kn ∧ kn ≤ 6) (hf : ¬ FirstOk f kn) : Out63 way f k many w [119, 111, 114, 100] := .inr ⟨kn, ek, hk, .inl ⟨hf, rfl⟩⟩
theorem out_f {r : List Nat} (ek : k = (kn : Nat)) (hk : 1 ≤ kn ∧ kn ≤ 6) (hf : FirstOk f kn) (h : Fin63 way f kn many w r) : Out63 way f k many w r := .inr ⟨kn, ek, hk, .inr ⟨hf, h⟩⟩
theorem fin_0 (h : way ≤ 1) : Fin63 way f kn many w [110, 111, 110, 101] := .inl ⟨h, rfl⟩
theorem fin_2m (h : 200 < many) : Fin63 2 f kn many w [109, 97, 110, 121] := .inr (.inl ⟨rfl, .inl ⟨h, rfl⟩⟩)
theorem fin_2s (h : many < 0) : Fin63 2 f kn many w [115, 117, 99, 104] := .inr (.inl ⟨rfl, .inr (.inl ⟨h, rfl⟩)⟩)
theorem fin_2n (h : 0 ≤ many ∧ many ≤ 200) : Fin63 2 f kn many w [110, 111, 110, 101] := .inr (.inl ⟨rfl, .inr (.inr ⟨h, rfl⟩)⟩)
theorem fin_3w (h : ¬ (Good w kn ∧ w.length = f.length)) : Fin63 3 f kn many w [119, 111, 114, 100] := .inr (.inr (.inl ⟨rfl, .inl ⟨h, rfl⟩⟩))
theorem fin_3s (h : Good w kn ∧ w.length = f.length) (g : Wd.least w < f) : Fin63 3 f kn many w [115, 117, 99, 104] := .inr (.inr (.inl ⟨rfl, .inr ⟨h, .inl ⟨g, rfl⟩⟩⟩))
theorem fin_3n (h : Good w kn ∧ w.length = f.length) (g : ¬ Wd.least w < f) : Fin63 3 f kn many w [110, 111, 110, 101] := .inr (.inr (.inl ⟨rfl, .inr ⟨h, .inr ⟨g, rfl⟩⟩⟩))
theorem fin_4m (h : 4096 < (Wd.ringF kn f).length) : Fin63 4 f kn many w [109, 97, 110, 121] := .inr (.inr (.inr ⟨rfl, .inl ⟨h, rfl⟩⟩))
theorem fin_4n (h : (Wd.ringF kn f).length ≤ 4096) : Fin63 4 f kn many w [110, 111, 110, 101] := .inr (.inr (.inr ⟨rfl, .inr ⟨h, rfl⟩⟩))
end
noncomputable def spRef63 : Sp := fun vs H Q _ => ∃ (way : Nat) (f : List Nat) (k many : Int) (w : List Nat), vs = [.int (way : Nat), T f, .int k, .int many, T w] ∧ (way ≤ 4 ∧ f.length ≤ 1000 ∧ w.length ≤ 1000) ∧ ∀ r H', Out63 way f k many w r → Same H H' → Q (T r) H'
theorem ok__law_refused {f : Addr} {fd : FuncData} (F : Fun K "_law_refused" "_law_refused" s__law_refused f fd) (tt : Txt K mg ad) (C_ring_size : Cal P w K mg base (CX1 P w) "ring_size" 7 ["first", "kinds"] (spRSize ad)) (C_letter_at : Cal P w K mg base (CX1 P w) "letter_at" 10 ["first", "kinds", "place"] (spLetter ad)) (C_piece_at : Cal P w K mg base (CX1 P w) "piece_at" 9 ["first", "kinds", "place", "many"] (spPiece ad))
    (C_place_of : Cal P w K mg base (CX1 P w) "place_of" 8 ["first", "kinds", "word"] (spPlace ad)) (C_whole_ring : Cal P w K mg base (CX1 P w) "whole_ring" 8 ["first", "kinds"] (spWhole ad)) : FnOk P w K mg base (CX1 P w) 11 f fd ["way", "first", "kinds", "many", "word"] spRef63 := by
  refine F.okX sc__law_refused (fun vs H Q E h => ?_) (fun cdv A outer s H vs Q E hr h => ?_)
  · obtain ⟨way, f, k, many, w, rfl, _⟩ := h
    rfl
  · obtain ⟨way, f, k, many, w, rfl, ⟨hw5, hfl, hwl⟩, q⟩ := h
    have hs : sizeLine = 16777216 := sizeLine_eq
    refine ⟨_, (pss_cons (ps_set (i := 5) sc__law_refused.nd rfl (Or.inl rfl) (pe_strT [110, 111, 110, 101] (by decide +kernel)))
      (pss_cons (ps_try ownX (py_if (pt_cmpR op_eq_I (pv 0) pe_int (nomark _)) (py_call C_ring_size hr (pa_cN (pv 1) (pa_cN (pv 2) pa_nil))) (py_if (pt_cmpR op_eq_I (pv 0) pe_int (nomark _)) (py_call C_letter_at hr (pa_cN (pv 1) (pa_cN (pv 2) (pa_cN (pv 3) pa_nil)))) (py_if (pt_cmpR op_eq_I (pv 0) pe_int (nomark _)) (py_call C_piece_at hr (pa_cN (pv 1) (pa_cN (pv 2) (pa_cC pe_int (pa_cN (pv 3) pa_nil))))) (py_if (pt_cmpR op_eq_I (pv 0) pe_int (nomark _)) (py_call C_place_of hr (pa_cN (pv 1) (pa_cN (pv 2) (pa_cN (pv 4) pa_nil)))) (py_call C_whole_ring hr (pa_cN (pv 1) (pa_cN (pv 2) pa_nil))))))) (ph_as (i := 6) tt.m_OnceError sc__law_refused.nd rfl rfl (fun a => (pss_wk (t' := (fun D σ H => ∃ (a : Addr) (nm : List Nat) (s0 s1 s2 s3 s4 s5 s7 : Option V), σ = [s0, s1, s2, s3, s4, s5, some (.ref a), s7] ∧ Exc4 ad H a nm ∧ ∀ (H' : Hp) (p : Addr), Same H H' → D.nx [s0, s1, s2, s3, s4, some (T nm), some (.ref a), some (.ref p)] H')) (pss_cons (ps_set (i := 7) sc__law_refused.nd rfl (Or.inl rfl) (pe_lst (pa_cK (pe_callB (call_isinstEK K rfl) (by rfl) tt.b_isinstance PyProof.Rows.boot_isinstance (pa_cons (pv 6) (pa_cons (pe_glob (v := .ref ad.BadKinds) (by rfl) tt.m_BadKinds rfl) pa_nil))) (pa_cK (pe_callB (call_isinstEK K rfl) (by rfl) tt.b_isinstance PyProof.Rows.boot_isinstance (pa_cons (pv 6) (pa_cons (pe_glob (v := .ref ad.BadWord) (by rfl) tt.m_BadWord rfl) pa_nil))) (pa_cK (pe_callB (call_isinstEK K rfl) (by rfl) tt.b_isinstance PyProof.Rows.boot_isinstance (pa_cons (pv 6) (pa_cons (pe_glob (v := .ref ad.NoSuch) (by rfl) tt.m_NoSuch rfl) pa_nil))) (pa_cK (pe_callB (call_isinstEK K rfl) (by rfl) tt.b_isinstance PyProof.Rows.boot_isinstance (pa_cons (pv 6) (pa_cons (pe_glob (v := .ref ad.TooMany) (by rfl) tt.m_TooMany rfl) pa_nil))) pa_nil))))))
      (pss_cons (ps_set (i := 5) sc__law_refused.nd rfl (Or.inl rfl) (pe_strT [111, 100, 100] (by decide +kernel)))
      (pss_one (ps_if (PW.pt (pw_and (pt_cmpR op_eq_I (pe_bmK K rfl PySem.F.plainAttrs_list PySem.F.slot_list_count PySem.F.type_list_count (mt_countK K rfl) (pv 7) (pa_cC pe_bl pa_nil)) pe_int (nomark _)) (pw_and1 (pt_val (pe_callB (call_isinstEK K rfl) (by rfl) tt.b_isinstance PyProof.Rows.boot_isinstance (pa_cons (pv 6) (pa_cons (pe_bltn (v := .ty "ValueError") (u := .type "ValueError") (by rfl) tt.b_ValueError (by decide +kernel) rfl) pa_nil))))))) (pss_one (ps_set (i := 5) sc__law_refused.nd rfl (Or.inl rfl) (pe_ix (ix_list_K K rfl) (pe_lst (pa_cC (pe_strT [107, 105, 110, 100, 115] (by decide +kernel)) (pa_cC (pe_strT [119, 111, 114, 100] (by decide +kernel)) (pa_cC (pe_strT [115, 117, 99, 104] (by decide +kernel)) (pa_cC (pe_strT [109, 97, 110, 121] (by decide +kernel)) pa_nil))))) (pe_bmK K rfl PySem.F.plainAttrs_list PySem.F.slot_list_index PySem.F.type_list_index (mt_indexK K rfl) (pv 7) (pa_cC pe_bl pa_nil)) (fun _ _ => rfl)))) pss_nil)))) ?rh)) ph_nil))
      (pss_one (ps_ret (pv 5))))), ?_⟩
    (try rw [cxK2]); (try rw [cxK1])
    case rh =>
      rintro D σ H1 ⟨a, nm, s0, s1, s2, s3, s4, s5, s7, rfl, hC, hD⟩
      obtain ⟨C, b0, b1, b2, b3, j, ha, hn, k0, k1, k2, k3, kv, hc, hj, hno, hnm⟩ := hC.one tt
      refine ⟨_, rfl, a, C, .ref ad.BadKinds, _, b0, rfl, rfl, ha, hn, k0, _, rfl, a, C, .ref ad.BadWord, _, b1, rfl, rfl, ha, hn, k1, _, rfl, a, C, .ref ad.NoSuch, _, b2, rfl, rfl, ha, hn, k2, _, rfl, a, C, .ref ad.TooMany, _, b3, rfl, rfl, ha, hn, k3, (by show 4 ≤ sizeLine; (first | lia | omega)), fun p hp => ?_⟩
      have g1 := same_upd (o := .lst [.bl b0, .bl b1, .bl b2, .bl b3]) hp
      have h1a := g1 a _ ha
      refine ⟨_, rfl, .inl ⟨rfl, _, SqL.of upd_same⟩, p, [.bl b0, .bl b1, .bl b2, .bl b3], _, rfl, rfl, SqL.of upd_same, rfl, rfl, _, rfl, _, rfl, _, rfl, ?_⟩
      refine ite2 (fun _ => ?_) (fun z => absurd (decide_eq_true (congrArg Nat.cast hc)) z)
      refine ⟨_, rfl, a, C, .type "ValueError", _, true, rfl, rfl, h1a, hn, kv, _, rfl, iteT ?_⟩
      refine ⟨(by show 4 ≤ sizeLine; (first | lia | omega)), fun p2 hp2 => ?_⟩
      have g2 := same_upd (o := .lst [T [107, 105, 110, 100, 115], T [119, 111, 114, 100], T [115, 117, 99, 104], T [109, 97, 110, 121]]) hp2
      have h1p := g2 p _ upd_same
      refine ⟨_, rfl, .inl ⟨rfl, _, SqL.of h1p⟩, p, _, _, .bl true, j, rfl, rfl, SqL.of h1p, rfl, rfl, hj, rfl, hno, p2, _, _, T nm, rfl, rfl, SqL.of upd_same, atI_nat (j := j) hnm, ?_⟩
      exact hD _ p (g1.trans g2)
    refine ⟨_, rfl, _, rfl, _, rfl, _, rfl, ?_⟩  -- way == 0
    refine ite2 (fun h0 => ?w0) (fun h0 => ?_)
    rotate_left
    refine ⟨_, rfl, _, rfl, _, rfl, _, rfl, ?_⟩  -- way == 1
    refine ite2 (fun h1 => ?w1) (fun h1 => ?_)
    rotate_left
    refine ⟨_, rfl, _, rfl, _, rfl, _, rfl, ?_⟩  -- way == 2
    refine ite2 (fun h2 => ?w2) (fun h2 => ?_)
    rotate_left
    refine ⟨_, rfl, _, rfl, _, rfl, _, rfl, ?_⟩  -- way == 3
    refine ite2 (fun h3 => ?w3) (fun h3 => ?w4)
    case w0 =>
      obtain rfl : way = 0 := by have := of_decide_eq_true h0; (first | lia | omega)
      refine ⟨_, rfl, _, rfl, f, k, rfl, (by (first | lia | omega)), fun hk => ?ka, fun kn ek hk => ⟨fun hf H' s' => ?kc, fun hf => ?kd⟩⟩
      case ka => exact .inl ⟨tt.q_ko, fun a ha => ⟨a, _, _, _, _, _, _, _, _, rfl, exc_k upd_same, fun H9 p9 s9 => ⟨_, rfl, q _ H9 (out_k hk) ((same_upd ha).trans s9)⟩⟩⟩
      case kd => exact .inl ⟨tt.q_wo, fun a ha => ⟨a, _, _, _, _, _, _, _, _, rfl, exc_w upd_same, fun H9 p9 s9 => ⟨_, rfl, q _ H9 (out_w ek hk hf) ((same_upd ha).trans s9)⟩⟩⟩
      case kc => exact ⟨_, rfl, q _ _ (out_f ek hk hf (fin_0 (by decide))) s'⟩
    case w1 =>
      obtain rfl : way = 1 := by have := of_decide_eq_true h1; (first | lia | omega)
      refine ⟨_, rfl, _, rfl, _, rfl, f, k, many, rfl, (by (first | lia | omega)), fun hk => ?ka, fun kn ek hk => ⟨fun hf => ?kd, fun hf i hi H' s' => ?kc⟩⟩
      case ka => exact .inl ⟨tt.q_ko, fun a ha => ⟨a, _, _, _, _, _, _, _, _, rfl, exc_k upd_same, fun H9 p9 s9 => ⟨_, rfl, q _ H9 (out_k hk) ((same_upd ha).trans s9)⟩⟩⟩
      case kd => exact .inl ⟨tt.q_wo, fun a ha => ⟨a, _, _, _, _, _, _, _, _, rfl, exc_w upd_same, fun H9 p9 s9 => ⟨_, rfl, q _ H9 (out_w ek hk hf) ((same_upd ha).trans s9)⟩⟩⟩
      case kc => exact ⟨_, rfl, q _ _ (out_f ek hk hf (fin_0 (by decide))) s'⟩
    case w2 =>
      obtain rfl : way = 2 := by have := of_decide_eq_true h2; (first | lia | omega)
      refine ⟨_, rfl, _, rfl, _, rfl, f, k, 7, many, rfl, (by (first | lia | omega)), fun hk => ?ka, fun kn ek hk => ⟨fun hf => ?kd, fun hf => ⟨fun hm H' s' => ?ke, fun hm H' s' => ?kf, fun mn i em hm hi H' s' => ?kc⟩⟩⟩
      case ka => exact .inl ⟨tt.q_ko, fun a ha => ⟨a, _, _, _, _, _, _, _, _, rfl, exc_k upd_same, fun H9 p9 s9 => ⟨_, rfl, q _ H9 (out_k hk) ((same_upd ha).trans s9)⟩⟩⟩
      case kd => exact .inl ⟨tt.q_wo, fun a ha => ⟨a, _, _, _, _, _, _, _, _, rfl, exc_w upd_same, fun H9 p9 s9 => ⟨_, rfl, q _ H9 (out_w ek hk hf) ((same_upd ha).trans s9)⟩⟩⟩
      case ke => exact .inl ⟨tt.q_mo, fun a ha => ⟨a, _, _, _, _, _, _, _, _, rfl, exc_m upd_same, fun H9 p9 s9 => ⟨_, rfl, q _ H9 (out_f ek hk hf (fin_2m hm)) (s'.trans ((same_upd ha).trans s9))⟩⟩⟩
      case kf => exact .inl ⟨tt.q_so, fun a ha => ⟨a, _, _, _, _, _, _, _, _, rfl, exc_s upd_same, fun H9 p9 s9 => ⟨_, rfl, q _ H9 (out_f ek hk hf (fin_2s hm)) (s'.trans ((same_upd ha).trans s9))⟩⟩⟩
      case kc => exact ⟨_, rfl, q _ _ (out_f ek hk hf (fin_2n ⟨by (first | lia | omega), by (first | lia | omega)⟩)) s'⟩
    case w3 =>
      obtain rfl : way = 3 := by have := of_decide_eq_true h3; (first | lia | omega)
      refine ⟨_, rfl, _, rfl, _, rfl, f, w, k, rfl, (by (first | lia | omega)), (by (first | lia | omega)), fun hk => ?ka, fun kn ek hk => ⟨fun hf => ?kd, fun hf => ⟨fun hg => ?ke, fun hg => ⟨fun hlt => ?kf, fun hge i H' hat s' => ?kc⟩⟩⟩⟩
      case ka => exact .inl ⟨tt.q_ko, fun a ha => ⟨a, _, _, _, _, _, _, _, _, rfl, exc_k upd_same, fun H9 p9 s9 => ⟨_, rfl, q _ H9 (out_k hk) ((same_upd ha).trans s9)⟩⟩⟩
      case kd => exact .inl ⟨tt.q_wo, fun a ha => ⟨a, _, _, _, _, _, _, _, _, rfl, exc_w upd_same, fun H9 p9 s9 => ⟨_, rfl, q _ H9 (out_w ek hk hf) ((same_upd ha).trans s9)⟩⟩⟩
      case ke => exact .inl ⟨tt.q_wo, fun a ha => ⟨a, _, _, _, _, _, _, _, _, rfl, exc_w upd_same, fun H9 p9 s9 => ⟨_, rfl, q _ H9 (out_f ek hk hf (fin_3w hg)) ((same_upd ha).trans s9)⟩⟩⟩
      case kf => exact .inl ⟨tt.q_so, fun a ha => ⟨a, _, _, _, _, _, _, _, _, rfl, exc_s upd_same, fun H9 p9 s9 => ⟨_, rfl, q _ H9 (out_f ek hk hf (fin_3s hg hlt)) ((same_upd ha).trans s9)⟩⟩⟩
      case kc => exact ⟨_, rfl, q _ _ (out_f ek hk hf (fin_3n hg hge)) s'⟩
    case w4 =>
      obtain rfl : way = 4 := by
        have g0 : ¬ (way : Int) = 0 := fun z => h0 (decide_eq_true z)
        have g1 : ¬ (way : Int) = 1 := fun z => h1 (decide_eq_true z)
        have g2 : ¬ (way : Int) = 2 := fun z => h2 (decide_eq_true z)
        have g3 : ¬ (way : Int) = 3 := fun z => h3 (decide_eq_true z)
        (first | lia | omega)
      refine ⟨_, rfl, _, rfl, f, k, rfl, (by (first | lia | omega)), fun hk => ?ka, fun kn ek hk => ⟨fun hf => ?kd, fun hf => ⟨fun hm H' s' => ?ke, fun hm H' s' => ?kc⟩⟩⟩
      case ka => exact .inl ⟨tt.q_ko, fun a ha => ⟨a, _, _, _, _, _, _, _, _, rfl, exc_k upd_same, fun H9 p9 s9 => ⟨_, rfl, q _ H9 (out_k hk) ((same_upd ha).trans s9)⟩⟩⟩
      case kd => exact .inl ⟨tt.q_wo, fun a ha => ⟨a, _, _, _, _, _, _, _, _, rfl, exc_w upd_same, fun H9 p9 s9 => ⟨_, rfl, q _ H9 (out_w ek hk hf) ((same_upd ha).trans s9)⟩⟩⟩
      case ke => exact .inl ⟨tt.q_mo, fun a ha => ⟨a, _, _, _, _, _, _, _, _, rfl, exc_m upd_same, fun H9 p9 s9 => ⟨_, rfl, q _ H9 (out_f ek hk hf (fin_4m hm)) (s'.trans ((same_upd ha).trans s9))⟩⟩⟩
      case kc => exact ⟨_, rfl, q _ _ (out_f ek hk hf (fin_4n hm)) s'⟩

theorem o_k {way : Nat} {f w r : List Nat} {k many : Int} (h : Out63 way f k many w r) (hk : ¬ (1 ≤ k ∧ k ≤ 6)) : r = [107, 105, 110, 100, 115] := by
  rcases h with ⟨_, h⟩ | ⟨kn, rfl, h, _⟩
  · exact h
  · exact absurd (by omega) hk
theorem o_w {way kn : Nat} {f w r : List Nat} {many : Int} (h : Out63 way f (kn : Nat) many w r) (hk : 1 ≤ kn ∧ kn ≤ 6) (hf : ¬ FirstOk f kn) : r = [119, 111, 114, 100] := by
  rcases h with ⟨h, _⟩ | ⟨kn', ek, _, h⟩
  · exact absurd (by (first | lia | omega)) h
  · obtain rfl : kn = kn' := by (first | lia | omega)
    rcases h with ⟨_, h⟩ | ⟨h, _⟩
    · exact h
    · exact absurd h hf
theorem o_f {way kn : Nat} {f w r : List Nat} {many : Int} (h : Out63 way f (kn : Nat) many w r) (hk : 1 ≤ kn ∧ kn ≤ 6) (hf : FirstOk f kn) : Fin63 way f kn many w r := by
  rcases h with ⟨h, _⟩ | ⟨kn', ek, _, h⟩
  · exact absurd (by (first | lia | omega)) h
  · obtain rfl : kn = kn' := by (first | lia | omega)
    rcases h with ⟨h, _⟩ | ⟨_, h⟩
    · exact absurd hf h
    · exact h
theorem f_2 {kn : Nat} {f w r : List Nat} {many : Int} (h : Fin63 2 f kn many w r) : (200 < many → r = [109, 97, 110, 121]) ∧ (many < 0 → r = [115, 117, 99, 104]) ∧ (0 ≤ many ∧ many ≤ 200 → r = [110, 111, 110, 101]) := by
  rcases h with ⟨h, _⟩ | ⟨_, h⟩ | ⟨h, _⟩ | ⟨h, _⟩
  · omega
  · rcases h with ⟨h, e⟩ | ⟨h, e⟩ | ⟨h, e⟩
    · exact ⟨fun _ => e, fun z => by omega, fun z => by omega⟩
    · exact ⟨fun z => by omega, fun _ => e, fun z => by omega⟩
    · exact ⟨fun z => by omega, fun z => by omega, fun _ => e⟩
  · omega
  · omega
theorem f_3 {kn : Nat} {f w r : List Nat} {many : Int} (h : Fin63 3 f kn many w r) : (¬ (Good w kn ∧ w.length = f.length) → r = [119, 111, 114, 100]) ∧ ((Good w kn ∧ w.length = f.length) → (Wd.least w < f → r = [115, 117, 99, 104]) ∧ (¬ Wd.least w < f → r = [110, 111, 110, 101])) := by
  rcases h with ⟨h, _⟩ | ⟨h, _⟩ | ⟨_, h⟩ | ⟨h, _⟩
  · omega
  · omega
  · rcases h with ⟨h, e⟩ | ⟨h, ⟨h2, e⟩ | ⟨h2, e⟩⟩
    · exact ⟨fun _ => e, fun z => absurd z h⟩
    · exact ⟨fun z => absurd h z, fun _ => ⟨fun _ => e, fun z => absurd h2 z⟩⟩
    · exact ⟨fun z => absurd h z, fun _ => ⟨fun z => absurd z h2, fun _ => e⟩⟩
  · omega
theorem f_4 {kn : Nat} {f w r : List Nat} {many : Int} (h : Fin63 4 f kn many w r) (hl : 4096 < (Wd.ringF kn f).length) : r = [109, 97, 110, 121] := by
  rcases h with ⟨h, _⟩ | ⟨h, _⟩ | ⟨h, _⟩ | ⟨_, h⟩
  · (first | lia | omega)
  · (first | lia | omega)
  · (first | lia | omega)
  · rcases h with ⟨_, e⟩ | ⟨h, _⟩
    · exact e
    · (first | lia | omega)
theorem tab0 {r : List Nat} (h : Out63 3 [97, 97, 98] 2 1 [97, 97, 97, 97] r) : r = [119, 111, 114, 100] := (f_3 (o_f (kn := 2) h ⟨by decide, by decide⟩ ⟨⟨by decide, by decide⟩, by unfold Wd.Lst; decide⟩)).1 (by unfold Good; decide)
theorem tab1 {r : List Nat} (h : Out63 3 [97, 97, 98] 2 1 [] r) : r = [119, 111, 114, 100] := (f_3 (o_f (kn := 2) h ⟨by decide, by decide⟩ ⟨⟨by decide, by decide⟩, by unfold Wd.Lst; decide⟩)).1 (by unfold Good; decide)
theorem tab2 {r : List Nat} (h : Out63 3 [97, 97, 98] 2 1 [97, 97, 66] r) : r = [119, 111, 114, 100] := (f_3 (o_f (kn := 2) h ⟨by decide, by decide⟩ ⟨⟨by decide, by decide⟩, by unfold Wd.Lst; decide⟩)).1 (by unfold Good; decide)
theorem tab3 {r : List Nat} (h : Out63 3 [97, 97, 98] 2 1 [97, 97, 99] r) : r = [119, 111, 114, 100] := (f_3 (o_f (kn := 2) h ⟨by decide, by decide⟩ ⟨⟨by decide, by decide⟩, by unfold Wd.Lst; decide⟩)).1 (by unfold Good; decide)
theorem tab4 {r : List Nat} (h : Out63 3 [97, 98, 98] 2 1 [97, 97, 98] r) : r = [115, 117, 99, 104] := ((f_3 (o_f (kn := 2) h ⟨by decide, by decide⟩ ⟨⟨by decide, by decide⟩, by unfold Wd.Lst; decide⟩)).2 (by unfold Good; decide)).1 (by decide)
theorem tab5 {r : List Nat} (h : Out63 3 [97, 98, 98] 2 1 [98, 97, 98] r) : r = [110, 111, 110, 101] := ((f_3 (o_f (kn := 2) h ⟨by decide, by decide⟩ ⟨⟨by decide, by decide⟩, by unfold Wd.Lst; decide⟩)).2 (by unfold Good; decide)).2 (by decide)
theorem tab6 {r : List Nat} (h : Out63 3 [97, 97, 97, 97] 2 1 [97, 97, 97] r) : r = [119, 111, 114, 100] := (f_3 (o_f (kn := 2) h ⟨by decide, by decide⟩ ⟨⟨by decide, by decide⟩, by unfold Wd.Lst; decide⟩)).1 (by unfold Good; decide)
theorem tab7 {r : List Nat} (h : Out63 3 [98, 98] 2 1 [97, 98] r) : r = [115, 117, 99, 104] := ((f_3 (o_f (kn := 2) h ⟨by decide, by decide⟩ ⟨⟨by decide, by decide⟩, by unfold Wd.Lst; decide⟩)).2 (by unfold Good; decide)).1 (by decide)

theorem eight_at {xs : List V} (h : xs.length = 8) (z : Int) : ∃ j : Nat, j < 8 ∧ ∃ v, xs[j]? = some v ∧ atI xs (z % 8) = some v := by
  have h1 := Int.emod_nonneg z (show (8 : Int) ≠ 0 by decide)
  have h2 := Int.emod_lt_of_pos z (show (0 : Int) < 8 by decide)
  obtain ⟨m, hm⟩ : ∃ m : Nat, z % 8 = (m : Int) := ⟨(z % 8).toNat, by (first | lia | omega)⟩
  have hml : m < xs.length := by (first | lia | omega)
  exact ⟨m, by (first | lia | omega), xs[m], List.getElem?_eq_getElem hml, by rw [hm]; exact atI_nat (List.getElem?_eq_getElem hml)⟩
noncomputable def spWRef : Sp := fun vs H Q _ => ∃ c : Int, vs = [.int c] ∧ ∀ H', Same H H' → Q (.bl true) H'
theorem ok__law_words_refused {f : Addr} {fd : FuncData} (F : Fun K "_law_words_refused" "_law_words_refused" s__law_words_refused f fd) (tt : Txt K mg ad) (C__law_mixed : Cal P w K mg base (CX1 P w) "_law_mixed" 1 ["cell", "k"] spMixed) (C__law_refused : Cal P w K mg base (CX1 P w) "_law_refused" 11 ["way", "first", "kinds", "many", "word"] spRef63) : FnOk P w K mg base (CX1 P w) 12 f fd ["cell"] spWRef := by
  refine F.okN sc__law_words_refused (fun vs H Q E h => ?_) (fun cdv A outer s H vs Q E hr h => ?_)
  · obtain ⟨c, rfl, _⟩ := h
    rfl
  · obtain ⟨c, rfl, q⟩ := h
    have hs : sizeLine = 16777216 := sizeLine_eq
    refine ⟨_, (pss_cons (ps_set (i := 1) sc__law_words_refused.nd rfl (Or.inl rfl) (pe_lst (pa_cT (pe_tup (pa_cC (pe_strT [97, 97, 98] (by decide +kernel)) (pa_cC (pe_strT [97, 97, 97, 97] (by decide +kernel)) (pa_cC (pe_strT [119, 111, 114, 100] (by decide +kernel)) pa_nil)))) (pa_cT (pe_tup (pa_cC (pe_strT [97, 97, 98] (by decide +kernel)) (pa_cC (pe_strT [] (by decide +kernel)) (pa_cC (pe_strT [119, 111, 114, 100] (by decide +kernel)) pa_nil)))) (pa_cT (pe_tup (pa_cC (pe_strT [97, 97, 98] (by decide +kernel)) (pa_cC (pe_strT [97, 97, 66] (by decide +kernel)) (pa_cC (pe_strT [119, 111, 114, 100] (by decide +kernel)) pa_nil)))) (pa_cT (pe_tup (pa_cC (pe_strT [97, 97, 98] (by decide +kernel)) (pa_cC (pe_strT [97, 97, 99] (by decide +kernel)) (pa_cC (pe_strT [119, 111, 114, 100] (by decide +kernel)) pa_nil)))) pa_nil))))))
      (pss_cons (ps_set (i := 1) sc__law_words_refused.nd rfl (Or.inl rfl) (pe_op op_catL (pv 1) (pe_lst (pa_cT (pe_tup (pa_cC (pe_strT [97, 98, 98] (by decide +kernel)) (pa_cC (pe_strT [97, 97, 98] (by decide +kernel)) (pa_cC (pe_strT [115, 117, 99, 104] (by decide +kernel)) pa_nil)))) (pa_cT (pe_tup (pa_cC (pe_strT [97, 98, 98] (by decide +kernel)) (pa_cC (pe_strT [98, 97, 98] (by decide +kernel)) (pa_cC (pe_strT [110, 111, 110, 101] (by decide +kernel)) pa_nil)))) (pa_cT (pe_tup (pa_cC (pe_strT [97, 97, 97, 97] (by decide +kernel)) (pa_cC (pe_strT [97, 97, 97] (by decide +kernel)) (pa_cC (pe_strT [119, 111, 114, 100] (by decide +kernel)) pa_nil)))) (pa_cT (pe_tup (pa_cC (pe_strT [98, 98] (by decide +kernel)) (pa_cC (pe_strT [97, 98] (by decide +kernel)) (pa_cC (pe_strT [115, 117, 99, 104] (by decide +kernel)) pa_nil)))) pa_nil)))))))
      (pss_cons (ps_asg (pe_ix ix_list (pv 1) (pe_op op_mod (pe_cal C__law_mixed hr pass1 (pa_cN (pv 0) (pa_cC pe_int pa_nil))) pe_int) (fun _ _ => rfl)) (pg_tup rfl (pgs_cons (pg_name (i := 2) sc__law_words_refused.nd rfl (Or.inl rfl)) (pgs_cons (pg_name (i := 3) sc__law_words_refused.nd rfl (Or.inl rfl)) (pgs_cons (pg_name (i := 4) sc__law_words_refused.nd rfl (Or.inl rfl)) pgs_nil)))))
      (pss_one (ps_ret (pe_cmpR op_eq_T (pe_cal C__law_refused hr pass1 (pa_cC pe_int (pa_cN (pv 2) (pa_cC pe_int (pa_cC pe_int (pa_cN (pv 3) pa_nil)))))) (pv 4) (nomark _))))))), ?_⟩
    (try rw [cxK2]); (try rw [cxK1])
    refine ⟨(by show 3 ≤ sizeLine; (first | lia | omega)), fun t0 ht0 => ?_⟩
    have a0 := same_upd (o := .tup [T [97, 97, 98], T [97, 97, 97, 97], T [119, 111, 114, 100]]) ht0
    refine ⟨(by show 3 ≤ sizeLine; (first | lia | omega)), fun t1 ht1 => ?_⟩
    have a1 := same_upd (o := .tup [T [97, 97, 98], T [], T [119, 111, 114, 100]]) ht1
    refine ⟨(by show 3 ≤ sizeLine; (first | lia | omega)), fun t2 ht2 => ?_⟩
    have a2 := same_upd (o := .tup [T [97, 97, 98], T [97, 97, 66], T [119, 111, 114, 100]]) ht2
    refine ⟨(by show 3 ≤ sizeLine; (first | lia | omega)), fun t3 ht3 => ?_⟩
    have a3 := same_upd (o := .tup [T [97, 97, 98], T [97, 97, 99], T [119, 111, 114, 100]]) ht3
    refine ⟨(by show 4 ≤ sizeLine; (first | lia | omega)), fun p hp => ?_⟩
    have b1 := same_upd (o := .lst [.ref t0, .ref t1, .ref t2, .ref t3]) hp
    refine ⟨_, rfl, (by show 3 ≤ sizeLine; (first | lia | omega)), fun t4 ht4 => ?_⟩
    have a4 := same_upd (o := .tup [T [97, 98, 98], T [97, 97, 98], T [115, 117, 99, 104]]) ht4
    refine ⟨(by show 3 ≤ sizeLine; (first | lia | omega)), fun t5 ht5 => ?_⟩
    have a5 := same_upd (o := .tup [T [97, 98, 98], T [98, 97, 98], T [110, 111, 110, 101]]) ht5
    refine ⟨(by show 3 ≤ sizeLine; (first | lia | omega)), fun t6 ht6 => ?_⟩
    have a6 := same_upd (o := .tup [T [97, 97, 97, 97], T [97, 97, 97], T [119, 111, 114, 100]]) ht6
    refine ⟨(by show 3 ≤ sizeLine; (first | lia | omega)), fun t7 ht7 => ?_⟩
    have a7 := same_upd (o := .tup [T [98, 98], T [97, 98], T [115, 117, 99, 104]]) ht7
    refine ⟨(by show 4 ≤ sizeLine; (first | lia | omega)), fun p2 hp2 => ?_⟩
    have b2 := same_upd (o := .lst [.ref t4, .ref t5, .ref t6, .ref t7]) hp2
    have k7 := b2
    have k6 := a7.trans k7
    have k5 := a6.trans k6
    have k4 := a5.trans k5
    have kp := a4.trans k4
    have k3 := b1.trans kp
    have k2 := a3.trans k3
    have k1 := a2.trans k2
    have k0 := a1.trans k1
    have kA := a0.trans k0
    have hp1 := kp p _ upd_same
    refine ⟨p, p2, _, _, rfl, rfl, SqL.of hp1, SqL.of upd_same, (by show 4 + 4 ≤ sizeLine; (first | lia | omega)), fun c2 hc2 => ?_⟩
    have b3 := same_upd (o := .lst ([.ref t0, .ref t1, .ref t2, .ref t3] ++ [.ref t4, .ref t5, .ref t6, .ref t7])) hc2
    have e0 := (k0.trans b3) t0 _ upd_same
    have e1 := (k1.trans b3) t1 _ upd_same
    have e2 := (k2.trans b3) t2 _ upd_same
    have e3 := (k3.trans b3) t3 _ upd_same
    have e4 := (k4.trans b3) t4 _ upd_same
    have e5 := (k5.trans b3) t5 _ upd_same
    have e6 := (k6.trans b3) t6 _ upd_same
    have e7 := (k7.trans b3) t7 _ upd_same
    have kF := kA.trans b3
    obtain ⟨j, hj, v, hv, hat⟩ := eight_at (xs := [.ref t0, .ref t1, .ref t2, .ref t3, .ref t4, .ref t5, .ref t6, .ref t7]) rfl (mixedZ c 5)
    refine ⟨_, rfl, _, rfl, _, _, rfl, ⟨by decide, by decide⟩, _, _, rfl, rfl, (by show (0 : Int) < 8; decide), c2, [.ref t0, .ref t1, .ref t2, .ref t3, .ref t4, .ref t5, .ref t6, .ref t7], _, _, rfl, rfl, SqL.of upd_same, hat, ?_⟩  -- words[_law_mixed(cell, 5) % 8]
    obtain ⟨t, f, w, r, rfl, het, htab, hfl, hwl⟩ : ∃ (t : Addr) (f w r : List Nat), v = .ref t ∧ (upd (upd (upd (upd (upd (upd (upd (upd (upd (upd (upd H t0 (.tup [T [97, 97, 98], T [97, 97, 97, 97], T [119, 111, 114, 100]])) t1 (.tup [T [97, 97, 98], T [], T [119, 111, 114, 100]])) t2 (.tup [T [97, 97, 98], T [97, 97, 66], T [119, 111, 114, 100]])) t3 (.tup [T [97, 97, 98], T [97, 97, 99], T [119, 111, 114, 100]])) p (.lst [.ref t0, .ref t1, .ref t2, .ref t3])) t4 (.tup [T [97, 98, 98], T [97, 97, 98], T [115, 117, 99, 104]])) t5 (.tup [T [97, 98, 98], T [98, 97, 98], T [110, 111, 110, 101]])) t6 (.tup [T [97, 97, 97, 97], T [97, 97, 97], T [119, 111, 114, 100]])) t7 (.tup [T [98, 98], T [97, 98], T [115, 117, 99, 104]])) p2 (.lst [.ref t4, .ref t5, .ref t6, .ref t7])) c2 (.lst ([.ref t0, .ref t1, .ref t2, .ref t3] ++ [.ref t4, .ref t5, .ref t6, .ref t7]))) t = some (.tup [T f, T w, T r]) ∧ (∀ r', Out63 3 f 2 1 w r' → r' = r) ∧ f.length ≤ 1000 ∧ w.length ≤ 1000 := by
      match j, hj, hv with
      | 0, _, hv => cases hv; exact ⟨t0, _, _, _, rfl, e0, fun _ h => tab0 h, by decide, by decide⟩
      | 1, _, hv => cases hv; exact ⟨t1, _, _, _, rfl, e1, fun _ h => tab1 h, by decide, by decide⟩
      | 2, _, hv => cases hv; exact ⟨t2, _, _, _, rfl, e2, fun _ h => tab2 h, by decide, by decide⟩
      | 3, _, hv => cases hv; exact ⟨t3, _, _, _, rfl, e3, fun _ h => tab3 h, by decide, by decide⟩
      | 4, _, hv => cases hv; exact ⟨t4, _, _, _, rfl, e4, fun _ h => tab4 h, by decide, by decide⟩
      | 5, _, hv => cases hv; exact ⟨t5, _, _, _, rfl, e5, fun _ h => tab5 h, by decide, by decide⟩
      | 6, _, hv => cases hv; exact ⟨t6, _, _, _, rfl, e6, fun _ h => tab6 h, by decide, by decide⟩
      | 7, _, hv => cases hv; exact ⟨t7, _, _, _, rfl, e7, fun _ h => tab7 h, by decide, by decide⟩
    refine ⟨t, _, rfl, SqT.of het, rfl, _, _, rfl, _, _, rfl, _, _, rfl, rfl, ?_⟩
    refine ⟨_, rfl, _, rfl, 3, f, 2, 1, w, rfl, ⟨by decide, hfl, hwl⟩, fun r' H9 ho s9 => ?_⟩
    obtain rfl := htab _ ho
    refine ⟨_, rfl, _, rfl, _, rfl, ?_⟩
    rw [show decide (r' = r') = true from decide_eq_true rfl]
    exact q _ (kF.trans s9)
theorem four_at {a b c d : V} {z : Int} : ∃ v, atI [a, b, c, d] (z % 4) = some v ∧ (v = a ∨ v = b ∨ v = c ∨ v = d) := by
  have h1 := Int.emod_nonneg z (show (4 : Int) ≠ 0 by decide)
  have h2 := Int.emod_lt_of_pos z (show (0 : Int) < 4 by decide)
  obtain ⟨m, hm⟩ : ∃ m : Nat, z % 4 = (m : Int) := ⟨(z % 4).toNat, by (first | lia | omega)⟩
  rw [hm] at h2 ⊢
  match m, h2 with
  | 0, _ => exact ⟨a, atI_nat (j := 0) rfl, .inl rfl⟩
  | 1, _ => exact ⟨b, atI_nat (j := 1) rfl, .inr (.inl rfl)⟩
  | 2, _ => exact ⟨c, atI_nat (j := 2) rfl, .inr (.inr (.inl rfl))⟩
  | 3, _ => exact ⟨d, atI_nat (j := 3) rfl, .inr (.inr (.inr rfl))⟩
  | m + 4, h => (first | lia | omega)

noncomputable def bad9 (kn : Nat) : List (List Nat) := [[], Wd.rep 25 [97], [65], [97, 32, 97], [97, 97] ++ [97 + kn], [98, 97], [97, 98, 97], [98, 97, 98], [97, 98, 97, 97]]
theorem bad_at {kn : Nat} (hk : 1 ≤ kn ∧ kn ≤ 6) {z : Int} : ∃ w, atI ((bad9 kn).map T) (z % 9) = some (T w) ∧ w.length ≤ 25 ∧ ¬ FirstOk w kn := by
  have h1 := Int.emod_nonneg z (show (9 : Int) ≠ 0 by decide)
  have h2 := Int.emod_lt_of_pos z (show (0 : Int) < 9 by decide)
  obtain ⟨m, hm⟩ : ∃ m : Nat, z % 9 = (m : Int) := ⟨(z % 9).toNat, by (first | lia | omega)⟩
  rw [hm] at h2 ⊢
  have no : ∀ {w : List Nat} {c : Nat}, c ∈ w → ¬ (97 ≤ c ∧ c < 97 + kn) → ¬ FirstOk w kn := fun hc hn hg => hn (hg.1.2 _ hc)
  match m, h2 with
  | 0, _ => exact ⟨[], atI_nat (j := 0) rfl, by decide, fun hg => by have := hg.1.1.1; simp at this⟩
  | 1, _ => exact ⟨_, atI_nat (j := 1) rfl, by rw [Wd.rep_len]; decide, fun hg => by have := hg.1.1.2; rw [Wd.rep_len] at this; simp at this⟩
  | 2, _ => exact ⟨_, atI_nat (j := 2) rfl, by decide, no (c := 65) (by simp) (by (first | lia | omega))⟩
  | 3, _ => exact ⟨_, atI_nat (j := 3) rfl, by decide, no (c := 32) (by simp) (by (first | lia | omega))⟩
  | 4, _ => exact ⟨_, atI_nat (j := 4) rfl, by simp, no (c := 97 + kn) (by simp) (by (first | lia | omega))⟩
  | 5, _ => exact ⟨_, atI_nat (j := 5) rfl, by decide, fun hg => absurd hg.2 (by unfold Wd.Lst; decide)⟩
  | 6, _ => exact ⟨_, atI_nat (j := 6) rfl, by decide, fun hg => absurd hg.2 (by unfold Wd.Lst; decide)⟩
  | 7, _ => exact ⟨_, atI_nat (j := 7) rfl, by decide, fun hg => absurd hg.2 (by unfold Wd.Lst; decide)⟩
  | 8, _ => exact ⟨_, atI_nat (j := 8) rfl, by decide, fun hg => absurd hg.2 (by unfold Wd.Lst; decide)⟩
  | m + 9, h => (first | lia | omega)
theorem first_as {k n : Nat} (hk : 1 ≤ k) (hn : 1 ≤ n ∧ n ≤ 24) : FirstOk (Wd.rep n [97]) k := by
  rw [Wd.rep_letter]
  have h := Wd.as_LW (k := k) (n := n) hk
  exact ⟨⟨by rw [h.len]; exact hn, h.ok⟩, h.lst⟩
theorem many_as {k n : Nat} {r : List Nat} (hk : 1 ≤ k ∧ k ≤ 6) (hn : 1 ≤ n ∧ n ≤ 24) (hp : 4096 < k ^ n) (h : Out63 4 (Wd.rep n [97]) (k : Nat) 1 [] r) : r = [109, 97, 110, 121] := by
  refine f_4 (o_f h hk (first_as hk.1 hn)) ?_
  rw [Wd.rep_letter, Wd.ring_as hk.1 hn.1]
  exact hp
noncomputable def spLaw (K : PySem.W.Frag) : Sp := fun vs H Q _ => ∃ (a : Addr) (ns : List Int), vs = [.ref a] ∧ SqL K H a (ns.map V.int) ∧ ns.length ≤ 63 ∧ ∀ H', Q (.bl true) H'
theorem ok_law {f : Addr} {fd : FuncData} (F : Fun K "law" "law" s_law f fd) (tt : Txt K mg ad) (C__law_mixed : Cal P w K mg base (CX1 P w) "_law_mixed" 1 ["cell", "k"] spMixed) (C__law_kinds : Cal P w K mg base (CX1 P w) "_law_kinds" 2 ["cell"] spKinds) (C__law_refused : Cal P w K mg base (CX1 P w) "_law_refused" 11 ["way", "first", "kinds", "many", "word"] spRef63)
    (C__law_words_refused : Cal P w K mg base (CX1 P w) "_law_words_refused" 12 ["cell"] spWRef) (C_whole_ring : Cal P w K mg base (CX1 P w) "whole_ring" 8 ["first", "kinds"] (spWhole ad)) (C_ring_size : Cal P w K mg base (CX1 P w) "ring_size" 7 ["first", "kinds"] (spRSize ad)) : FnOk P w K mg base (CX1 P w) 13 f fd ["script"] (spLaw K) := by
  refine F.okN sc_law (fun vs H Q E h => ?_) (fun cdv A outer s H vs Q E hr h => ?_)
  · obtain ⟨a, ns, rfl, _⟩ := h
    rfl
  · obtain ⟨a, ns, rfl, hS, hlen, q⟩ := h
    have hs : sizeLine = 16777216 := sizeLine_eq
    have hu := Nat.lt_of_succ_lt (hu_of hr)
    refine ⟨_, (pss_cons (ps_for PassesOwn.never rfl (pi_list (pe_op op_catL (pe_slice sl_list (pv 0) po_none (po_some pe_int)) (pe_lst (pa_cC pe_int pa_nil)))) (pg_name (i := 1) sc_law.nd rfl (Or.inl rfl)) (pss_cons (ps_set (i := 2) sc_law.nd rfl (Or.inl rfl) (pe_op op_mod (pv 1) (pe_op op_pow pe_int pe_int)))
      (pss_cons (ps_set (i := 3) sc_law.nd rfl (Or.inr rfl) (pe_ix ix_list (pe_lst (pa_cC pe_int (pa_cC pe_int (pa_cB (pe_op op_sub (pe_un un_neg pe_int) (pv 2)) (pa_cB (pe_op op_add pe_int (pv 2)) pa_nil))))) (pe_op op_mod (pe_cal C__law_mixed hr pass1 (pa_cN (pv 1) (pa_cC pe_int pa_nil))) pe_int) (fun _ _ => rfl)))
      (pss_cons (ps_if (pt_cmpR (op_ne_LT hu) (pe_comp cs_law_0 rfl (pi_range1 (by rfl) tt.b_range (pa_cC pe_int pa_nil)) (fun cl C s' H' fp => (pe_cal C__law_refused hr pass1 (pa_cN (pv 0) (pa_cC (pe_strT [] (by decide +kernel)) (pa_cN (pv 4) (pa_cC pe_int (pa_cC (pe_strT [] (by decide +kernel)) pa_nil)))))))) (pe_op op_repL (pe_lst (pa_cC (pe_strT [107, 105, 110, 100, 115] (by decide +kernel)) pa_nil)) pe_int) (nomark _)) (pss_one (ps_ret pe_bl)) pss_nil)
      (pss_cons (ps_set (i := 3) sc_law.nd rfl (Or.inr rfl) (pe_cal C__law_kinds hr pass1 (pa_cN (pv 1) pa_nil)))
      (pss_cons (ps_set (i := 4) sc_law.nd rfl (Or.inl rfl) (pe_lst (pa_cC (pe_strT [] (by decide +kernel)) (pa_cB (pe_op op_mul_T (pe_strT [97] (by decide +kernel)) pe_int) (pa_cC (pe_strT [65] (by decide +kernel)) (pa_cC (pe_strT [97, 32, 97] (by decide +kernel)) (pa_cB (pe_op op_add_T (pe_strT [97, 97] (by decide +kernel)) (pe_ix ix_T (pe_strT [97, 98, 99, 100, 101, 102, 103] (by decide +kernel)) (pv 3) (fun _ _ => rfl))) (pa_cC (pe_strT [98, 97] (by decide +kernel)) (pa_cC (pe_strT [97, 98, 97] (by decide +kernel)) (pa_cC (pe_strT [98, 97, 98] (by decide +kernel)) (pa_cC (pe_strT [97, 98, 97, 97] (by decide +kernel)) pa_nil)))))))))))
      (pss_cons (ps_set (i := 5) sc_law.nd rfl (Or.inr rfl) (pe_ix ix_list (pv 4) (pe_op op_mod (pe_cal C__law_mixed hr pass1 (pa_cN (pv 1) (pa_cC pe_int pa_nil))) pe_int) (fun _ _ => rfl)))
      (pss_cons (ps_if (pt_cmpR (op_ne_LT hu) (pe_comp cs_law_1 rfl (pi_range1 (by rfl) tt.b_range (pa_cC pe_int pa_nil)) (fun cl C s' H' fp => (pe_cal C__law_refused hr pass1 (pa_cN (pv 0) (pa_cN (pv 6) (pa_cN (pv 4) (pa_cC pe_int (pa_cC (pe_strT [] (by decide +kernel)) pa_nil)))))))) (pe_op op_repL (pe_lst (pa_cC (pe_strT [119, 111, 114, 100] (by decide +kernel)) pa_nil)) pe_int) (nomark _)) (pss_one (ps_ret pe_bl)) pss_nil)
      (pss_cons (ps_if (pt_cmpR op_ne_T (pe_cal C__law_refused hr pass1 (pa_cC pe_int (pa_cC (pe_strT [97] (by decide +kernel)) (pa_cN (pv 3) (pa_cB (pe_op op_add pe_int (pv 2)) (pa_cC (pe_strT [97] (by decide +kernel)) pa_nil)))))) (pe_strT [109, 97, 110, 121] (by decide +kernel)) (nomark _)) (pss_one (ps_ret pe_bl)) pss_nil)
      (pss_cons (ps_if (pt_cmpR op_ne_T (pe_cal C__law_refused hr pass1 (pa_cC pe_int (pa_cC (pe_strT [97] (by decide +kernel)) (pa_cN (pv 3) (pa_cB (pe_op op_sub (pe_un un_neg pe_int) (pv 2)) (pa_cC (pe_strT [97] (by decide +kernel)) pa_nil)))))) (pe_strT [115, 117, 99, 104] (by decide +kernel)) (nomark _)) (pss_one (ps_ret pe_bl)) pss_nil)
      (pss_cons (ps_if (PW.pt (pw_or (pt_cmpR op_ne_T (pe_cal C__law_refused hr pass1 (pa_cC pe_int (pa_cC (pe_strT [97] (by decide +kernel)) (pa_cN (pv 3) (pa_cC pe_int (pa_cC (pe_strT [97] (by decide +kernel)) pa_nil)))))) (pe_strT [110, 111, 110, 101] (by decide +kernel)) (nomark _)) (pw_or1 (pt_cmpR op_ne_T (pe_cal C__law_refused hr pass1 (pa_cC pe_int (pa_cC (pe_strT [97] (by decide +kernel)) (pa_cN (pv 3) (pa_cC pe_int (pa_cC (pe_strT [97] (by decide +kernel)) pa_nil)))))) (pe_strT [110, 111, 110, 101] (by decide +kernel)) (nomark _))))) (pss_one (ps_ret pe_bl)) pss_nil)
      (pss_one (ps_if (pt_not (pt_val (pe_cal C__law_words_refused hr pass1 (pa_cN (pv 1) pa_nil)))) (pss_one (ps_ret pe_bl)) pss_nil)))))))))))))
      (pss_cons (ps_set (i := 6) sc_law.nd rfl (Or.inl rfl) (pe_ix ix_list (pe_lst (pa_cT (pe_tup (pa_cB (pe_op op_mul_T (pe_strT [97] (by decide +kernel)) pe_int) (pa_cC pe_int pa_nil))) (pa_cT (pe_tup (pa_cB (pe_op op_mul_T (pe_strT [97] (by decide +kernel)) pe_int) (pa_cC pe_int pa_nil))) (pa_cT (pe_tup (pa_cC (pe_strT [97, 97, 97, 97, 97, 97, 98] (by decide +kernel)) (pa_cC pe_int pa_nil))) (pa_cT (pe_tup (pa_cB (pe_op op_mul_T (pe_strT [97] (by decide +kernel)) pe_int) (pa_cC pe_int pa_nil))) pa_nil))))) (pe_op op_mod (pe_callB (call_sumX rfl) (by rfl) tt.b_sum PyProof.Rows.boot_sum (pa_cN (pv 0) pa_nil)) pe_int) (fun _ _ => rfl)))
      (pss_cons (ps_if (pt_cmpR op_ne_T (pe_cal C__law_refused hr pass1 (pa_cC pe_int (pa_cS (pe_ix ix_tup (pv 6) pe_int (fun _ _ => rfl)) (pa_cS (pe_ix ix_tup (pv 6) pe_int (fun _ _ => rfl)) (pa_cC pe_int (pa_cC (pe_strT [] (by decide +kernel)) pa_nil)))))) (pe_strT [109, 97, 110, 121] (by decide +kernel)) (nomark _)) (pss_one (ps_ret pe_bl)) pss_nil)
      (pss_cons (ps_if (pt_cmpR op_eq_I (pe_op op_mod (pe_callB (call_sumX rfl) (by rfl) tt.b_sum PyProof.Rows.boot_sum (pa_cN (pv 0) pa_nil)) pe_int) pe_int (nomark _)) (pss_cons (ps_set (i := 7) sc_law.nd rfl (Or.inl rfl) (pe_cal C_whole_ring hr pass1 (pa_cC (pe_strT [97, 97, 97, 97, 97, 97] (by decide +kernel)) (pa_cC pe_int pa_nil))))
      (pss_cons (ps_set (i := 8) sc_law.nd rfl (Or.inr rfl) (pe_op op_add_T (pv 7) (pe_strT [97, 97, 97, 97, 97] (by decide +kernel))))
      (pss_cons (ps_if (PW.pt (pw_or (pt_cmpR op_ne_T (pe_slice sl_T (pv 7) po_none (po_some pe_int)) (pe_strT [97, 97, 97, 97, 97, 97] (by decide +kernel)) (nomark _)) (pw_or1 (pt_cmpR op_ne_I (pe_callB call_len_T (by rfl) tt.b_len PySem.boot_len (pa_cN (pv 7) pa_nil)) pe_int (nomark _))))) (pss_one (ps_ret pe_bl)) pss_nil)
      (pss_one (ps_ret (pe_cmpR op_eq_I (pe_callB call_lenB (by rfl) tt.b_len PySem.boot_len (pa_cK (pe_callTy (call_setB rfl) (by rfl) tt.b_set (by decide +kernel) (pa_cons (pe_comp cs_law_2 rfl (pi_range1 (by rfl) tt.b_range (pa_cC pe_int pa_nil)) (fun cl C s' H' fp => (pe_slice sl_T (pv 9) (po_some (pv 0)) (po_some (pe_op op_add (pv 0) pe_int))))) pa_nil)) pa_nil)) pe_int (nomark _))))))) pss_nil)
      (pss_cons (ps_set (i := 7) sc_law.nd rfl (Or.inl rfl) (pe_cal C_whole_ring hr pass1 (pa_cB (pe_op op_add_T (pe_strT [97, 97, 98] (by decide +kernel)) (pe_op op_mul_T (pe_strT [98] (by decide +kernel)) pe_int)) (pa_cC pe_int pa_nil))))
      (pss_one (ps_ret (pe_and (pe_cmpR op_eq_I (pe_callB call_len_T (by rfl) tt.b_len PySem.boot_len (pa_cN (pv 7) pa_nil)) (pe_cal C_ring_size hr pass1 (pa_cB (pe_op op_add_T (pe_strT [97, 97, 98] (by decide +kernel)) (pe_op op_mul_T (pe_strT [98] (by decide +kernel)) pe_int)) (pa_cC pe_int pa_nil))) (nomark _)) (pe_one (pe_cmpR op_lt (pe_callB call_len_T (by rfl) tt.b_len PySem.boot_len (pa_cN (pv 7) pa_nil)) pe_int (nomark _))))))))))), ?_⟩
    (try rw [cxK2]); (try rw [cxK1])
    -- for cell in script[:20] + [0]
    refine ⟨_, rfl, _, rfl, a, _, rfl, hS, fun p hp => ?_⟩
    have sa : Same H (upd H p (.lst (cutV (ns.map V.int) none (some 20)))) := same_upd hp
    have hcl := cutV_length (ns.map V.int) none (some 20)
    rw [List.length_map] at hcl
    have hci : ∀ x ∈ cutV (ns.map V.int) none (some 20), ∃ z, x = V.int z := fun x hx => by
      obtain ⟨z, _, e⟩ := List.mem_map.mp (List.mem_of_mem_drop (List.mem_of_mem_take hx))
      exact ⟨z, e.symm⟩
    generalize cutV (ns.map V.int) none (some 20) = cs at sa hcl hci
    refine ⟨(by show 1 ≤ sizeLine; (first | lia | omega)), fun p2 hp2 => ?_⟩
    have sb := same_upd (o := .lst [.int 0]) hp2
    refine ⟨p, p2, cs, [.int 0], rfl, rfl, SqL.of (sb p _ upd_same), SqL.of upd_same, (by show cs.length + 1 ≤ sizeLine; (first | lia | omega)), fun c hc => ?_⟩
    have sc := same_upd (o := .lst (cs ++ [.int 0])) hc
    have sH := sa.trans (sb.trans sc)
    generalize hH1 : upd (upd (upd H p (.lst cs)) p2 (.lst [.int 0])) c (.lst (cs ++ [.int 0])) = H1 at sH
    have hc1 : H1 c = some (.lst (cs ++ [.int 0])) := by rw [← hH1]; exact upd_same
    refine ⟨c, rfl, ⟨_, SqL.of hc1⟩, ?_⟩
    refine for_list (K := K) (a := c) (xs := cs ++ [.int 0]) (fun i σ H2 => Same H1 H2 ∧ ∃ v1 v2 v3 v4 v5 v6 v7 v8, σ = [some (.ref a), v1, v2, v3, v4, v5, v6, v7, v8]) ⟨Same.refl _, none, none, none, none, none, none, none, none, rfl⟩
      (fun i σ H2 _ ⟨s2, _⟩ => SqL.of (s2 c _ hc1)) ?_ ?_
    · rintro i y σ H2 hi ⟨s2, v1, v2, v3, v4, v5, v6, v7, v8, rfl⟩
      obtain ⟨z, rfl⟩ : ∃ z, y = V.int z := by
        rcases List.mem_append.mp (List.mem_of_getElem? hi) with g | g
        · exact hci _ g
        · exact ⟨0, by simpa using g⟩
      have f0 : (0 : Int) ≤ z % 10 ^ 40 := Int.emod_nonneg _ (by decide)
      refine ⟨_, rfl, _, _, rfl, rfl, ⟨by decide, by decide, by decide⟩, _, _, rfl, rfl, (by show (0 : Int) < 10 ^ 40; decide), ?_⟩  -- far
      generalize hfar : z % 10 ^ 40 = far at f0
      dsimp only
      rw [show z % (10 : Int) ^ (40 : Int).toNat = far from hfar]
      obtain ⟨vk, hvk, hvk2⟩ := four_at (a := .int 0) (b := .int 7) (c := .int (-1 - far)) (d := .int (7 + far)) (z := mixedZ z 1)
      obtain ⟨k0, rfl, hk0⟩ : ∃ k0 : Int, vk = .int k0 ∧ ¬ (1 ≤ k0 ∧ k0 ≤ 6) := by
        rcases hvk2 with e | e | e | e
        · exact ⟨_, e, by (first | lia | omega)⟩
        · exact ⟨_, e, by (first | lia | omega)⟩
        · exact ⟨_, e, by (first | lia | omega)⟩
        · exact ⟨_, e, by (first | lia | omega)⟩
      refine ⟨_, rfl, _, rfl, _, _, rfl, rfl, _, rfl, _, _, rfl, rfl, (by show 4 ≤ sizeLine; (first | lia | omega)), fun p1 hp1 => ?_⟩
      have t1 := same_upd (o := .lst [.int 0, .int 7, .int (-1 - far), .int (7 + far)]) hp1
      refine ⟨_, rfl, _, _, rfl, ⟨by decide, by decide⟩, _, _, rfl, rfl, (by show (0 : Int) < 4; decide), p1, _, _, _, rfl, rfl, SqL.of upd_same, hvk, ?_⟩  -- kinds
      refine ⟨5, rfl, by decide, by decide, ?_⟩
      refine comp_range (lo := 0) (n := 5) (fun _ => T [107, 105, 110, 100, 115]) (by (first | lia | omega)) (fun j G hj sG N hN => ?_) fun D G hD sG hd => ?_
      · exact ⟨_, rfl, _, rfl, j, [], k0, 900, [], congrArg (fun z => [V.int z, T [], V.int k0, V.int 900, T []]) (Int.zero_add _), ⟨by (first | lia | omega), by decide, by decide⟩, fun r G2 ho sG2 => by rw [o_k ho hk0]; exact hN G2 sG2⟩
      refine ⟨(by show 1 ≤ sizeLine; (first | lia | omega)), fun p2 hp2 => ?_⟩
      refine ⟨p2, 5, [T [107, 105, 110, 100, 115]], rfl, rfl, SqL.of upd_same, ⟨by (first | lia | omega), by show 1 * 5 ≤ sizeLine; (first | lia | omega)⟩, fun p3 hp3 => ?_⟩
      have t2 := (same_upd (o := .lst [T [107, 105, 110, 100, 115]]) hp2).trans (same_upd (o := .lst (List.replicate 5 [T [107, 105, 110, 100, 115]]).flatten) hp3)
      refine ⟨D, p3, [[107, 105, 110, 100, 115], [107, 105, 110, 100, 115], [107, 105, 110, 100, 115], [107, 105, 110, 100, 115], [107, 105, 110, 100, 115]], [[107, 105, 110, 100, 115], [107, 105, 110, 100, 115], [107, 105, 110, 100, 115], [107, 105, 110, 100, 115], [107, 105, 110, 100, 115]], rfl, rfl, SqL.of (t2 D _ hd), SqL.of upd_same, _, rfl, iteNS rfl ?_⟩  -- != ["kinds"] * 5
      have s4 := t1.trans (sG.trans t2)
      obtain ⟨kk, hkk⟩ : ∃ kk : Nat, kindsZ z = ((kk : Nat) : Int) := ⟨(kindsZ z).toNat, by have := kindsZ_b z; (first | lia | omega)⟩
      have hkb := kindsZ_b z
      refine ⟨_, rfl, _, rfl, ?_⟩  -- kinds = _law_kinds(cell)
      rw [hkk] at hkb ⊢
      have hk : 1 ≤ kk ∧ kk ≤ 6 := ⟨by (first | lia | omega), by (first | lia | omega)⟩
      have hc7 : atI [97, 98, 99, 100, 101, 102, 103] ((kk : Nat) : Int) = some (97 + kk) := by
        have : ∀ k : Nat, k < 7 → ([97, 98, 99, 100, 101, 102, 103] : List Nat)[k]? = some (97 + k) := by decide
        exact atI_nat (this kk (by (first | lia | omega)))
      refine ⟨_, rfl, 25, rfl, ⟨by decide, by show 25 * 1 ≤ sizeLine; (first | lia | omega)⟩, _, rfl, _, rfl, _, rfl, (by show 7 ≤ sizeLine; (first | lia | omega)), _, hc7, _, rfl, _, rfl, (by show 2 + 1 ≤ sizeLine; (first | lia | omega)), (by show 9 ≤ sizeLine; (first | lia | omega)), fun W hW => ?_⟩  -- firsts
      have t2 := same_upd (o := .lst ((bad9 kk).map T)) hW
      obtain ⟨wd, hwd, hwl, hwg⟩ := bad_at hk (z := mixedZ z 3)
      refine ⟨_, rfl, _, rfl, _, _, rfl, ⟨by decide, by decide⟩, _, _, rfl, rfl, (by show (0 : Int) < 9; decide), W, (bad9 kk).map T, _, _, rfl, rfl, SqL.of upd_same, hwd, ?_⟩  -- first
      refine ⟨5, rfl, by decide, by decide, ?_⟩
      refine comp_range (lo := 0) (n := 5) (fun _ => T [119, 111, 114, 100]) (by (first | lia | omega)) (fun j G hj sG N hN => ?_) fun D G hD sG hd => ?_
      · exact ⟨_, rfl, _, rfl, _, rfl, j, wd, _, 900, [], congrArg (fun z => [V.int z, T wd, V.int (kk : Nat), V.int 900, T []]) (Int.zero_add _), ⟨by (first | lia | omega), by (first | lia | omega), by decide⟩, fun r G2 ho sG2 => by rw [o_w ho hk hwg]; exact hN G2 sG2⟩
      refine ⟨(by show 1 ≤ sizeLine; (first | lia | omega)), fun p2 hp2 => ?_⟩
      refine ⟨p2, 5, [T [119, 111, 114, 100]], rfl, rfl, SqL.of upd_same, ⟨by (first | lia | omega), by show 1 * 5 ≤ sizeLine; (first | lia | omega)⟩, fun p3 hp3 => ?_⟩
      have t3 := (same_upd (o := .lst [T [119, 111, 114, 100]]) hp2).trans (same_upd (o := .lst (List.replicate 5 [T [119, 111, 114, 100]]).flatten) hp3)
      refine ⟨D, p3, [[119, 111, 114, 100], [119, 111, 114, 100], [119, 111, 114, 100], [119, 111, 114, 100], [119, 111, 114, 100]], [[119, 111, 114, 100], [119, 111, 114, 100], [119, 111, 114, 100], [119, 111, 114, 100], [119, 111, 114, 100]], rfl, rfl, SqL.of (t3 D _ hd), SqL.of upd_same, _, rfl, iteNS rfl ?_⟩  -- != ["word"] * 5
      have s6 := s4.trans (t2.trans (sG.trans t3))
      have hfa : FirstOk [97] kk := ⟨⟨by decide, fun c hc => by rw [List.mem_singleton.mp hc]; (first | lia | omega)⟩, by unfold Wd.Lst; decide⟩
      refine ⟨_, rfl, _, rfl, _, _, rfl, rfl, 2, [97], _, 201 + far, [97], rfl, ⟨by decide, by decide, by decide⟩, fun r G1 ho sG1 => ?_⟩  -- 201 + far
      refine ⟨_, rfl, _, rfl, _, rfl, iteNS ((f_2 (o_f ho hk hfa)).1 (by (first | lia | omega))) ?_⟩
      refine ⟨_, rfl, _, rfl, _, rfl, _, _, rfl, rfl, 2, [97], _, -1 - far, [97], rfl, ⟨by decide, by decide, by decide⟩, fun r G2 ho sG2 => ?_⟩  -- -1 - far
      refine ⟨_, rfl, _, rfl, _, rfl, iteNS ((f_2 (o_f ho hk hfa)).2.1 (by (first | lia | omega))) ?_⟩
      refine ⟨_, rfl, 2, [97], _, 200, [97], rfl, ⟨by decide, by decide, by decide⟩, fun r G3 ho sG3 => ?_⟩  -- 200
      refine ⟨_, rfl, _, rfl, _, rfl, iteNS ((f_2 (o_f ho hk hfa)).2.2 ⟨by decide, by decide⟩) ?_⟩
      refine ⟨_, rfl, 2, [97], _, 0, [97], rfl, ⟨by decide, by decide, by decide⟩, fun r G4 ho sG4 => ?_⟩  -- 0
      refine ⟨_, rfl, _, rfl, _, rfl, iteNS ((f_2 (o_f ho hk hfa)).2.2 ⟨by decide, by decide⟩) ?_⟩
      exact ⟨_, rfl, z, rfl, fun G5 sG5 => ⟨_, rfl, itN (by decide) ⟨s2.trans (s6.trans (sG1.trans (sG2.trans (sG3.trans (sG4.trans sG5))))), _, _, _, _, _, _, _, _, rfl⟩⟩⟩
    · rintro σ H2 ⟨s2, v1, v2, v3, v4, v5, v6, v7, v8, rfl⟩
      have hS2 := (sH.trans s2).seq hS
      -- great
      refine ⟨_, rfl, 13, rfl, ⟨by decide, by show 13 * 1 ≤ sizeLine; (first | lia | omega)⟩, (by show 2 ≤ sizeLine; (first | lia | omega)), fun t0 ht0 => ?_⟩
      have a0 := same_upd (o := .tup [T (Wd.rep 13 [97]), .int 2]) ht0
      refine ⟨_, rfl, 8, rfl, ⟨by decide, by show 8 * 1 ≤ sizeLine; (first | lia | omega)⟩, (by show 2 ≤ sizeLine; (first | lia | omega)), fun t1 ht1 => ?_⟩
      have a1 := same_upd (o := .tup [T (Wd.rep 8 [97]), .int 3]) ht1
      refine ⟨(by show 2 ≤ sizeLine; (first | lia | omega)), fun t2 ht2 => ?_⟩
      have a2 := same_upd (o := .tup [T [97, 97, 97, 97, 97, 97, 98], .int 4]) ht2
      refine ⟨_, rfl, 24, rfl, ⟨by decide, by show 24 * 1 ≤ sizeLine; (first | lia | omega)⟩, (by show 2 ≤ sizeLine; (first | lia | omega)), fun t3 ht3 => ?_⟩
      have a3 := same_upd (o := .tup [T (Wd.rep 24 [97]), .int 6]) ht3
      refine ⟨(by show 4 ≤ sizeLine; (first | lia | omega)), fun p4 hp4 => ?_⟩
      have a4 := same_upd (o := .lst [.ref t0, .ref t1, .ref t2, .ref t3]) hp4
      have e3 := a4 t3 _ upd_same
      have e2 := (a3.trans a4) t2 _ upd_same
      have e1 := (a2.trans (a3.trans a4)) t1 _ upd_same
      have e0 := (a1.trans (a2.trans (a3.trans a4))) t0 _ upd_same
      have sT := a0.trans (a1.trans (a2.trans (a3.trans a4)))
      have hS3 := sT.seq hS2
      obtain ⟨vg, hvg, hvg2⟩ := four_at (a := .ref t0) (b := .ref t1) (c := .ref t2) (d := .ref t3) (z := ns.sum)
      obtain ⟨tg, fg, kg, rfl, hlg, hog, hmg2⟩ : ∃ (tg : Addr) (fg : List Nat) (kg : Int), vg = .ref tg ∧ fg.length ≤ 1000 ∧ (∀ r, Out63 4 fg kg 1 [] r → r = [109, 97, 110, 121]) ∧ upd (upd (upd (upd (upd H2 t0 (.tup [T (Wd.rep 13 [97]), .int 2])) t1 (.tup [T (Wd.rep 8 [97]), .int 3])) t2 (.tup [T [97, 97, 97, 97, 97, 97, 98], .int 4])) t3 (.tup [T (Wd.rep 24 [97]), .int 6])) p4 (.lst [.ref t0, .ref t1, .ref t2, .ref t3]) tg = some (.tup [T fg, .int kg]) := by
        rcases hvg2 with rfl | rfl | rfl | rfl
        · exact ⟨t0, _, 2, rfl, by rw [Wd.rep_len]; decide, fun r h => many_as (k := 2) (n := 13) (by decide) (by decide) (by decide) h, e0⟩
        · exact ⟨t1, _, 3, rfl, by rw [Wd.rep_len]; decide, fun r h => many_as (k := 3) (n := 8) (by decide) (by decide) (by decide) h, e1⟩
        · exact ⟨t2, _, 4, rfl, by decide, fun r h => f_4 (o_f (kn := 4) h (by decide) ⟨⟨by decide, Wd.aab_LW.ok⟩, Wd.aab_LW.lst⟩) Wd.ring_aab, e2⟩
        · exact ⟨t3, _, 6, rfl, by rw [Wd.rep_len]; decide, fun r h => many_as (k := 6) (n := 24) (by decide) (by decide) (by decide) h, e3⟩
      refine ⟨_, rfl, a, ns, rfl, hS3, _, _, rfl, rfl, (by show (0 : Int) < 4; decide), p4, _, _, _, rfl, rfl, SqL.of upd_same, hvg, ?_⟩
      refine ⟨_, rfl, tg, _, _, _, rfl, rfl, SqT.of hmg2, atI_nat (j := 0) rfl, _, rfl, tg, _, _, _, rfl, rfl, SqT.of hmg2, atI_nat (j := 1) rfl, 4, fg, kg, 1, [], rfl, ⟨by decide, hlg, by decide⟩, fun r H4 ho s4 => ?_⟩  -- _law_refused(4, great[0], great[1], 1, '')
      refine ⟨_, rfl, _, rfl, _, rfl, iteNS (hog _ ho) ?_⟩
      have hS4 := s4.seq hS3
      refine ⟨_, rfl, a, ns, rfl, hS4, _, _, rfl, rfl, (by show (0 : Int) < 2; decide), _, rfl, _, rfl, _, rfl, ?_⟩  -- sum(script) % 2 == 0
      refine ite2 (fun h0 => ?_) (fun h0 => ?_)
      · have hf6 : FirstOk [97, 97, 97, 97, 97, 97] 4 := ⟨⟨by decide, by decide⟩, by unfold Wd.Lst; decide⟩
        have hRl : (Wd.ringF 4 [97, 97, 97, 97, 97, 97]).length = 4096 := Wd.ring_as (k := 4) (n := 6) (by decide) (by decide)
        have hlw : Wd.LW 4 6 [97, 97, 97, 97, 97, 97] := hf6.lw
        have hat := Wd.ringF_first (by decide) (by decide) hlw
        obtain ⟨pre, ls, he, hR⟩ := Wd.ringF_is (by decide) hlw
        have hnd := (Wd.fkm (by decide) (by decide) he).1
        rw [← hR] at hnd
        clear he hR
        refine ⟨[97, 97, 97, 97, 97, 97], 4, rfl, (by decide), fun z => absurd (by decide) z, fun kn ek _ => ?_⟩  -- found = whole_ring('aaaaaa', 4)
        obtain rfl : kn = 4 := by (first | lia | omega)
        refine ⟨fun z => absurd hf6 z, fun _ => ⟨fun z => absurd z (by (first | lia | omega)), fun _ H5 s5 => ?_⟩⟩
        generalize Wd.ringF 4 [97, 97, 97, 97, 97, 97] = R at hRl hat hnd
        have hwr := Wd.wrap_as (R := R) (m := 5) (by (first | lia | omega)) hat.is
        have hpart : ∀ st m, st + m ≤ 4101 → ((R ++ [97, 97, 97, 97, 97]).drop st).take m = Wd.ringAt R m (0 + st) := fun st m hm => Wd.ringAt_part (by (first | lia | omega)) (by rw [List.length_append]; exact hwr) (by rw [List.length_append, hRl]; exact hm)
        refine ⟨_, rfl, _, rfl, _, rfl, (by show R.length + 5 ≤ sizeLine; (first | lia | omega)), ?_⟩  -- longer
        have hLl : (R ++ [97, 97, 97, 97, 97]).length = 4101 := by rw [List.length_append, hRl]; rfl
        refine ⟨_, rfl, _, rfl, _, rfl, (by (first | lia | omega)), _, rfl, _, rfl, _, rfl, iteNS ?_ ?_⟩  -- found[:6] != 'aaaaaa'
        · show cutL R none (some ((6 : Nat) : Int)) = _
          rw [cutL_take]
          have := hpart 0 6 (by decide)
          rw [List.drop_zero, List.take_append_of_le_length (by (first | lia | omega)), Nat.add_zero, hat.is] at this
          exact this
        refine ⟨_, rfl, _, rfl, (by (first | lia | omega)), _, rfl, _, rfl, _, rfl, itN (by rw [hRl]; decide) ?_⟩  -- len(found) != 4096
        refine ⟨4096, rfl, by decide, by decide, ?_⟩
        refine comp_range (lo := 0) (n := 4096) (fun i => T (Wd.ringAt R 6 i)) (by (first | lia | omega)) (fun j G hj sG N hN => ?_) fun D G hD sG hd => ?_
        · refine ⟨_, rfl, _, rfl, _, rfl, _, rfl, _, _, rfl, rfl, _, rfl, _, rfl, (by (first | lia | omega)), ?_⟩
          have e : cutL (R ++ [97, 97, 97, 97, 97]) (some (0 + (j : Int))) (some (0 + (j : Int) + 6)) = Wd.ringAt R 6 j := by
            rw [Int.zero_add, show ((j : Nat) : Int) + 6 = ((j + 6 : Nat) : Int) by (first | lia | omega), cutL_mid (by (first | lia | omega)) (by (first | lia | omega)), Nat.add_sub_cancel_left, hpart j 6 (by (first | lia | omega)), Nat.zero_add]
          rw [e]
          exact hN G (Same.refl _)
        have hrw : (List.range 4096).map (fun i => T (Wd.ringAt R 6 i)) = (Wd.ringW R 6).map T := by
          unfold Wd.ringW
          rw [List.map_map, hRl]
          rfl
        have hrl : (Wd.ringW R 6).length = 4096 := by unfold Wd.ringW; rw [List.length_map, List.length_range, hRl]
        rw [hrw] at hd
        refine ⟨D, Wd.ringW R 6, rfl, SqL.of hd, hnd, ⟨by (first | lia | omega), by (first | lia | omega)⟩, fun D2 hD2 => ?_⟩  -- set(..)
        refine ⟨D2, (Wd.ringW R 6).length, rfl, upd_same, (by (first | lia | omega)), _, rfl, _, rfl, ?_⟩
        rw [hrl]
        exact q _
      · have hf13 : FirstOk ([97, 97, 98] ++ Wd.rep 10 [98]) 2 := by
          rw [Wd.rep_letter]
          exact ⟨⟨by decide, Wd.abb_LW.ok⟩, Wd.abb_LW.lst⟩
        have hRl : (Wd.ringF 2 ([97, 97, 98] ++ Wd.rep 10 [98])).length ≤ 4096 := by rw [Wd.rep_letter]; exact Wd.ring_abb
        have hfl : ([97, 97, 98] ++ Wd.rep 10 [98]).length = 13 := by rw [Wd.rep_letter]; rfl
        generalize hfe : [97, 97, 98] ++ Wd.rep 10 [98] = f13 at hf13 hRl hfl
        refine ⟨_, rfl, 10, rfl, ⟨by decide, by show 10 * 1 ≤ sizeLine; (first | lia | omega)⟩, _, rfl, _, rfl, (by show 3 + (Wd.rep 10 [98]).length ≤ sizeLine; rw [Wd.rep_len]; show 3 + 10 * 1 ≤ sizeLine; (first | lia | omega)), f13, 2, (by rw [← hfe]; rfl), (by (first | lia | omega)), fun z => absurd (by decide) z, fun kn ek _ => ?_⟩  -- found = whole_ring('aab' + 'b' * 10, 2)
        obtain rfl : kn = 2 := by (first | lia | omega)
        refine ⟨fun z => absurd hf13 z, fun _ => ⟨fun z => absurd z (by (first | lia | omega)), fun _ H5 s5 => ?_⟩⟩
        refine ⟨_, rfl, _, rfl, (by (first | lia | omega)), _, rfl, 10, rfl, ⟨by decide, by show 10 * 1 ≤ sizeLine; (first | lia | omega)⟩, _, rfl, _, rfl, (by show 3 + (Wd.rep 10 [98]).length ≤ sizeLine; rw [Wd.rep_len]; show 3 + 10 * 1 ≤ sizeLine; (first | lia | omega)), f13, 2, (by rw [← hfe]; rfl), (by (first | lia | omega)), fun z => absurd (by decide) z, fun kn ek _ => ?_⟩  -- ring_size(..)
        obtain rfl : kn = 2 := by (first | lia | omega)
        refine ⟨fun _ H6 s6 => ?_, fun z => absurd hf13 z⟩
        refine ⟨_, rfl, _, rfl, _, rfl, itP (decide_eq_true rfl) ?_⟩
        refine ⟨_, rfl, _, rfl, (by (first | lia | omega)), _, _, rfl, rfl, ?_⟩
        show Q (.bl (decide ((((Wd.ringF 2 f13).length : Nat) : Int) < 4097))) H6
        rw [decide_eq_true (show (((Wd.ringF 2 f13).length : Nat) : Int) < 4097 by (first | lia | omega))]
        exact q H6

end
theorem all_mk {l : PySem.W.OpenLaw} {w : World} {K : PySem.W.Frag} {h : Heap} {mg : Str → Option Value} {fa : Addr} (X : K.In h) (G : h.Ns mainGlobals mg) (hfa : mg "law" = some (.ref fa))
    {f_looked_kinds : Addr} {od_looked_kinds an_looked_kinds : Option Addr} {sl_looked_kinds : Array (Option Value)} {oc_looked_kinds kV_looked_kinds dc_looked_kinds pm_looked_kinds cd_looked_kinds ct_looked_kinds : Value}
    {f_looked_length : Addr} {od_looked_length an_looked_length : Option Addr} {sl_looked_length : Array (Option Value)} {oc_looked_length kV_looked_length dc_looked_length pm_looked_length cd_looked_length ct_looked_length : Value}
    {f_letters : Addr} {od_letters an_letters : Option Addr} {sl_letters : Array (Option Value)} {oc_letters kV_letters dc_letters pm_letters cd_letters ct_letters : Value}
    {f_looked : Addr} {od_looked an_looked : Option Addr} {sl_looked : Array (Option Value)} {oc_looked kV_looked dc_looked pm_looked cd_looked ct_looked : Value}
    {f_word_total : Addr} {od_word_total an_word_total : Option Addr} {sl_word_total : Array (Option Value)} {oc_word_total kV_word_total dc_word_total pm_word_total cd_word_total ct_word_total : Value}
    {f_spelled : Addr} {od_spelled an_spelled : Option Addr} {sl_spelled : Array (Option Value)} {oc_spelled kV_spelled dc_spelled pm_spelled cd_spelled ct_spelled : Value}
    {f_turned : Addr} {od_turned an_turned : Option Addr} {sl_turned : Array (Option Value)} {oc_turned kV_turned dc_turned pm_turned cd_turned ct_turned : Value}
    {f_turn_by : Addr} {od_turn_by an_turn_by : Option Addr} {sl_turn_by : Array (Option Value)} {oc_turn_by kV_turn_by dc_turn_by pm_turn_by cd_turn_by ct_turn_by : Value}
    {f_least_turn : Addr} {od_least_turn an_least_turn : Option Addr} {sl_least_turn : Array (Option Value)} {oc_least_turn kV_least_turn dc_least_turn pm_least_turn cd_least_turn ct_least_turn : Value}
    {f_times_of : Addr} {od_times_of an_times_of : Option Addr} {sl_times_of : Array (Option Value)} {oc_times_of kV_times_of dc_times_of pm_times_of cd_times_of ct_times_of : Value}
    {f_root : Addr} {od_root an_root : Option Addr} {sl_root : Array (Option Value)} {oc_root kV_root dc_root pm_root cd_root ct_root : Value}
    {f_is_least : Addr} {od_is_least an_is_least : Option Addr} {sl_is_least : Array (Option Value)} {oc_is_least kV_is_least dc_is_least pm_is_least cd_is_least ct_is_least : Value}
    {f_filled : Addr} {od_filled an_filled : Option Addr} {sl_filled : Array (Option Value)} {oc_filled kV_filled dc_filled pm_filled cd_filled ct_filled : Value}
    {f_is_beginning : Addr} {od_is_beginning an_is_beginning : Option Addr} {sl_is_beginning : Array (Option Value)} {oc_is_beginning kV_is_beginning dc_is_beginning pm_is_beginning cd_is_beginning ct_is_beginning : Value}
    {f_least_from : Addr} {od_least_from an_least_from : Option Addr} {sl_least_from : Array (Option Value)} {oc_least_from kV_least_from dc_least_from pm_least_from cd_least_from ct_least_from : Value}
    {f_least_beginning : Addr} {od_least_beginning an_least_beginning : Option Addr} {sl_least_beginning : Array (Option Value)} {oc_least_beginning kV_least_beginning dc_least_beginning pm_least_beginning cd_least_beginning ct_least_beginning : Value}
    {f_next_least : Addr} {od_next_least an_next_least : Option Addr} {sl_next_least : Array (Option Value)} {oc_next_least kV_next_least dc_next_least pm_next_least cd_next_least ct_next_least : Value}
    {f_last_least : Addr} {od_last_least an_last_least : Option Addr} {sl_last_least : Array (Option Value)} {oc_last_least kV_last_least dc_last_least pm_last_least cd_last_least ct_last_least : Value}
    {f_rests : Addr} {od_rests an_rests : Option Addr} {sl_rests : Array (Option Value)} {oc_rests kV_rests dc_rests pm_rests cd_rests ct_rests : Value}
    {f_count_above : Addr} {od_count_above an_count_above : Option Addr} {sl_count_above : Array (Option Value)} {oc_count_above kV_count_above dc_count_above pm_count_above cd_count_above ct_count_above : Value}
    {f_up_to : Addr} {od_up_to an_up_to : Option Addr} {sl_up_to : Array (Option Value)} {oc_up_to kV_up_to dc_up_to pm_up_to cd_up_to ct_up_to : Value}
    {f_first_word_above : Addr} {od_first_word_above an_first_word_above : Option Addr} {sl_first_word_above : Array (Option Value)} {oc_first_word_above kV_first_word_above dc_first_word_above pm_first_word_above cd_first_word_above ct_first_word_above : Value}
    {f_looked_first : Addr} {od_looked_first an_looked_first : Option Addr} {sl_looked_first : Array (Option Value)} {oc_looked_first kV_looked_first dc_looked_first pm_looked_first cd_looked_first ct_looked_first : Value}
    {f_count_below : Addr} {od_count_below an_count_below : Option Addr} {sl_count_below : Array (Option Value)} {oc_count_below kV_count_below dc_count_below pm_count_below cd_count_below ct_count_below : Value}
    {f_begin_place : Addr} {od_begin_place an_begin_place : Option Addr} {sl_begin_place : Array (Option Value)} {oc_begin_place kV_begin_place dc_begin_place pm_begin_place cd_begin_place ct_begin_place : Value}
    {f_ring_size : Addr} {od_ring_size an_ring_size : Option Addr} {sl_ring_size : Array (Option Value)} {oc_ring_size kV_ring_size dc_ring_size pm_ring_size cd_ring_size ct_ring_size : Value}
    {f_put_together : Addr} {od_put_together an_put_together : Option Addr} {sl_put_together : Array (Option Value)} {oc_put_together kV_put_together dc_put_together pm_put_together cd_put_together ct_put_together : Value}
    {f_piece_at : Addr} {od_piece_at an_piece_at : Option Addr} {sl_piece_at : Array (Option Value)} {oc_piece_at kV_piece_at dc_piece_at pm_piece_at cd_piece_at ct_piece_at : Value}
    {f_letter_at : Addr} {od_letter_at an_letter_at : Option Addr} {sl_letter_at : Array (Option Value)} {oc_letter_at kV_letter_at dc_letter_at pm_letter_at cd_letter_at ct_letter_at : Value}
    {f_looked_for : Addr} {od_looked_for an_looked_for : Option Addr} {sl_looked_for : Array (Option Value)} {oc_looked_for kV_looked_for dc_looked_for pm_looked_for cd_looked_for ct_looked_for : Value}
    {f_place_of : Addr} {od_place_of an_place_of : Option Addr} {sl_place_of : Array (Option Value)} {oc_place_of kV_place_of dc_place_of pm_place_of cd_place_of ct_place_of : Value}
    {f_whole_ring : Addr} {od_whole_ring an_whole_ring : Option Addr} {sl_whole_ring : Array (Option Value)} {oc_whole_ring kV_whole_ring dc_whole_ring pm_whole_ring cd_whole_ring ct_whole_ring : Value}
    {f__law_mixed : Addr} {od__law_mixed an__law_mixed : Option Addr} {sl__law_mixed : Array (Option Value)} {oc__law_mixed kV__law_mixed dc__law_mixed pm__law_mixed cd__law_mixed ct__law_mixed : Value}
    {f__law_kinds : Addr} {od__law_kinds an__law_kinds : Option Addr} {sl__law_kinds : Array (Option Value)} {oc__law_kinds kV__law_kinds dc__law_kinds pm__law_kinds cd__law_kinds ct__law_kinds : Value}
    {f__law_refused : Addr} {od__law_refused an__law_refused : Option Addr} {sl__law_refused : Array (Option Value)} {oc__law_refused kV__law_refused dc__law_refused pm__law_refused cd__law_refused ct__law_refused : Value}
    {f__law_words_refused : Addr} {od__law_words_refused an__law_words_refused : Option Addr} {sl__law_words_refused : Array (Option Value)} {oc__law_words_refused kV__law_words_refused dc__law_words_refused pm__law_words_refused cd__law_words_refused ct__law_words_refused : Value}
    {f_law : Addr} {od_law an_law : Option Addr} {sl_law : Array (Option Value)} {oc_law kV_law dc_law pm_law cd_law ct_law : Value}
    {c_BadKinds : Addr}
    {c_BadWord : Addr}
    {c_NoSuch : Addr}
    {c_TooMany : Addr}
    {c_OnceError : Addr}
    {u_LETTERS : Value}
    {u_LONGEST : Value}
    {u_MOST_OF_A_PIECE : Value}
    {u_MOST_WORDS : Value}
    (a_looked_kinds : PySem.W.nsIn K mainGlobals "looked_kinds" = some (some (.ref f_looked_kinds))) (l_looked_kinds : K.lookup f_looked_kinds = some ⟨oc_looked_kinds, od_looked_kinds, .func (PySem.W.fnOf "looked_kinds" "looked_kinds" (defArgs s_looked_kinds) (defBody s_looked_kinds) (defScope s_looked_kinds) .none kV_looked_kinds dc_looked_kinds pm_looked_kinds an_looked_kinds cd_looked_kinds ct_looked_kinds), sl_looked_kinds⟩) (c_looked_kinds : PySem.W.codeIn K cd_looked_kinds "looked_kinds" = true) (k_looked_kinds : PySem.W.keepIn K (.ref f_looked_kinds) = true)
    (a_looked_length : PySem.W.nsIn K mainGlobals "looked_length" = some (some (.ref f_looked_length))) (l_looked_length : K.lookup f_looked_length = some ⟨oc_looked_length, od_looked_length, .func (PySem.W.fnOf "looked_length" "looked_length" (defArgs s_looked_length) (defBody s_looked_length) (defScope s_looked_length) .none kV_looked_length dc_looked_length pm_looked_length an_looked_length cd_looked_length ct_looked_length), sl_looked_length⟩) (c_looked_length : PySem.W.codeIn K cd_looked_length "looked_length" = true) (k_looked_length : PySem.W.keepIn K (.ref f_looked_length) = true)
    (a_letters : PySem.W.nsIn K mainGlobals "letters" = some (some (.ref f_letters))) (l_letters : K.lookup f_letters = some ⟨oc_letters, od_letters, .func (PySem.W.fnOf "letters" "letters" (defArgs s_letters) (defBody s_letters) (defScope s_letters) .none kV_letters dc_letters pm_letters an_letters cd_letters ct_letters), sl_letters⟩) (c_letters : PySem.W.codeIn K cd_letters "letters" = true) (k_letters : PySem.W.keepIn K (.ref f_letters) = true)
    (a_looked : PySem.W.nsIn K mainGlobals "looked" = some (some (.ref f_looked))) (l_looked : K.lookup f_looked = some ⟨oc_looked, od_looked, .func (PySem.W.fnOf "looked" "looked" (defArgs s_looked) (defBody s_looked) (defScope s_looked) .none kV_looked dc_looked pm_looked an_looked cd_looked ct_looked), sl_looked⟩) (c_looked : PySem.W.codeIn K cd_looked "looked" = true) (k_looked : PySem.W.keepIn K (.ref f_looked) = true)
    (a_word_total : PySem.W.nsIn K mainGlobals "word_total" = some (some (.ref f_word_total))) (l_word_total : K.lookup f_word_total = some ⟨oc_word_total, od_word_total, .func (PySem.W.fnOf "word_total" "word_total" (defArgs s_word_total) (defBody s_word_total) (defScope s_word_total) .none kV_word_total dc_word_total pm_word_total an_word_total cd_word_total ct_word_total), sl_word_total⟩) (c_word_total : PySem.W.codeIn K cd_word_total "word_total" = true) (k_word_total : PySem.W.keepIn K (.ref f_word_total) = true)
    (a_spelled : PySem.W.nsIn K mainGlobals "spelled" = some (some (.ref f_spelled))) (l_spelled : K.lookup f_spelled = some ⟨oc_spelled, od_spelled, .func (PySem.W.fnOf "spelled" "spelled" (defArgs s_spelled) (defBody s_spelled) (defScope s_spelled) .none kV_spelled dc_spelled pm_spelled an_spelled cd_spelled ct_spelled), sl_spelled⟩) (c_spelled : PySem.W.codeIn K cd_spelled "spelled" = true) (k_spelled : PySem.W.keepIn K (.ref f_spelled) = true)
    (a_turned : PySem.W.nsIn K mainGlobals "turned" = some (some (.ref f_turned))) (l_turned : K.lookup f_turned = some ⟨oc_turned, od_turned, .func (PySem.W.fnOf "turned" "turned" (defArgs s_turned) (defBody s_turned) (defScope s_turned) .none kV_turned dc_turned pm_turned an_turned cd_turned ct_turned), sl_turned⟩) (c_turned : PySem.W.codeIn K cd_turned "turned" = true) (k_turned : PySem.W.keepIn K (.ref f_turned) = true)
    (a_turn_by : PySem.W.nsIn K mainGlobals "turn_by" = some (some (.ref f_turn_by))) (l_turn_by : K.lookup f_turn_by = some ⟨oc_turn_by, od_turn_by, .func (PySem.W.fnOf "turn_by" "turn_by" (defArgs s_turn_by) (defBody s_turn_by) (defScope s_turn_by) .none kV_turn_by dc_turn_by pm_turn_by an_turn_by cd_turn_by ct_turn_by), sl_turn_by⟩) (c_turn_by : PySem.W.codeIn K cd_turn_by "turn_by" = true) (k_turn_by : PySem.W.keepIn K (.ref f_turn_by) = true)
    (a_least_turn : PySem.W.nsIn K mainGlobals "least_turn" = some (some (.ref f_least_turn))) (l_least_turn : K.lookup f_least_turn = some ⟨oc_least_turn, od_least_turn, .func (PySem.W.fnOf "least_turn" "least_turn" (defArgs s_least_turn) (defBody s_least_turn) (defScope s_least_turn) .none kV_least_turn dc_least_turn pm_least_turn an_least_turn cd_least_turn ct_least_turn), sl_least_turn⟩) (c_least_turn : PySem.W.codeIn K cd_least_turn "least_turn" = true) (k_least_turn : PySem.W.keepIn K (.ref f_least_turn) = true)
    (a_times_of : PySem.W.nsIn K mainGlobals "times_of" = some (some (.ref f_times_of))) (l_times_of : K.lookup f_times_of = some ⟨oc_times_of, od_times_of, .func (PySem.W.fnOf "times_of" "times_of" (defArgs s_times_of) (defBody s_times_of) (defScope s_times_of) .none kV_times_of dc_times_of pm_times_of an_times_of cd_times_of ct_times_of), sl_times_of⟩) (c_times_of : PySem.W.codeIn K cd_times_of "times_of" = true) (k_times_of : PySem.W.keepIn K (.ref f_times_of) = true)
    (a_root : PySem.W.nsIn K mainGlobals "root" = some (some (.ref f_root))) (l_root : K.lookup f_root = some ⟨oc_root, od_root, .func (PySem.W.fnOf "root" "root" (defArgs s_root) (defBody s_root) (defScope s_root) .none kV_root dc_root pm_root an_root cd_root ct_root), sl_root⟩) (c_root : PySem.W.codeIn K cd_root "root" = true) (k_root : PySem.W.keepIn K (.ref f_root) = true)
    (a_is_least : PySem.W.nsIn K mainGlobals "is_least" = some (some (.ref f_is_least))) (l_is_least : K.lookup f_is_least = some ⟨oc_is_least, od_is_least, .func (PySem.W.fnOf "is_least" "is_least" (defArgs s_is_least) (defBody s_is_least) (defScope s_is_least) .none kV_is_least dc_is_least pm_is_least an_is_least cd_is_least ct_is_least), sl_is_least⟩) (c_is_least : PySem.W.codeIn K cd_is_least "is_least" = true) (k_is_least : PySem.W.keepIn K (.ref f_is_least) = true)
    (a_filled : PySem.W.nsIn K mainGlobals "filled" = some (some (.ref f_filled))) (l_filled : K.lookup f_filled = some ⟨oc_filled, od_filled, .func (PySem.W.fnOf "filled" "filled" (defArgs s_filled) (defBody s_filled) (defScope s_filled) .none kV_filled dc_filled pm_filled an_filled cd_filled ct_filled), sl_filled⟩) (c_filled : PySem.W.codeIn K cd_filled "filled" = true) (k_filled : PySem.W.keepIn K (.ref f_filled) = true)
    (a_is_beginning : PySem.W.nsIn K mainGlobals "is_beginning" = some (some (.ref f_is_beginning))) (l_is_beginning : K.lookup f_is_beginning = some ⟨oc_is_beginning, od_is_beginning, .func (PySem.W.fnOf "is_beginning" "is_beginning" (defArgs s_is_beginning) (defBody s_is_beginning) (defScope s_is_beginning) .none kV_is_beginning dc_is_beginning pm_is_beginning an_is_beginning cd_is_beginning ct_is_beginning), sl_is_beginning⟩) (c_is_beginning : PySem.W.codeIn K cd_is_beginning "is_beginning" = true) (k_is_beginning : PySem.W.keepIn K (.ref f_is_beginning) = true)
    (a_least_from : PySem.W.nsIn K mainGlobals "least_from" = some (some (.ref f_least_from))) (l_least_from : K.lookup f_least_from = some ⟨oc_least_from, od_least_from, .func (PySem.W.fnOf "least_from" "least_from" (defArgs s_least_from) (defBody s_least_from) (defScope s_least_from) .none kV_least_from dc_least_from pm_least_from an_least_from cd_least_from ct_least_from), sl_least_from⟩) (c_least_from : PySem.W.codeIn K cd_least_from "least_from" = true) (k_least_from : PySem.W.keepIn K (.ref f_least_from) = true)
    (a_least_beginning : PySem.W.nsIn K mainGlobals "least_beginning" = some (some (.ref f_least_beginning))) (l_least_beginning : K.lookup f_least_beginning = some ⟨oc_least_beginning, od_least_beginning, .func (PySem.W.fnOf "least_beginning" "least_beginning" (defArgs s_least_beginning) (defBody s_least_beginning) (defScope s_least_beginning) .none kV_least_beginning dc_least_beginning pm_least_beginning an_least_beginning cd_least_beginning ct_least_beginning), sl_least_beginning⟩) (c_least_beginning : PySem.W.codeIn K cd_least_beginning "least_beginning" = true) (k_least_beginning : PySem.W.keepIn K (.ref f_least_beginning) = true)
    (a_next_least : PySem.W.nsIn K mainGlobals "next_least" = some (some (.ref f_next_least))) (l_next_least : K.lookup f_next_least = some ⟨oc_next_least, od_next_least, .func (PySem.W.fnOf "next_least" "next_least" (defArgs s_next_least) (defBody s_next_least) (defScope s_next_least) .none kV_next_least dc_next_least pm_next_least an_next_least cd_next_least ct_next_least), sl_next_least⟩) (c_next_least : PySem.W.codeIn K cd_next_least "next_least" = true) (k_next_least : PySem.W.keepIn K (.ref f_next_least) = true)
    (a_last_least : PySem.W.nsIn K mainGlobals "last_least" = some (some (.ref f_last_least))) (l_last_least : K.lookup f_last_least = some ⟨oc_last_least, od_last_least, .func (PySem.W.fnOf "last_least" "last_least" (defArgs s_last_least) (defBody s_last_least) (defScope s_last_least) .none kV_last_least dc_last_least pm_last_least an_last_least cd_last_least ct_last_least), sl_last_least⟩) (c_last_least : PySem.W.codeIn K cd_last_least "last_least" = true) (k_last_least : PySem.W.keepIn K (.ref f_last_least) = true)
    (a_rests : PySem.W.nsIn K mainGlobals "rests" = some (some (.ref f_rests))) (l_rests : K.lookup f_rests = some ⟨oc_rests, od_rests, .func (PySem.W.fnOf "rests" "rests" (defArgs s_rests) (defBody s_rests) (defScope s_rests) .none kV_rests dc_rests pm_rests an_rests cd_rests ct_rests), sl_rests⟩) (c_rests : PySem.W.codeIn K cd_rests "rests" = true) (k_rests : PySem.W.keepIn K (.ref f_rests) = true)
    (a_count_above : PySem.W.nsIn K mainGlobals "count_above" = some (some (.ref f_count_above))) (l_count_above : K.lookup f_count_above = some ⟨oc_count_above, od_count_above, .func (PySem.W.fnOf "count_above" "count_above" (defArgs s_count_above) (defBody s_count_above) (defScope s_count_above) .none kV_count_above dc_count_above pm_count_above an_count_above cd_count_above ct_count_above), sl_count_above⟩) (c_count_above : PySem.W.codeIn K cd_count_above "count_above" = true) (k_count_above : PySem.W.keepIn K (.ref f_count_above) = true)
    (a_up_to : PySem.W.nsIn K mainGlobals "up_to" = some (some (.ref f_up_to))) (l_up_to : K.lookup f_up_to = some ⟨oc_up_to, od_up_to, .func (PySem.W.fnOf "up_to" "up_to" (defArgs s_up_to) (defBody s_up_to) (defScope s_up_to) .none kV_up_to dc_up_to pm_up_to an_up_to cd_up_to ct_up_to), sl_up_to⟩) (c_up_to : PySem.W.codeIn K cd_up_to "up_to" = true) (k_up_to : PySem.W.keepIn K (.ref f_up_to) = true)
    (a_first_word_above : PySem.W.nsIn K mainGlobals "first_word_above" = some (some (.ref f_first_word_above))) (l_first_word_above : K.lookup f_first_word_above = some ⟨oc_first_word_above, od_first_word_above, .func (PySem.W.fnOf "first_word_above" "first_word_above" (defArgs s_first_word_above) (defBody s_first_word_above) (defScope s_first_word_above) .none kV_first_word_above dc_first_word_above pm_first_word_above an_first_word_above cd_first_word_above ct_first_word_above), sl_first_word_above⟩) (c_first_word_above : PySem.W.codeIn K cd_first_word_above "first_word_above" = true) (k_first_word_above : PySem.W.keepIn K (.ref f_first_word_above) = true)
    (a_looked_first : PySem.W.nsIn K mainGlobals "looked_first" = some (some (.ref f_looked_first))) (l_looked_first : K.lookup f_looked_first = some ⟨oc_looked_first, od_looked_first, .func (PySem.W.fnOf "looked_first" "looked_first" (defArgs s_looked_first) (defBody s_looked_first) (defScope s_looked_first) .none kV_looked_first dc_looked_first pm_looked_first an_looked_first cd_looked_first ct_looked_first), sl_looked_first⟩) (c_looked_first : PySem.W.codeIn K cd_looked_first "looked_first" = true) (k_looked_first : PySem.W.keepIn K (.ref f_looked_first) = true)
    (a_count_below : PySem.W.nsIn K mainGlobals "count_below" = some (some (.ref f_count_below))) (l_count_below : K.lookup f_count_below = some ⟨oc_count_below, od_count_below, .func (PySem.W.fnOf "count_below" "count_below" (defArgs s_count_below) (defBody s_count_below) (defScope s_count_below) .none kV_count_below dc_count_below pm_count_below an_count_below cd_count_below ct_count_below), sl_count_below⟩) (c_count_below : PySem.W.codeIn K cd_count_below "count_below" = true) (k_count_below : PySem.W.keepIn K (.ref f_count_below) = true)
    (a_begin_place : PySem.W.nsIn K mainGlobals "begin_place" = some (some (.ref f_begin_place))) (l_begin_place : K.lookup f_begin_place = some ⟨oc_begin_place, od_begin_place, .func (PySem.W.fnOf "begin_place" "begin_place" (defArgs s_begin_place) (defBody s_begin_place) (defScope s_begin_place) .none kV_begin_place dc_begin_place pm_begin_place an_begin_place cd_begin_place ct_begin_place), sl_begin_place⟩) (c_begin_place : PySem.W.codeIn K cd_begin_place "begin_place" = true) (k_begin_place : PySem.W.keepIn K (.ref f_begin_place) = true)
    (a_ring_size : PySem.W.nsIn K mainGlobals "ring_size" = some (some (.ref f_ring_size))) (l_ring_size : K.lookup f_ring_size = some ⟨oc_ring_size, od_ring_size, .func (PySem.W.fnOf "ring_size" "ring_size" (defArgs s_ring_size) (defBody s_ring_size) (defScope s_ring_size) .none kV_ring_size dc_ring_size pm_ring_size an_ring_size cd_ring_size ct_ring_size), sl_ring_size⟩) (c_ring_size : PySem.W.codeIn K cd_ring_size "ring_size" = true) (k_ring_size : PySem.W.keepIn K (.ref f_ring_size) = true)
    (a_put_together : PySem.W.nsIn K mainGlobals "put_together" = some (some (.ref f_put_together))) (l_put_together : K.lookup f_put_together = some ⟨oc_put_together, od_put_together, .func (PySem.W.fnOf "put_together" "put_together" (defArgs s_put_together) (defBody s_put_together) (defScope s_put_together) .none kV_put_together dc_put_together pm_put_together an_put_together cd_put_together ct_put_together), sl_put_together⟩) (c_put_together : PySem.W.codeIn K cd_put_together "put_together" = true) (k_put_together : PySem.W.keepIn K (.ref f_put_together) = true)
    (a_piece_at : PySem.W.nsIn K mainGlobals "piece_at" = some (some (.ref f_piece_at))) (l_piece_at : K.lookup f_piece_at = some ⟨oc_piece_at, od_piece_at, .func (PySem.W.fnOf "piece_at" "piece_at" (defArgs s_piece_at) (defBody s_piece_at) (defScope s_piece_at) .none kV_piece_at dc_piece_at pm_piece_at an_piece_at cd_piece_at ct_piece_at), sl_piece_at⟩) (c_piece_at : PySem.W.codeIn K cd_piece_at "piece_at" = true) (k_piece_at : PySem.W.keepIn K (.ref f_piece_at) = true)
    (a_letter_at : PySem.W.nsIn K mainGlobals "letter_at" = some (some (.ref f_letter_at))) (l_letter_at : K.lookup f_letter_at = some ⟨oc_letter_at, od_letter_at, .func (PySem.W.fnOf "letter_at" "letter_at" (defArgs s_letter_at) (defBody s_letter_at) (defScope s_letter_at) .none kV_letter_at dc_letter_at pm_letter_at an_letter_at cd_letter_at ct_letter_at), sl_letter_at⟩) (c_letter_at : PySem.W.codeIn K cd_letter_at "letter_at" = true) (k_letter_at : PySem.W.keepIn K (.ref f_letter_at) = true)
    (a_looked_for : PySem.W.nsIn K mainGlobals "looked_for" = some (some (.ref f_looked_for))) (l_looked_for : K.lookup f_looked_for = some ⟨oc_looked_for, od_looked_for, .func (PySem.W.fnOf "looked_for" "looked_for" (defArgs s_looked_for) (defBody s_looked_for) (defScope s_looked_for) .none kV_looked_for dc_looked_for pm_looked_for an_looked_for cd_looked_for ct_looked_for), sl_looked_for⟩) (c_looked_for : PySem.W.codeIn K cd_looked_for "looked_for" = true) (k_looked_for : PySem.W.keepIn K (.ref f_looked_for) = true)
    (a_place_of : PySem.W.nsIn K mainGlobals "place_of" = some (some (.ref f_place_of))) (l_place_of : K.lookup f_place_of = some ⟨oc_place_of, od_place_of, .func (PySem.W.fnOf "place_of" "place_of" (defArgs s_place_of) (defBody s_place_of) (defScope s_place_of) .none kV_place_of dc_place_of pm_place_of an_place_of cd_place_of ct_place_of), sl_place_of⟩) (c_place_of : PySem.W.codeIn K cd_place_of "place_of" = true) (k_place_of : PySem.W.keepIn K (.ref f_place_of) = true)
    (a_whole_ring : PySem.W.nsIn K mainGlobals "whole_ring" = some (some (.ref f_whole_ring))) (l_whole_ring : K.lookup f_whole_ring = some ⟨oc_whole_ring, od_whole_ring, .func (PySem.W.fnOf "whole_ring" "whole_ring" (defArgs s_whole_ring) (defBody s_whole_ring) (defScope s_whole_ring) .none kV_whole_ring dc_whole_ring pm_whole_ring an_whole_ring cd_whole_ring ct_whole_ring), sl_whole_ring⟩) (c_whole_ring : PySem.W.codeIn K cd_whole_ring "whole_ring" = true) (k_whole_ring : PySem.W.keepIn K (.ref f_whole_ring) = true)
    (a__law_mixed : PySem.W.nsIn K mainGlobals "_law_mixed" = some (some (.ref f__law_mixed))) (l__law_mixed : K.lookup f__law_mixed = some ⟨oc__law_mixed, od__law_mixed, .func (PySem.W.fnOf "_law_mixed" "_law_mixed" (defArgs s__law_mixed) (defBody s__law_mixed) (defScope s__law_mixed) .none kV__law_mixed dc__law_mixed pm__law_mixed an__law_mixed cd__law_mixed ct__law_mixed), sl__law_mixed⟩) (c__law_mixed : PySem.W.codeIn K cd__law_mixed "_law_mixed" = true) (k__law_mixed : PySem.W.keepIn K (.ref f__law_mixed) = true)
    (a__law_kinds : PySem.W.nsIn K mainGlobals "_law_kinds" = some (some (.ref f__law_kinds))) (l__law_kinds : K.lookup f__law_kinds = some ⟨oc__law_kinds, od__law_kinds, .func (PySem.W.fnOf "_law_kinds" "_law_kinds" (defArgs s__law_kinds) (defBody s__law_kinds) (defScope s__law_kinds) .none kV__law_kinds dc__law_kinds pm__law_kinds an__law_kinds cd__law_kinds ct__law_kinds), sl__law_kinds⟩) (c__law_kinds : PySem.W.codeIn K cd__law_kinds "_law_kinds" = true) (k__law_kinds : PySem.W.keepIn K (.ref f__law_kinds) = true)
    (a__law_refused : PySem.W.nsIn K mainGlobals "_law_refused" = some (some (.ref f__law_refused))) (l__law_refused : K.lookup f__law_refused = some ⟨oc__law_refused, od__law_refused, .func (PySem.W.fnOf "_law_refused" "_law_refused" (defArgs s__law_refused) (defBody s__law_refused) (defScope s__law_refused) .none kV__law_refused dc__law_refused pm__law_refused an__law_refused cd__law_refused ct__law_refused), sl__law_refused⟩) (c__law_refused : PySem.W.codeIn K cd__law_refused "_law_refused" = true) (k__law_refused : PySem.W.keepIn K (.ref f__law_refused) = true)
    (a__law_words_refused : PySem.W.nsIn K mainGlobals "_law_words_refused" = some (some (.ref f__law_words_refused))) (l__law_words_refused : K.lookup f__law_words_refused = some ⟨oc__law_words_refused, od__law_words_refused, .func (PySem.W.fnOf "_law_words_refused" "_law_words_refused" (defArgs s__law_words_refused) (defBody s__law_words_refused) (defScope s__law_words_refused) .none kV__law_words_refused dc__law_words_refused pm__law_words_refused an__law_words_refused cd__law_words_refused ct__law_words_refused), sl__law_words_refused⟩) (c__law_words_refused : PySem.W.codeIn K cd__law_words_refused "_law_words_refused" = true) (k__law_words_refused : PySem.W.keepIn K (.ref f__law_words_refused) = true)
    (a_law : PySem.W.nsIn K mainGlobals "law" = some (some (.ref f_law))) (l_law : K.lookup f_law = some ⟨oc_law, od_law, .func (PySem.W.fnOf "law" "law" (defArgs s_law) (defBody s_law) (defScope s_law) .none kV_law dc_law pm_law an_law cd_law ct_law), sl_law⟩) (c_law : PySem.W.codeIn K cd_law "law" = true) (k_law : PySem.W.keepIn K (.ref f_law) = true)
    (z_ValueError : PySem.W.nsIn K mainGlobals "ValueError" = some none)
    (z_isinstance : PySem.W.nsIn K mainGlobals "isinstance" = some none)
    (z_len : PySem.W.nsIn K mainGlobals "len" = some none)
    (z_max : PySem.W.nsIn K mainGlobals "max" = some none)
    (z_range : PySem.W.nsIn K mainGlobals "range" = some none)
    (z_reversed : PySem.W.nsIn K mainGlobals "reversed" = some none)
    (z_set : PySem.W.nsIn K mainGlobals "set" = some none)
    (z_sum : PySem.W.nsIn K mainGlobals "sum" = some none)
    (y_BadKinds : PySem.W.nsIn K mainGlobals "BadKinds" = some (some (.ref c_BadKinds)))
    (y_BadWord : PySem.W.nsIn K mainGlobals "BadWord" = some (some (.ref c_BadWord)))
    (y_NoSuch : PySem.W.nsIn K mainGlobals "NoSuch" = some (some (.ref c_NoSuch)))
    (y_TooMany : PySem.W.nsIn K mainGlobals "TooMany" = some (some (.ref c_TooMany)))
    (y_OnceError : PySem.W.nsIn K mainGlobals "OnceError" = some (some (.ref c_OnceError)))
    (e_BadKinds : PySem.W.excIn K c_BadKinds bmVE "ValueError.__new__" = true)
    (e_BadWord : PySem.W.excIn K c_BadWord bmVE "ValueError.__new__" = true)
    (e_NoSuch : PySem.W.excIn K c_NoSuch bmVE "ValueError.__new__" = true)
    (e_TooMany : PySem.W.excIn K c_TooMany bmVE "ValueError.__new__" = true)
    (n1_BadKinds : PySem.W.findIn K (.ref c_BadKinds) "__getattribute__" = some (some (.builtin "BaseException.__getattribute__")))
    (n2_BadKinds : PySem.W.findIn K (.ref c_BadKinds) "__getattr__" = some none)
    (n3_BadKinds : PySem.W.findIn K (.ref c_BadKinds) "__class__" = some (some (.builtin "object.__class__")))
    (n4_BadKinds : PySem.W.specialIn K (.builtin "object.__class__") "__get__" = some (some (.builtin "getset_descriptor.__get__")))
    (n5_BadKinds : PySem.W.takesIn K (.builtin "object.__class__") = some true)
    (n6_BadKinds : PySem.W.mroIn K c_BadKinds (.type "object") = some true)
    (n7_BadKinds : PySem.W.mroIn K c_BadKinds (.type "BaseException") = some true)
    (n8_BadKinds : (PySem.W.clsIn K c_BadKinds).isSome = true)
    (n1_BadWord : PySem.W.findIn K (.ref c_BadWord) "__getattribute__" = some (some (.builtin "BaseException.__getattribute__")))
    (n2_BadWord : PySem.W.findIn K (.ref c_BadWord) "__getattr__" = some none)
    (n3_BadWord : PySem.W.findIn K (.ref c_BadWord) "__class__" = some (some (.builtin "object.__class__")))
    (n4_BadWord : PySem.W.specialIn K (.builtin "object.__class__") "__get__" = some (some (.builtin "getset_descriptor.__get__")))
    (n5_BadWord : PySem.W.takesIn K (.builtin "object.__class__") = some true)
    (n6_BadWord : PySem.W.mroIn K c_BadWord (.type "object") = some true)
    (n7_BadWord : PySem.W.mroIn K c_BadWord (.type "BaseException") = some true)
    (n8_BadWord : (PySem.W.clsIn K c_BadWord).isSome = true)
    (n1_NoSuch : PySem.W.findIn K (.ref c_NoSuch) "__getattribute__" = some (some (.builtin "BaseException.__getattribute__")))
    (n2_NoSuch : PySem.W.findIn K (.ref c_NoSuch) "__getattr__" = some none)
    (n3_NoSuch : PySem.W.findIn K (.ref c_NoSuch) "__class__" = some (some (.builtin "object.__class__")))
    (n4_NoSuch : PySem.W.specialIn K (.builtin "object.__class__") "__get__" = some (some (.builtin "getset_descriptor.__get__")))
    (n5_NoSuch : PySem.W.takesIn K (.builtin "object.__class__") = some true)
    (n6_NoSuch : PySem.W.mroIn K c_NoSuch (.type "object") = some true)
    (n7_NoSuch : PySem.W.mroIn K c_NoSuch (.type "BaseException") = some true)
    (n8_NoSuch : (PySem.W.clsIn K c_NoSuch).isSome = true)
    (n1_TooMany : PySem.W.findIn K (.ref c_TooMany) "__getattribute__" = some (some (.builtin "BaseException.__getattribute__")))
    (n2_TooMany : PySem.W.findIn K (.ref c_TooMany) "__getattr__" = some none)
    (n3_TooMany : PySem.W.findIn K (.ref c_TooMany) "__class__" = some (some (.builtin "object.__class__")))
    (n4_TooMany : PySem.W.specialIn K (.builtin "object.__class__") "__get__" = some (some (.builtin "getset_descriptor.__get__")))
    (n5_TooMany : PySem.W.takesIn K (.builtin "object.__class__") = some true)
    (n6_TooMany : PySem.W.mroIn K c_TooMany (.type "object") = some true)
    (n7_TooMany : PySem.W.mroIn K c_TooMany (.type "BaseException") = some true)
    (n8_TooMany : (PySem.W.clsIn K c_TooMany).isSome = true)
    (g_LETTERS : PySem.W.nsIn K mainGlobals "LETTERS" = some (some u_LETTERS)) (r_LETTERS : RelV (T [97, 98, 99, 100, 101, 102]) u_LETTERS)
    (g_LONGEST : PySem.W.nsIn K mainGlobals "LONGEST" = some (some u_LONGEST)) (r_LONGEST : RelV (.int 24) u_LONGEST)
    (g_MOST_OF_A_PIECE : PySem.W.nsIn K mainGlobals "MOST_OF_A_PIECE" = some (some u_MOST_OF_A_PIECE)) (r_MOST_OF_A_PIECE : RelV (.int 200) u_MOST_OF_A_PIECE)
    (g_MOST_WORDS : PySem.W.nsIn K mainGlobals "MOST_WORDS" = some (some u_MOST_WORDS)) (r_MOST_WORDS : RelV (.int 4096) u_MOST_WORDS)
    (q_ko : PySem.W.exmOne K (.ref c_BadKinds) (.ref c_OnceError) = some true)
    (q_kv : PySem.W.kitOne K (.ref c_BadKinds) (.type "ValueError") = some true)
    (q_kk : PySem.W.kitOne K (.ref c_BadKinds) (.ref c_BadKinds) = some true)
    (q_kw : PySem.W.kitOne K (.ref c_BadKinds) (.ref c_BadWord) = some false)
    (q_ks : PySem.W.kitOne K (.ref c_BadKinds) (.ref c_NoSuch) = some false)
    (q_km : PySem.W.kitOne K (.ref c_BadKinds) (.ref c_TooMany) = some false)
    (q_wo : PySem.W.exmOne K (.ref c_BadWord) (.ref c_OnceError) = some true)
    (q_wv : PySem.W.kitOne K (.ref c_BadWord) (.type "ValueError") = some true)
    (q_wk : PySem.W.kitOne K (.ref c_BadWord) (.ref c_BadKinds) = some false)
    (q_ww : PySem.W.kitOne K (.ref c_BadWord) (.ref c_BadWord) = some true)
    (q_ws : PySem.W.kitOne K (.ref c_BadWord) (.ref c_NoSuch) = some false)
    (q_wm : PySem.W.kitOne K (.ref c_BadWord) (.ref c_TooMany) = some false)
    (q_so : PySem.W.exmOne K (.ref c_NoSuch) (.ref c_OnceError) = some true)
    (q_sv : PySem.W.kitOne K (.ref c_NoSuch) (.type "ValueError") = some true)
    (q_sk : PySem.W.kitOne K (.ref c_NoSuch) (.ref c_BadKinds) = some false)
    (q_sw : PySem.W.kitOne K (.ref c_NoSuch) (.ref c_BadWord) = some false)
    (q_ss : PySem.W.kitOne K (.ref c_NoSuch) (.ref c_NoSuch) = some true)
    (q_sm : PySem.W.kitOne K (.ref c_NoSuch) (.ref c_TooMany) = some false)
    (q_mo : PySem.W.exmOne K (.ref c_TooMany) (.ref c_OnceError) = some true)
    (q_mv : PySem.W.kitOne K (.ref c_TooMany) (.type "ValueError") = some true)
    (q_mk : PySem.W.kitOne K (.ref c_TooMany) (.ref c_BadKinds) = some false)
    (q_mw : PySem.W.kitOne K (.ref c_TooMany) (.ref c_BadWord) = some false)
    (q_ms : PySem.W.kitOne K (.ref c_TooMany) (.ref c_NoSuch) = some false)
    (q_mm : PySem.W.kitOne K (.ref c_TooMany) (.ref c_TooMany) = some true) :
    ∃ fd : FuncData, (∀ (s : Shared) (v : Value), BindsTo s fd ⟨[v], []⟩ [("script", v)]) ∧ ∀ base : Heap, K.In base → base.Ns mainGlobals mg → FnOk l.prog w K mg base (CX1 l.prog w) 13 fa fd ["script"] (spLaw K) := by
  have e := hfa.symm.trans (PySem.W.mg_of X G a_law)
  cases e
  have tt : Txt K mg ⟨c_BadKinds, c_BadWord, c_NoSuch, c_TooMany, c_OnceError, u_LETTERS, u_LONGEST, u_MOST_OF_A_PIECE, u_MOST_WORDS⟩ := ⟨PySem.W.mg_none_of X G z_ValueError, PySem.W.mg_none_of X G z_isinstance, PySem.W.mg_none_of X G z_len, PySem.W.mg_none_of X G z_max, PySem.W.mg_none_of X G z_range, PySem.W.mg_none_of X G z_reversed, PySem.W.mg_none_of X G z_set, PySem.W.mg_none_of X G z_sum, PySem.W.mg_of X G y_BadKinds, PySem.W.mg_of X G y_BadWord, PySem.W.mg_of X G y_NoSuch, PySem.W.mg_of X G y_TooMany, PySem.W.mg_of X G y_OnceError, ⟨PySem.W.mg_of X G y_BadKinds, e_BadKinds⟩, ⟨PySem.W.mg_of X G y_BadWord, e_BadWord⟩, ⟨PySem.W.mg_of X G y_NoSuch, e_NoSuch⟩, ⟨PySem.W.mg_of X G y_TooMany, e_TooMany⟩, ⟨n1_BadKinds, n2_BadKinds, n3_BadKinds, n4_BadKinds, n5_BadKinds, n6_BadKinds, n7_BadKinds, n8_BadKinds⟩, ⟨n1_BadWord, n2_BadWord, n3_BadWord, n4_BadWord, n5_BadWord, n6_BadWord, n7_BadWord, n8_BadWord⟩, ⟨n1_NoSuch, n2_NoSuch, n3_NoSuch, n4_NoSuch, n5_NoSuch, n6_NoSuch, n7_NoSuch, n8_NoSuch⟩, ⟨n1_TooMany, n2_TooMany, n3_TooMany, n4_TooMany, n5_TooMany, n6_TooMany, n7_TooMany, n8_TooMany⟩, PySem.W.mg_of X G g_LETTERS, r_LETTERS, PySem.W.mg_of X G g_LONGEST, r_LONGEST, PySem.W.mg_of X G g_MOST_OF_A_PIECE, r_MOST_OF_A_PIECE, PySem.W.mg_of X G g_MOST_WORDS, r_MOST_WORDS, q_ko, q_kv, q_kk, q_kw, q_ks, q_km, q_wo, q_wv, q_wk, q_ww, q_ws, q_wm, q_so, q_sv, q_sk, q_sw, q_ss, q_sm, q_mo, q_mv, q_mk, q_mw, q_ms, q_mm⟩
  have F_looked_kinds := fun_mk (st := s_looked_kinds) l_looked_kinds c_looked_kinds k_looked_kinds
  have b_looked_kinds := F_looked_kinds.binds (ps := ["kinds"]) fun _ _ _ _ _ _ us hl => L2.on1 (C := fun us => bindArgs _ ⟨us, []⟩ = pure (List.zip _ us)) hl fun _ => rfl
  have F_looked_length := fun_mk (st := s_looked_length) l_looked_length c_looked_length k_looked_length
  have b_looked_length := F_looked_length.binds (ps := ["length", "kinds"]) fun _ _ _ _ _ _ us hl => L2.on2 (C := fun us => bindArgs _ ⟨us, []⟩ = pure (List.zip _ us)) hl fun _ _ => rfl
  have F_letters := fun_mk (st := s_letters) l_letters c_letters k_letters
  have b_letters := F_letters.binds (ps := ["kinds"]) fun _ _ _ _ _ _ us hl => L2.on1 (C := fun us => bindArgs _ ⟨us, []⟩ = pure (List.zip _ us)) hl fun _ => rfl
  have F_looked := fun_mk (st := s_looked) l_looked c_looked k_looked
  have b_looked := F_looked.binds (ps := ["word", "kinds"]) fun _ _ _ _ _ _ us hl => L2.on2 (C := fun us => bindArgs _ ⟨us, []⟩ = pure (List.zip _ us)) hl fun _ _ => rfl
  have F_word_total := fun_mk (st := s_word_total) l_word_total c_word_total k_word_total
  have b_word_total := F_word_total.binds (ps := ["length", "kinds"]) fun _ _ _ _ _ _ us hl => L2.on2 (C := fun us => bindArgs _ ⟨us, []⟩ = pure (List.zip _ us)) hl fun _ _ => rfl
  have F_spelled := fun_mk (st := s_spelled) l_spelled c_spelled k_spelled
  have b_spelled := F_spelled.binds (ps := ["number", "length", "kinds"]) fun _ _ _ _ _ _ us hl => L2.on3 (C := fun us => bindArgs _ ⟨us, []⟩ = pure (List.zip _ us)) hl fun _ _ _ => rfl
  have F_turned := fun_mk (st := s_turned) l_turned c_turned k_turned
  have b_turned := F_turned.binds (ps := ["text", "by"]) fun _ _ _ _ _ _ us hl => L2.on2 (C := fun us => bindArgs _ ⟨us, []⟩ = pure (List.zip _ us)) hl fun _ _ => rfl
  have F_turn_by := fun_mk (st := s_turn_by) l_turn_by c_turn_by k_turn_by
  have b_turn_by := F_turn_by.binds (ps := ["word"]) fun _ _ _ _ _ _ us hl => L2.on1 (C := fun us => bindArgs _ ⟨us, []⟩ = pure (List.zip _ us)) hl fun _ => rfl
  have F_least_turn := fun_mk (st := s_least_turn) l_least_turn c_least_turn k_least_turn
  have b_least_turn := F_least_turn.binds (ps := ["word"]) fun _ _ _ _ _ _ us hl => L2.on1 (C := fun us => bindArgs _ ⟨us, []⟩ = pure (List.zip _ us)) hl fun _ => rfl
  have F_times_of := fun_mk (st := s_times_of) l_times_of c_times_of k_times_of
  have b_times_of := F_times_of.binds (ps := ["word"]) fun _ _ _ _ _ _ us hl => L2.on1 (C := fun us => bindArgs _ ⟨us, []⟩ = pure (List.zip _ us)) hl fun _ => rfl
  have F_root := fun_mk (st := s_root) l_root c_root k_root
  have b_root := F_root.binds (ps := ["word"]) fun _ _ _ _ _ _ us hl => L2.on1 (C := fun us => bindArgs _ ⟨us, []⟩ = pure (List.zip _ us)) hl fun _ => rfl
  have F_is_least := fun_mk (st := s_is_least) l_is_least c_is_least k_is_least
  have b_is_least := F_is_least.binds (ps := ["word"]) fun _ _ _ _ _ _ us hl => L2.on1 (C := fun us => bindArgs _ ⟨us, []⟩ = pure (List.zip _ us)) hl fun _ => rfl
  have F_filled := fun_mk (st := s_filled) l_filled c_filled k_filled
  have b_filled := F_filled.binds (ps := ["text", "length", "kinds"]) fun _ _ _ _ _ _ us hl => L2.on3 (C := fun us => bindArgs _ ⟨us, []⟩ = pure (List.zip _ us)) hl fun _ _ _ => rfl
  have F_is_beginning := fun_mk (st := s_is_beginning) l_is_beginning c_is_beginning k_is_beginning
  have b_is_beginning := F_is_beginning.binds (ps := ["text", "length", "kinds"]) fun _ _ _ _ _ _ us hl => L2.on3 (C := fun us => bindArgs _ ⟨us, []⟩ = pure (List.zip _ us)) hl fun _ _ _ => rfl
  have F_least_from := fun_mk (st := s_least_from) l_least_from c_least_from k_least_from
  have b_least_from := F_least_from.binds (ps := ["beginning", "length", "kinds"]) fun _ _ _ _ _ _ us hl => L2.on3 (C := fun us => bindArgs _ ⟨us, []⟩ = pure (List.zip _ us)) hl fun _ _ _ => rfl
  have F_least_beginning := fun_mk (st := s_least_beginning) l_least_beginning c_least_beginning k_least_beginning
  have b_least_beginning := F_least_beginning.binds (ps := ["text", "length", "kinds"]) fun _ _ _ _ _ _ us hl => L2.on3 (C := fun us => bindArgs _ ⟨us, []⟩ = pure (List.zip _ us)) hl fun _ _ _ => rfl
  have F_next_least := fun_mk (st := s_next_least) l_next_least c_next_least k_next_least
  have b_next_least := F_next_least.binds (ps := ["word", "kinds"]) fun _ _ _ _ _ _ us hl => L2.on2 (C := fun us => bindArgs _ ⟨us, []⟩ = pure (List.zip _ us)) hl fun _ _ => rfl
  have F_last_least := fun_mk (st := s_last_least) l_last_least c_last_least k_last_least
  have b_last_least := F_last_least.binds (ps := ["word", "kinds"]) fun _ _ _ _ _ _ us hl => L2.on2 (C := fun us => bindArgs _ ⟨us, []⟩ = pure (List.zip _ us)) hl fun _ _ => rfl
  have F_rests := fun_mk (st := s_rests) l_rests c_rests k_rests
  have b_rests := F_rests.binds (ps := ["greater"]) fun _ _ _ _ _ _ us hl => L2.on1 (C := fun us => bindArgs _ ⟨us, []⟩ = pure (List.zip _ us)) hl fun _ => rfl
  have F_count_above := fun_mk (st := s_count_above) l_count_above c_count_above k_count_above
  have b_count_above := F_count_above.binds (ps := ["word", "kinds"]) fun _ _ _ _ _ _ us hl => L2.on2 (C := fun us => bindArgs _ ⟨us, []⟩ = pure (List.zip _ us)) hl fun _ _ => rfl
  have F_up_to := fun_mk (st := s_up_to) l_up_to c_up_to k_up_to
  have b_up_to := F_up_to.binds (ps := ["word", "kinds"]) fun _ _ _ _ _ _ us hl => L2.on2 (C := fun us => bindArgs _ ⟨us, []⟩ = pure (List.zip _ us)) hl fun _ _ => rfl
  have F_first_word_above := fun_mk (st := s_first_word_above) l_first_word_above c_first_word_above k_first_word_above
  have b_first_word_above := F_first_word_above.binds (ps := ["length", "kinds", "number", "counted_up_to"]) fun _ _ _ _ _ _ us hl => L2.on4 (C := fun us => bindArgs _ ⟨us, []⟩ = pure (List.zip _ us)) hl fun _ _ _ _ => rfl
  have F_looked_first := fun_mk (st := s_looked_first) l_looked_first c_looked_first k_looked_first
  have b_looked_first := F_looked_first.binds (ps := ["first", "kinds"]) fun _ _ _ _ _ _ us hl => L2.on2 (C := fun us => bindArgs _ ⟨us, []⟩ = pure (List.zip _ us)) hl fun _ _ => rfl
  have F_count_below := fun_mk (st := s_count_below) l_count_below c_count_below k_count_below
  have b_count_below := F_count_below.binds (ps := ["least", "kinds"]) fun _ _ _ _ _ _ us hl => L2.on2 (C := fun us => bindArgs _ ⟨us, []⟩ = pure (List.zip _ us)) hl fun _ _ => rfl
  have F_begin_place := fun_mk (st := s_begin_place) l_begin_place c_begin_place k_begin_place
  have b_begin_place := F_begin_place.binds (ps := ["first", "kinds", "least"]) fun _ _ _ _ _ _ us hl => L2.on3 (C := fun us => bindArgs _ ⟨us, []⟩ = pure (List.zip _ us)) hl fun _ _ _ => rfl
  have F_ring_size := fun_mk (st := s_ring_size) l_ring_size c_ring_size k_ring_size
  have b_ring_size := F_ring_size.binds (ps := ["first", "kinds"]) fun _ _ _ _ _ _ us hl => L2.on2 (C := fun us => bindArgs _ ⟨us, []⟩ = pure (List.zip _ us)) hl fun _ _ => rfl
  have F_put_together := fun_mk (st := s_put_together) l_put_together c_put_together k_put_together
  have b_put_together := F_put_together.binds (ps := ["first", "kinds", "least", "many"]) fun _ _ _ _ _ _ us hl => L2.on4 (C := fun us => bindArgs _ ⟨us, []⟩ = pure (List.zip _ us)) hl fun _ _ _ _ => rfl
  have F_piece_at := fun_mk (st := s_piece_at) l_piece_at c_piece_at k_piece_at
  have b_piece_at := F_piece_at.binds (ps := ["first", "kinds", "place", "many"]) fun _ _ _ _ _ _ us hl => L2.on4 (C := fun us => bindArgs _ ⟨us, []⟩ = pure (List.zip _ us)) hl fun _ _ _ _ => rfl
  have F_letter_at := fun_mk (st := s_letter_at) l_letter_at c_letter_at k_letter_at
  have b_letter_at := F_letter_at.binds (ps := ["first", "kinds", "place"]) fun _ _ _ _ _ _ us hl => L2.on3 (C := fun us => bindArgs _ ⟨us, []⟩ = pure (List.zip _ us)) hl fun _ _ _ => rfl
  have F_looked_for := fun_mk (st := s_looked_for) l_looked_for c_looked_for k_looked_for
  have b_looked_for := F_looked_for.binds (ps := ["first", "kinds", "word"]) fun _ _ _ _ _ _ us hl => L2.on3 (C := fun us => bindArgs _ ⟨us, []⟩ = pure (List.zip _ us)) hl fun _ _ _ => rfl
  have F_place_of := fun_mk (st := s_place_of) l_place_of c_place_of k_place_of
  have b_place_of := F_place_of.binds (ps := ["first", "kinds", "word"]) fun _ _ _ _ _ _ us hl => L2.on3 (C := fun us => bindArgs _ ⟨us, []⟩ = pure (List.zip _ us)) hl fun _ _ _ => rfl
  have F_whole_ring := fun_mk (st := s_whole_ring) l_whole_ring c_whole_ring k_whole_ring
  have b_whole_ring := F_whole_ring.binds (ps := ["first", "kinds"]) fun _ _ _ _ _ _ us hl => L2.on2 (C := fun us => bindArgs _ ⟨us, []⟩ = pure (List.zip _ us)) hl fun _ _ => rfl
  have F__law_mixed := fun_mk (st := s__law_mixed) l__law_mixed c__law_mixed k__law_mixed
  have b__law_mixed := F__law_mixed.binds (ps := ["cell", "k"]) fun _ _ _ _ _ _ us hl => L2.on2 (C := fun us => bindArgs _ ⟨us, []⟩ = pure (List.zip _ us)) hl fun _ _ => rfl
  have F__law_kinds := fun_mk (st := s__law_kinds) l__law_kinds c__law_kinds k__law_kinds
  have b__law_kinds := F__law_kinds.binds (ps := ["cell"]) fun _ _ _ _ _ _ us hl => L2.on1 (C := fun us => bindArgs _ ⟨us, []⟩ = pure (List.zip _ us)) hl fun _ => rfl
  have F__law_refused := fun_mk (st := s__law_refused) l__law_refused c__law_refused k__law_refused
  have b__law_refused := F__law_refused.binds (ps := ["way", "first", "kinds", "many", "word"]) fun _ _ _ _ _ _ us hl => L2.on5 (C := fun us => bindArgs _ ⟨us, []⟩ = pure (List.zip _ us)) hl fun _ _ _ _ _ => rfl
  have F__law_words_refused := fun_mk (st := s__law_words_refused) l__law_words_refused c__law_words_refused k__law_words_refused
  have b__law_words_refused := F__law_words_refused.binds (ps := ["cell"]) fun _ _ _ _ _ _ us hl => L2.on1 (C := fun us => bindArgs _ ⟨us, []⟩ = pure (List.zip _ us)) hl fun _ => rfl
  have F_law := fun_mk (st := s_law) l_law c_law k_law
  refine ⟨PySem.W.fnOf "law" "law" (defArgs s_law) (defBody s_law) (defScope s_law) .none kV_law dc_law pm_law an_law cd_law ct_law, fun s v => .of_eq rfl, fun base _ _ => ?_⟩
  have C_looked_kinds : Cal l.prog w K mg base (CX1 l.prog w) "looked_kinds" 1 ["kinds"] (spKindsX _) := ⟨⟨_, _, ok_looked_kinds F_looked_kinds tt, PySem.W.mg_of X G a_looked_kinds, F_looked_kinds.kp, b_looked_kinds⟩⟩
  have C_looked_length : Cal l.prog w K mg base (CX1 l.prog w) "looked_length" 2 ["length", "kinds"] (spLenX _) := ⟨⟨_, _, ok_looked_length F_looked_length tt C_looked_kinds, PySem.W.mg_of X G a_looked_length, F_looked_length.kp, b_looked_length⟩⟩
  have C_letters : Cal l.prog w K mg base (CX1 l.prog w) "letters" 2 ["kinds"] (spLettersX _) := ⟨⟨_, _, ok_letters F_letters tt C_looked_kinds, PySem.W.mg_of X G a_letters, F_letters.kp, b_letters⟩⟩
  have C_looked : Cal l.prog w K mg base (CX1 l.prog w) "looked" 3 ["word", "kinds"] (spLookedX _) := ⟨⟨_, _, ok_looked F_looked tt C_looked_length C_letters, PySem.W.mg_of X G a_looked, F_looked.kp, b_looked⟩⟩
  have C_word_total : Cal l.prog w K mg base (CX1 l.prog w) "word_total" 1 ["length", "kinds"] spTotal := ⟨⟨_, _, ok_word_total F_word_total tt, PySem.W.mg_of X G a_word_total, F_word_total.kp, b_word_total⟩⟩
  have C_spelled : Cal l.prog w K mg base (CX1 l.prog w) "spelled" 1 ["number", "length", "kinds"] spSpell := ⟨⟨_, _, ok_spelled F_spelled tt, PySem.W.mg_of X G a_spelled, F_spelled.kp, b_spelled⟩⟩
  have C_turned : Cal l.prog w K mg base (CX1 l.prog w) "turned" 1 ["text", "by"] spTurned := ⟨⟨_, _, ok_turned F_turned tt, PySem.W.mg_of X G a_turned, F_turned.kp, b_turned⟩⟩
  have C_turn_by : Cal l.prog w K mg base (CX1 l.prog w) "turn_by" 2 ["word"] spTurnBy := ⟨⟨_, _, ok_turn_by F_turn_by tt C_turned, PySem.W.mg_of X G a_turn_by, F_turn_by.kp, b_turn_by⟩⟩
  have C_least_turn : Cal l.prog w K mg base (CX1 l.prog w) "least_turn" 3 ["word"] spLeastTurn := ⟨⟨_, _, ok_least_turn F_least_turn tt C_turned C_turn_by, PySem.W.mg_of X G a_least_turn, F_least_turn.kp, b_least_turn⟩⟩
  have C_times_of : Cal l.prog w K mg base (CX1 l.prog w) "times_of" 1 ["word"] spTimes := ⟨⟨_, _, ok_times_of F_times_of tt, PySem.W.mg_of X G a_times_of, F_times_of.kp, b_times_of⟩⟩
  have C_root : Cal l.prog w K mg base (CX1 l.prog w) "root" 2 ["word"] spRoot := ⟨⟨_, _, ok_root F_root tt C_times_of, PySem.W.mg_of X G a_root, F_root.kp, b_root⟩⟩
  have C_is_least : Cal l.prog w K mg base (CX1 l.prog w) "is_least" 3 ["word"] spIsLeast := ⟨⟨_, _, ok_is_least F_is_least tt C_turn_by, PySem.W.mg_of X G a_is_least, F_is_least.kp, b_is_least⟩⟩
  have C_filled : Cal l.prog w K mg base (CX1 l.prog w) "filled" 3 ["text", "length", "kinds"] spFilled := ⟨⟨_, _, ok_filled F_filled tt C_letters, PySem.W.mg_of X G a_filled, F_filled.kp, b_filled⟩⟩
  have C_is_beginning : Cal l.prog w K mg base (CX1 l.prog w) "is_beginning" 4 ["text", "length", "kinds"] spIsBeg := ⟨⟨_, _, ok_is_beginning F_is_beginning tt C_is_least C_filled, PySem.W.mg_of X G a_is_beginning, F_is_beginning.kp, b_is_beginning⟩⟩
  have C_least_from : Cal l.prog w K mg base (CX1 l.prog w) "least_from" 5 ["beginning", "length", "kinds"] spFrom := ⟨⟨_, _, ok_least_from F_least_from tt C_letters C_is_beginning, PySem.W.mg_of X G a_least_from, F_least_from.kp, b_least_from⟩⟩
  have C_least_beginning : Cal l.prog w K mg base (CX1 l.prog w) "least_beginning" 6 ["text", "length", "kinds"] (spLBX _) := ⟨⟨_, _, ok_least_beginning F_least_beginning tt C_looked_length C_looked C_is_beginning C_least_from, PySem.W.mg_of X G a_least_beginning, F_least_beginning.kp, b_least_beginning⟩⟩
  have C_next_least : Cal l.prog w K mg base (CX1 l.prog w) "next_least" 6 ["word", "kinds"] (spNextX _) := ⟨⟨_, _, ok_next_least F_next_least tt C_looked C_letters C_is_beginning C_least_from, PySem.W.mg_of X G a_next_least, F_next_least.kp, b_next_least⟩⟩
  have C_last_least : Cal l.prog w K mg base (CX1 l.prog w) "last_least" 4 ["word", "kinds"] (spLastX _) := ⟨⟨_, _, ok_last_least F_last_least tt C_looked C_is_least C_filled, PySem.W.mg_of X G a_last_least, F_last_least.kp, b_last_least⟩⟩
  have C_rests : Cal l.prog w K mg base (CX1 l.prog w) "rests" 1 ["greater"] spRests := ⟨⟨_, _, ok_rests F_rests tt, PySem.W.mg_of X G a_rests, F_rests.kp, b_rests⟩⟩
  have C_count_above : Cal l.prog w K mg base (CX1 l.prog w) "count_above" 2 ["word", "kinds"] spAbove := ⟨⟨_, _, ok_count_above F_count_above tt C_rests, PySem.W.mg_of X G a_count_above, F_count_above.kp, b_count_above⟩⟩
  have C_up_to : Cal l.prog w K mg base (CX1 l.prog w) "up_to" 5 ["word", "kinds"] (spUpX _) := ⟨⟨_, _, ok_up_to F_up_to tt C_looked C_word_total C_count_above C_last_least, PySem.W.mg_of X G a_up_to, F_up_to.kp, b_up_to⟩⟩
  have C_first_word_above : Cal l.prog w K mg base (CX1 l.prog w) "first_word_above" 8 ["length", "kinds", "number", "counted_up_to"] (spFWA _ _ _ _ _ _) := ⟨⟨_, _, ok_first_word_above F_first_word_above tt C_looked_length C_word_total C_spelled, PySem.W.mg_of X G a_first_word_above, F_first_word_above.kp, b_first_word_above⟩⟩
  have C_looked_first : Cal l.prog w K mg base (CX1 l.prog w) "looked_first" 4 ["first", "kinds"] (spLFirst _) := ⟨⟨_, _, ok_looked_first F_looked_first tt C_looked C_is_least, PySem.W.mg_of X G a_looked_first, F_looked_first.kp, b_looked_first⟩⟩
  have C_count_below : Cal l.prog w K mg base (CX1 l.prog w) "count_below" 6 ["least", "kinds"] spCB := ⟨⟨_, _, ok_count_below F_count_below tt C_up_to C_root, PySem.W.mg_of X G a_count_below, F_count_below.kp, b_count_below⟩⟩
  have C_begin_place : Cal l.prog w K mg base (CX1 l.prog w) "begin_place" 7 ["first", "kinds", "least"] spBP := ⟨⟨_, _, ok_begin_place F_begin_place tt C_count_below, PySem.W.mg_of X G a_begin_place, F_begin_place.kp, b_begin_place⟩⟩
  have C_ring_size : Cal l.prog w K mg base (CX1 l.prog w) "ring_size" 7 ["first", "kinds"] (spRSize _) := ⟨⟨_, _, ok_ring_size F_ring_size tt C_looked_first C_word_total C_count_below, PySem.W.mg_of X G a_ring_size, F_ring_size.kp, b_ring_size⟩⟩
  have C_put_together : Cal l.prog w K mg base (CX1 l.prog w) "put_together" 7 ["first", "kinds", "least", "many"] spPut := ⟨⟨_, _, ok_put_together F_put_together tt C_root C_next_least, PySem.W.mg_of X G a_put_together, F_put_together.kp, b_put_together⟩⟩
  have C_piece_at : Cal l.prog w K mg base (CX1 l.prog w) "piece_at" 9 ["first", "kinds", "place", "many"] (spPiece _) := ⟨⟨_, _, ok_piece_at F_piece_at tt C_ring_size C_count_below C_first_word_above C_up_to C_put_together, PySem.W.mg_of X G a_piece_at, F_piece_at.kp, b_piece_at⟩⟩
  have C_letter_at : Cal l.prog w K mg base (CX1 l.prog w) "letter_at" 10 ["first", "kinds", "place"] (spLetter _) := ⟨⟨_, _, ok_letter_at F_letter_at tt C_piece_at, PySem.W.mg_of X G a_letter_at, F_letter_at.kp, b_letter_at⟩⟩
  have C_looked_for : Cal l.prog w K mg base (CX1 l.prog w) "looked_for" 5 ["first", "kinds", "word"] (spLFor _) := ⟨⟨_, _, ok_looked_for F_looked_for tt C_looked_first C_looked C_least_turn, PySem.W.mg_of X G a_looked_for, F_looked_for.kp, b_looked_for⟩⟩
  have C_place_of : Cal l.prog w K mg base (CX1 l.prog w) "place_of" 8 ["first", "kinds", "word"] (spPlace _) := ⟨⟨_, _, ok_place_of F_place_of tt C_looked_for C_ring_size C_letters C_turn_by C_least_turn C_begin_place C_root C_least_beginning, PySem.W.mg_of X G a_place_of, F_place_of.kp, b_place_of⟩⟩
  have C_whole_ring : Cal l.prog w K mg base (CX1 l.prog w) "whole_ring" 8 ["first", "kinds"] (spWhole _) := ⟨⟨_, _, ok_whole_ring F_whole_ring tt C_ring_size C_put_together, PySem.W.mg_of X G a_whole_ring, F_whole_ring.kp, b_whole_ring⟩⟩
  have C__law_mixed : Cal l.prog w K mg base (CX1 l.prog w) "_law_mixed" 1 ["cell", "k"] spMixed := ⟨⟨_, _, ok__law_mixed F__law_mixed tt, PySem.W.mg_of X G a__law_mixed, F__law_mixed.kp, b__law_mixed⟩⟩
  have C__law_kinds : Cal l.prog w K mg base (CX1 l.prog w) "_law_kinds" 2 ["cell"] spKinds := ⟨⟨_, _, ok__law_kinds F__law_kinds tt C__law_mixed, PySem.W.mg_of X G a__law_kinds, F__law_kinds.kp, b__law_kinds⟩⟩
  have C__law_refused : Cal l.prog w K mg base (CX1 l.prog w) "_law_refused" 11 ["way", "first", "kinds", "many", "word"] spRef63 := ⟨⟨_, _, ok__law_refused F__law_refused tt C_ring_size C_letter_at C_piece_at C_place_of C_whole_ring, PySem.W.mg_of X G a__law_refused, F__law_refused.kp, b__law_refused⟩⟩
  have C__law_words_refused : Cal l.prog w K mg base (CX1 l.prog w) "_law_words_refused" 12 ["cell"] spWRef := ⟨⟨_, _, ok__law_words_refused F__law_words_refused tt C__law_mixed C__law_refused, PySem.W.mg_of X G a__law_words_refused, F__law_words_refused.kp, b__law_words_refused⟩⟩
  exact ok_law F_law tt C__law_mixed C__law_kinds C__law_refused C__law_words_refused C_whole_ring C_ring_size
theorem walk {l : PySem.W.OpenLaw} {q : Program} {loose : List Str} {XP : (Str → Option Value) → Heap → Prop} {YP : World → Heap → Prop} {d : DefRec} {K : Params → PySem.W.Frag} (hn : l.most = some 63) (hdf : d.params.defaults = [])
    (hY : ∀ (w : World) (h : Heap), YP w h → (K w.params).In h)
    (F : ∀ (w : World) (mg : Str → Option Value) (fa : Addr) (h : Heap), (K w.params).In h → h.Ns mainGlobals mg → mg d.name = some (.ref fa) →
      ∃ fd : FuncData, (∀ (s : Shared) (u : Value), BindsTo s fd ⟨[u], []⟩ [("script", u)]) ∧ ∀ base : Heap, (K w.params).In base → base.Ns mainGlobals mg → FnOk l.prog w (K w.params) mg base (CX1 l.prog w) 13 fa fd ["script"] (spLaw (K w.params))) :
    PySem.W.WalkO q loose XP YP l.row.toRowW d [] (fun f vs => PySem.call f vs) :=
  L2.walk_of (n := 63) (k := 13) (x := "script") (CX := fun w => CX1 l.prog w) (sp := fun w => spLaw (K w.params)) hn (by decide) hdf ⟨rfl, by decide, by decide⟩ hY F (fun _ _ a ns hl _ hS => ⟨a, ns, rfl, hS, hl, fun _ => rfl⟩) fun _ _ _ _ _ ⟨_, _, _, _, _, z⟩ => z
end K63
open PySem PySem.W PyProof.Rows
set_option maxRecDepth 100000 in
set_option maxHeartbeats 0 in
theorem PySem.W.Fast.te8127640294386443216 : True := trivial
def PySem.W.Fast.tw6795558565805105923 := PySem.Challenge.pw_onceround_k63_far_refused
theorem PySem.W.Fast.te6795558565805105923 : PySem.Challenge.pw_onceround_k63_far_refused = PySem.W.Fast.tw6795558565805105923 := rfl
theorem PySem.Challenge.cw_onceround_k63_far_refused_holds : PySem.Challenge.rw_onceround_k63_far_refused.Holds := by
  w_on; o_law; k_head; (case hw => w_witness2)
  k_fill
  refine K63.walk (l := PySem.Challenge.rw_onceround_k63_far_refused) rfl rfl (fun w h Y => PySem.W.kIn_of Y) ?F
  case F =>
    intro w mg fa h KX G hmg
    refine' K63.all_mk KX G hmg ?a_looked_kinds ?l_looked_kinds ?c_looked_kinds ?k_looked_kinds ?a_looked_length ?l_looked_length ?c_looked_length ?k_looked_length ?a_letters ?l_letters ?c_letters ?k_letters ?a_looked ?l_looked ?c_looked ?k_looked ?a_word_total ?l_word_total ?c_word_total ?k_word_total ?a_spelled ?l_spelled ?c_spelled ?k_spelled ?a_turned ?l_turned ?c_turned ?k_turned ?a_turn_by ?l_turn_by ?c_turn_by ?k_turn_by ?a_least_turn ?l_least_turn ?c_least_turn ?k_least_turn ?a_times_of ?l_times_of ?c_times_of ?k_times_of ?a_root ?l_root ?c_root ?k_root ?a_is_least ?l_is_least ?c_is_least ?k_is_least ?a_filled ?l_filled ?c_filled ?k_filled ?a_is_beginning ?l_is_beginning ?c_is_beginning ?k_is_beginning ?a_least_from ?l_least_from ?c_least_from ?k_least_from ?a_least_beginning ?l_least_beginning ?c_least_beginning ?k_least_beginning ?a_next_least ?l_next_least ?c_next_least ?k_next_least ?a_last_least ?l_last_least ?c_last_least ?k_last_least ?a_rests ?l_rests ?c_rests ?k_rests ?a_count_above ?l_count_above ?c_count_above ?k_count_above ?a_up_to ?l_up_to ?c_up_to ?k_up_to ?a_first_word_above ?l_first_word_above ?c_first_word_above ?k_first_word_above ?a_looked_first ?l_looked_first ?c_looked_first ?k_looked_first ?a_count_below ?l_count_below ?c_count_below ?k_count_below ?a_begin_place ?l_begin_place ?c_begin_place ?k_begin_place ?a_ring_size ?l_ring_size ?c_ring_size ?k_ring_size ?a_put_together ?l_put_together ?c_put_together ?k_put_together ?a_piece_at ?l_piece_at ?c_piece_at ?k_piece_at ?a_letter_at ?l_letter_at ?c_letter_at ?k_letter_at ?a_looked_for ?l_looked_for ?c_looked_for ?k_looked_for ?a_place_of ?l_place_of ?c_place_of ?k_place_of ?a_whole_ring ?l_whole_ring ?c_whole_ring ?k_whole_ring ?a__law_mixed ?l__law_mixed ?c__law_mixed ?k__law_mixed ?a__law_kinds ?l__law_kinds ?c__law_kinds ?k__law_kinds ?a__law_refused ?l__law_refused ?c__law_refused ?k__law_refused ?a__law_words_refused ?l__law_words_refused ?c__law_words_refused ?k__law_words_refused ?a_law ?l_law ?c_law ?k_law ?z_ValueError ?z_isinstance ?z_len ?z_max ?z_range ?z_reversed ?z_set ?z_sum ?y_BadKinds ?y_BadWord ?y_NoSuch ?y_TooMany ?y_OnceError ?e_BadKinds ?e_BadWord ?e_NoSuch ?e_TooMany ?n1_BadKinds ?n2_BadKinds ?n3_BadKinds ?n4_BadKinds ?n5_BadKinds ?n6_BadKinds ?n7_BadKinds ?n8_BadKinds ?n1_BadWord ?n2_BadWord ?n3_BadWord ?n4_BadWord ?n5_BadWord ?n6_BadWord ?n7_BadWord ?n8_BadWord ?n1_NoSuch ?n2_NoSuch ?n3_NoSuch ?n4_NoSuch ?n5_NoSuch ?n6_NoSuch ?n7_NoSuch ?n8_NoSuch ?n1_TooMany ?n2_TooMany ?n3_TooMany ?n4_TooMany ?n5_TooMany ?n6_TooMany ?n7_TooMany ?n8_TooMany ?g_LETTERS ?r_LETTERS ?g_LONGEST ?r_LONGEST ?g_MOST_OF_A_PIECE ?r_MOST_OF_A_PIECE ?g_MOST_WORDS ?r_MOST_WORDS ?q_ko ?q_kv ?q_kk ?q_kw ?q_ks ?q_km ?q_wo ?q_wv ?q_wk ?q_ww ?q_ws ?q_wm ?q_so ?q_sv ?q_sk ?q_sw ?q_ss ?q_sm ?q_mo ?q_mv ?q_mk ?q_mw ?q_ms ?q_mm
    (case a_looked_kinds => k_is)
    (case l_looked_kinds => k_is)
    (case c_looked_kinds => k_is)
    (case k_looked_kinds => k_is)
    (case a_looked_length => k_is)
    (case l_looked_length => k_is)
    (case c_looked_length => k_is)
    (case k_looked_length => k_is)
    (case a_letters => k_is)
    (case l_letters => k_is)
    (case c_letters => k_is)
    (case k_letters => k_is)
    (case a_looked => k_is)
    (case l_looked => k_is)
    (case c_looked => k_is)
    (case k_looked => k_is)
    (case a_word_total => k_is)
    (case l_word_total => k_is)
    (case c_word_total => k_is)
    (case k_word_total => k_is)
    (case a_spelled => k_is)
    (case l_spelled => k_is)
    (case c_spelled => k_is)
    (case k_spelled => k_is)
    (case a_turned => k_is)
    (case l_turned => k_is)
    (case c_turned => k_is)
    (case k_turned => k_is)
    (case a_turn_by => k_is)
    (case l_turn_by => k_is)
    (case c_turn_by => k_is)
    (case k_turn_by => k_is)
    (case a_least_turn => k_is)
    (case l_least_turn => k_is)
    (case c_least_turn => k_is)
    (case k_least_turn => k_is)
    (case a_times_of => k_is)
    (case l_times_of => k_is)
    (case c_times_of => k_is)
    (case k_times_of => k_is)
    (case a_root => k_is)
    (case l_root => k_is)
    (case c_root => k_is)
    (case k_root => k_is)
    (case a_is_least => k_is)
    (case l_is_least => k_is)
    (case c_is_least => k_is)
    (case k_is_least => k_is)
    (case a_filled => k_is)
    (case l_filled => k_is)
    (case c_filled => k_is)
    (case k_filled => k_is)
    (case a_is_beginning => k_is)
    (case l_is_beginning => k_is)
    (case c_is_beginning => k_is)
    (case k_is_beginning => k_is)
    (case a_least_from => k_is)
    (case l_least_from => k_is)
    (case c_least_from => k_is)
    (case k_least_from => k_is)
    (case a_least_beginning => k_is)
    (case l_least_beginning => k_is)
    (case c_least_beginning => k_is)
    (case k_least_beginning => k_is)
    (case a_next_least => k_is)
    (case l_next_least => k_is)
    (case c_next_least => k_is)
    (case k_next_least => k_is)
    (case a_last_least => k_is)
    (case l_last_least => k_is)
    (case c_last_least => k_is)
    (case k_last_least => k_is)
    (case a_rests => k_is)
    (case l_rests => k_is)
    (case c_rests => k_is)
    (case k_rests => k_is)
    (case a_count_above => k_is)
    (case l_count_above => k_is)
    (case c_count_above => k_is)
    (case k_count_above => k_is)
    (case a_up_to => k_is)
    (case l_up_to => k_is)
    (case c_up_to => k_is)
    (case k_up_to => k_is)
    (case a_first_word_above => k_is)
    (case l_first_word_above => k_is)
    (case c_first_word_above => k_is)
    (case k_first_word_above => k_is)
    (case a_looked_first => k_is)
    (case l_looked_first => k_is)
    (case c_looked_first => k_is)
    (case k_looked_first => k_is)
    (case a_count_below => k_is)
    (case l_count_below => k_is)
    (case c_count_below => k_is)
    (case k_count_below => k_is)
    (case a_begin_place => k_is)
    (case l_begin_place => k_is)
    (case c_begin_place => k_is)
    (case k_begin_place => k_is)
    (case a_ring_size => k_is)
    (case l_ring_size => k_is)
    (case c_ring_size => k_is)
    (case k_ring_size => k_is)
    (case a_put_together => k_is)
    (case l_put_together => k_is)
    (case c_put_together => k_is)
    (case k_put_together => k_is)
    (case a_piece_at => k_is)
    (case l_piece_at => k_is)
    (case c_piece_at => k_is)
    (case k_piece_at => k_is)
    (case a_letter_at => k_is)
    (case l_letter_at => k_is)
    (case c_letter_at => k_is)
    (case k_letter_at => k_is)
    (case a_looked_for => k_is)
    (case l_looked_for => k_is)
    (case c_looked_for => k_is)
    (case k_looked_for => k_is)
    (case a_place_of => k_is)
    (case l_place_of => k_is)
    (case c_place_of => k_is)
    (case k_place_of => k_is)
    (case a_whole_ring => k_is)
    (case l_whole_ring => k_is)
    (case c_whole_ring => k_is)
    (case k_whole_ring => k_is)
    (case a__law_mixed => k_is)
    (case l__law_mixed => k_is)
    (case c__law_mixed => k_is)
    (case k__law_mixed => k_is)
    (case a__law_kinds => k_is)
    (case l__law_kinds => k_is)
    (case c__law_kinds => k_is)
    (case k__law_kinds => k_is)
    (case a__law_refused => k_is)
    (case l__law_refused => k_is)
    (case c__law_refused => k_is)
    (case k__law_refused => k_is)
    (case a__law_words_refused => k_is)
    (case l__law_words_refused => k_is)
    (case c__law_words_refused => k_is)
    (case k__law_words_refused => k_is)
    (case a_law => k_is)
    (case l_law => k_is)
    (case c_law => k_is)
    (case k_law => k_is)
    (case z_ValueError => k_is)
    (case z_isinstance => k_is)
    (case z_len => k_is)
    (case z_max => k_is)
    (case z_range => k_is)
    (case z_reversed => k_is)
    (case z_set => k_is)
    (case z_sum => k_is)
    (case y_BadKinds => k_is)
    (case y_BadWord => k_is)
    (case y_NoSuch => k_is)
    (case y_TooMany => k_is)
    (case y_OnceError => k_is)
    (case e_BadKinds => kernel_rfl)
    (case e_BadWord => kernel_rfl)
    (case e_NoSuch => kernel_rfl)
    (case e_TooMany => kernel_rfl)
    (case n1_BadKinds => k_is)
    (case n2_BadKinds => k_is)
    (case n3_BadKinds => k_is)
    (case n4_BadKinds => k_is)
    (case n5_BadKinds => k_is)
    (case n6_BadKinds => k_is)
    (case n7_BadKinds => k_is)
    (case n8_BadKinds => kernel_rfl)
    (case n1_BadWord => k_is)
    (case n2_BadWord => k_is)
    (case n3_BadWord => k_is)
    (case n4_BadWord => k_is)
    (case n5_BadWord => k_is)
    (case n6_BadWord => k_is)
    (case n7_BadWord => k_is)
    (case n8_BadWord => kernel_rfl)
    (case n1_NoSuch => k_is)
    (case n2_NoSuch => k_is)
    (case n3_NoSuch => k_is)
    (case n4_NoSuch => k_is)
    (case n5_NoSuch => k_is)
    (case n6_NoSuch => k_is)
    (case n7_NoSuch => k_is)
    (case n8_NoSuch => kernel_rfl)
    (case n1_TooMany => k_is)
    (case n2_TooMany => k_is)
    (case n3_TooMany => k_is)
    (case n4_TooMany => k_is)
    (case n5_TooMany => k_is)
    (case n6_TooMany => k_is)
    (case n7_TooMany => k_is)
    (case n8_TooMany => kernel_rfl)
    (case g_LETTERS => k_is)
    (case r_LETTERS => exact ⟨_, rfl⟩)
    (case g_LONGEST => k_is)
    (case r_LONGEST => exact ⟨_, rfl⟩)
    (case g_MOST_OF_A_PIECE => k_is)
    (case r_MOST_OF_A_PIECE => exact ⟨_, rfl⟩)
    (case g_MOST_WORDS => k_is)
    (case r_MOST_WORDS => exact ⟨_, rfl⟩)
    (case q_ko => kts_exm)
    (case q_kv => kit_is)
    (case q_kk => kit_is)
    (case q_kw => kit_is)
    (case q_ks => kit_is)
    (case q_km => kit_is)
    (case q_wo => kts_exm)
    (case q_wv => kit_is)
    (case q_wk => kit_is)
    (case q_ww => kit_is)
    (case q_ws => kit_is)
    (case q_wm => kit_is)
    (case q_so => kts_exm)
    (case q_sv => kit_is)
    (case q_sk => kit_is)
    (case q_sw => kit_is)
    (case q_ss => kit_is)
    (case q_sm => kit_is)
    (case q_mo => kts_exm)
    (case q_mv => kit_is)
    (case q_mk => kit_is)
    (case q_mw => kit_is)
    (case q_ms => kit_is)
    (case q_mm => kit_is)
#print axioms PySem.Challenge.cw_onceround_k63_far_refused_holds
