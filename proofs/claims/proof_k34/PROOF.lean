import PyProof.Rows.All
import Wide.All
import OpenK.AllK
import Wide.FinOn
import Lean
import PyProof.EqAt
import PyProof.EqKinds
import PyProof.TupleCall
import PySem.Challenge.RW_onceround_k34_no_tree
set_option genSizeOfSpec false
set_option bootstrap.genMatcherCode false
set_option Elab.async false
set_option linter.all false
set_option maxRecDepth 100000
set_option maxHeartbeats 4000000
noncomputable section
namespace L2
open PySem PySem.Spec PyProof.Rows
abbrev Key:=Sum Int Str
def qM:Key->Value->Bool
 | .inl k,v=>Value.isInt k v
 | .inr x,v=>Value.isStrOf x v
def Qt (w:World):Key->Int
 | .inl k=>hashInt k
 | .inr x=>hashStr w x
theorem cL:∀ {k:Key} {v:Value},qM k v=true->(∃ i t,k=Sum.inl i∧v=Value.int i t)∨(∃ x t,k=Sum.inr x∧v=Value.str x t)
 | .inl i,v,h=>by
  obtain ⟨t,e⟩:=Value.isInt_shape (k:=i) (v:=v) h
  exact .inl ⟨i,t,rfl,e⟩
 | .inr x,v,h=>by
  obtain ⟨t,e⟩:=Value.isStrOf_shape (x:=x) (v:=v) h
  exact .inr ⟨x,t,rfl,e⟩
theorem Df (i:Int)(t:Tok):qM (.inl i) (.int i t)=true:=by simp [qM,Value.isInt]
theorem Da (x:Str)(t:Tok):qM (.inr x) (.str x t)=true:=by simp [qM,Value.isStrOf]
theorem Mo (a b:Int):decide ((Sum.inl a:Key)=Sum.inl b)=(a==b):=by
 by_cases e:a=b
 ·subst e;simp
 ·have h:¬ (Sum.inl a:Key)=Sum.inl b:=fun q=>e (Sum.inl.inj q)
  rw [decide_eq_false h]
  exact (beq_eq_false_iff_ne.mpr e).symm
theorem Lh (a b:Str):decide ((Sum.inr a:Key)=Sum.inr b)=decide (a=b):=by
 by_cases e:a=b
 ·subst e;simp
 ·have h:¬ (Sum.inr a:Key)=Sum.inr b:=fun q=>e (Sum.inr.inj q)
  rw [decide_eq_false h,decide_eq_false e]
theorem Mg (a:Int)(b:Str):decide ((Sum.inl a:Key)=Sum.inr b)=false:=decide_eq_false (fun q=>nomatch q)
theorem Mi (a:Str)(b:Int):decide ((Sum.inr a:Key)=Sum.inl b)=false:=decide_eq_false (fun q=>nomatch q)
def bO (prog:Program)(w:World):PySem.KeyKind prog w Key where
 is:=qM
 hash:=Qt w
 inj:=fun v a b ha hb=>by
  rcases cL ha with ⟨i,t,rfl,rfl⟩ | ⟨x,t,rfl,rfl⟩
  ·rcases cL hb with ⟨j,u,rfl,e⟩ | ⟨y,u,rfl,e⟩
   ·injection e with e1 _;rw [e1]
   ·exact nomatch e
  ·rcases cL hb with ⟨j,u,rfl,e⟩ | ⟨y,u,rfl,e⟩
   ·exact nomatch e
   ·injection e with e1 _;rw [e1]
 byValue:=fun k v h=>by
  rcases cL h with ⟨i,t,rfl,rfl⟩ | ⟨x,t,rfl,rfl⟩ <;> rfl
 pyHash:=fun hv h=>by
  rcases cL hv with ⟨i,t,rfl,rfl⟩ | ⟨x,t,rfl,rfl⟩
  ·exact wpAny_pyHash_int h
  ·exact wpAny_pyHash_str h
 eqBool:=fun hu hv h=>by
  rcases cL hu with ⟨i,t,rfl,rfl⟩ | ⟨x,t,rfl,rfl⟩
  ·rcases cL hv with ⟨j,u,rfl,rfl⟩ | ⟨y,u,rfl,rfl⟩
   ·rw [Mo] at h;exact wpAny_eqBool_int h
   ·rw [Mg] at h;exact SeqAt.EqAt.int_str i t y u _ _ _ _ h
  ·rcases cL hv with ⟨j,u,rfl,rfl⟩ | ⟨y,u,rfl,rfl⟩
   ·rw [Mi] at h;exact SeqAt.EqAt.str_int x t j u _ _ _ _ h
   ·rw [Lh] at h;exact wpAny_eqBool_str h
 «strs» := fun k x t v h=>by
  rcases cL h with ⟨i,u,rfl,e⟩ | ⟨y,u,rfl,e⟩
  ·exact nomatch e
  ·injection e with e1 _
   subst e1
   cases v <;> rfl
theorem vY (prog:Program)(w:World)(i:Int)(t:Tok):(bO prog w).is (.inl i) (.int i t)=true:=Df i t
theorem xE (prog:Program)(w:World)(x:Str)(t:Tok):(bO prog w).is (.inr x) (.str x t)=true:=Da x t
end L2
namespace L2
open PySem PySem.Spec PyProof.Rows
inductive V where
 | non | bl (b:Bool) | int (i:Int) | str (x:Str) | byt (b:Array UInt8) | flt (b:UInt64) | ref (a:Addr) | ty (n:String)
 deriving DecidableEq
def bH:V->Value->Prop
 | .non,u=>u=Value.none
 | .bl b,u=>u=Value.bool b
 | .int i,u=>∃ t,u=Value.int i t
 | .str x,u=>∃ t,u=Value.str x t
 | .byt b,u=>∃ t,u=Value.bytes b t
 | .flt b,u=>∃ t,u=Value.float b t
 | .ref a,u=>u=Value.ref a
 | .ty n,u=>u=Value.type n
abbrev bR:List V->List Value->Prop:=Paired bH
theorem bR.length {xs:List V}{us:List Value}(r:bR xs us):xs.length=us.length:=Paired.length r
theorem bR.get:∀ {xs:List V} {us:List Value} {i:Nat} {x:V},bR xs us->xs[i]?=some x->∃ u,us[i]?=some u∧bH x u
 | _,_,_,_,.nil,e=>by simp at e
 | _,_,0,_,.cons r _,e=>by simp at e;subst e;exact ⟨_,rfl,r⟩
 | _,_,i+1,x,.cons _ t,e=>by
  obtain ⟨u,h1,h2⟩:=bR.get (i:=i) (x:=x) t (by simpa using e)
  exact ⟨u,by simpa using h1,h2⟩
theorem bR.append:∀ {xs ys:List V} {us ws:List Value},bR xs us->bR ys ws->bR (xs++ys) (us++ws)
 | _,_,_,_,.nil,s=>s
 | _,_,_,_,.cons r t,s=>.cons r (bR.append t s)
theorem bR.take:∀ {xs:List V} {us:List Value} (n:Nat),bR xs us->bR (xs.take n) (us.take n)
 | _,_,0,_=>.nil
 | _,_,_+1,.nil=>.nil
 | _,_,n+1,.cons r t=>.cons r (bR.take n t)
theorem bR.drop:∀ {xs:List V} {us:List Value} (n:Nat),bR xs us->bR (xs.drop n) (us.drop n)
 | _,_,0,r=>r
 | _,_,_+1,.nil=>.nil
 | _,_,n+1,.cons _ t=>bR.drop n t
def hG:Option V->Option Value->Prop
 | some v,some u=>bH v u
 | none,none=>True
 | _,_=>False
def KV {κ:Type}:List (κ×V)->List (κ×Value)->Prop:=Paired fun (p:κ×V) (q:κ×Value)=>p.1=q.1∧bH p.2 q.2
def kV:Key->V
 | .inl i=>.int i
 | .inr x=>.str x
inductive HO where
 | lst (xs:List V)
 | tup (xs:List V)
 | dK (kvs:List (Key×V)) | dT (kvs:List (List Key×V))
 | set (S:Int->Bool) (n:Nat)
 | ins (C dx:Addr) (fs:List (Str×V))
 | own (x:Addr)
 | xd (fs:List (Str×V))
 | met (f x:Addr)
 | rng (lo hi:Int)
 | frz (o:Obj) (u:HO)
 | tbl (ps:Array Value)
 | ext (φ:Heap->Prop)
abbrev Hp:=Addr->Option HO
def upd (H:Hp)(a:Addr)(o:HO):Hp:=fun b=>if b=a then some o else H b
theorem aC {H:Hp}{a:Addr}{o:HO}:upd H a o a=some o:=by unfold upd;rw [if_pos rfl]
theorem aH {H:Hp}{a b:Addr}{o:HO}(h:b≠a):upd H a o b=H b:=by unfold upd;rw [if_neg h]
theorem Ig {H:Hp}{a:Addr}{o u:HO}:upd (upd H a o) a u=upd H a u:=by
 funext b;unfold upd;split <;> rfl
theorem Py {H:Hp}{a b:Addr}{o u:HO}(h:H a=some o)(h':H b=some u)(d:o≠u):a≠b:=by
 intro e;subst e;rw [h] at h';exact d (Option.some.inj h')
theorem aK {H:Hp}{a b:Addr}{o:HO}(h:H a=some o)(h':H b=none):a≠b:=by
 intro e;subst e;rw [h] at h';cases h'
section
variable (P:Program)(w:World)
def cY (H:Hp)(h:Heap)(a:Addr):HO->Prop
 | .lst xs=>xs.length<=sizeLine∧∃ (its:List Value) (n:Nat),bR xs its∧h.get? a=some { cls:=.type "list",data:=.seq its.toArray n }
 | .tup xs=>xs.length<=sizeLine∧∃ its:List Value,bR xs its∧IsTup h a its.toArray
 | .dK kvs=>kvs.length<=sizeLine∧(a==sysModules)=false∧∃ vs,KV kvs vs∧h.DictOf (bO P w) a vs
 | .dT kvs=>kvs.length<=sizeLine∧(a==sysModules)=false∧∃ xs:List (List Key×Addr×Value),
  Paired (fun (p:List Key×V) (q:List Key×Addr×Value)=>p.1=q.1∧H q.2.1=some (.tup (p.1.map kV))∧bH p.2 q.2.2) kvs xs ∧
  ∃ o es ep,h.get? a=some o∧o.ExactDict∧o.data = .dict es ep∧es.toList=xs.map (entryOfKey (tupleKind (bO P w)))∧(xs.map (·.1)).Nodup
 | .set S n=>h.SetOf (intKind P w) a S n
 | .ins C dx fs=>H dx=some (.own a)∧fs.length<=1000∧dx≠a∧h.get? a=some (PySem.W.instObj C dx) ∧
  ∃ mA,h.Ns1 dx mA∧(∀ f,hG (fs.lookup f) (mA f))∧PySem.Within mA (fs.map (·.1))
 | .own _=>∃ o,h.get? a=some o
 | .xd fs=>∃ mA,h.Ns1 a mA∧∀ f,hG (fs.lookup f) (mA f)
 | .rng lo hi=>∃ t u v,h.get? a=some { cls:=.type "range",data:=.fields #[.int lo t,.int hi u,.int 1 v] }
 | .frz o u=>h.get? a=some o∧cY H h a u
 | .tbl ps=>h.get? a=some { cls:=.none,data:=.fields ps }
 | .met f x=>h.get? a=some (PySem.W.methodObj (.ref f) (.ref x))
 | .ext φ=>φ h∧(∃ o,h.get? a=some o)∧∀ h1 h2:Heap,φ h1->(∀ o,h1.get? a=some o->h2.get? a=some o)->φ h2
def HOk (H:Hp)(h:Heap):Prop:=∀ a o,H a=some o->cY P w H h a o
end
section
variable {P:Program}{w:World}{H H':Hp}{h h':Heap}{a:Addr}{o:HO}
theorem cY.lt (x:cY P w H h a o):a<h.objs.size:=by
 cases o with
 | lst xs=>obtain ⟨_,_,_,_,e⟩:=x;exact Heap.lt_size e
 | tup xs=>obtain ⟨_,_,_,p⟩:=x;exact p.lt
 | dK kvs=>obtain ⟨_,_,_,_,o,_,_,e,_⟩:=x;exact Heap.lt_size e
 | dT kvs=>obtain ⟨_,_,_,_,o,_,_,e,_⟩:=x;exact Heap.lt_size e
 | set S n=>obtain ⟨o,_,_,_,e,_⟩:=x;exact Heap.lt_size e
 | ins C dx fs=>obtain ⟨_,_,_,e,_⟩:=x;exact Heap.lt_size e
 | own y=>obtain ⟨_,e⟩:=x;exact Heap.lt_size e
 | xd fs=>obtain ⟨_,⟨_,_,_,e,_⟩,_⟩:=x;exact Heap.lt_size e
 | rng lo hi=>obtain ⟨_,_,_,e⟩:=x;exact Heap.lt_size e
 | frz ob u=>obtain ⟨e,_⟩:=x;exact Heap.lt_size e
 | tbl ps=>exact Heap.lt_size (show h.get? a=some _ from x)
 | met f y=>exact Heap.lt_size (show h.get? a=some _ from x)
 | ext φ=>obtain ⟨_,⟨_,e⟩,_⟩:=x;exact Heap.lt_size e
theorem Paired.mapP {α β:Type}{F G:α->β->Prop}:∀ {l₁:List α} {l₂:List β},Paired F l₁ l₂->(∀ a b,F a b->G a b)->Paired G l₁ l₂
 | _,_,.nil,_=>.nil
 | _,_,.cons r t,f=>.cons (f _ _ r) (Paired.mapP t f)
theorem cY.stay (x:cY P w H h a o)(k:∀ b u,(b=a∨H b=some (.own a))->h.get? b=some u->h'.get? b=some u)
  (ho:∀ b,H b=some (.own a)->H' b=some (.own a)) (ht:∀ b xs,H b=some (.tup xs)->H' b=some (.tup xs)):cY P w H' h' a o:=by
 induction o with
 | lst xs=>obtain ⟨z,its,n,r,e⟩:=x;exact ⟨z,its,n,r,k _ _ (.inl rfl) e⟩
 | tup xs=>obtain ⟨z,its,r,ob,e,c⟩:=x;exact ⟨z,its,r,ob,k _ _ (.inl rfl) e,c⟩
 | dK kvs=>obtain ⟨z,y,vs,r,ob,es,ep,e,c⟩:=x;exact ⟨z,y,vs,r,ob,es,ep,k _ _ (.inl rfl) e,c⟩
 | dT kvs =>
  obtain ⟨z,y,xs,r,ob,es,ep,e,c⟩:=x
  exact ⟨z,y,xs,Paired.mapP r fun p q z=>⟨z.1,ht _ _ z.2.1,z.2.2⟩,ob,es,ep,k _ _ (.inl rfl) e,c⟩
 | set S n=>obtain ⟨ob,es,ep,t,e,c⟩:=x;exact ⟨ob,es,ep,t,k _ _ (.inl rfl) e,c⟩
 | ins C dx fs =>
  obtain ⟨d,z,ne,e,mA,⟨od,es,ep,e2,c⟩,r⟩:=x
  exact ⟨ho _ d,z,ne,k _ _ (.inl rfl) e,mA,⟨od,es,ep,k _ _ (.inr d) e2,c⟩,r⟩
 | own y=>obtain ⟨ob,e⟩:=x;exact ⟨ob,k _ _ (.inl rfl) e⟩
 | xd fs=>obtain ⟨mA,⟨od,es,ep,e,c⟩,r⟩:=x;exact ⟨mA,⟨od,es,ep,k _ _ (.inl rfl) e,c⟩,r⟩
 | rng lo hi=>obtain ⟨t,u,v,e⟩:=x;exact ⟨t,u,v,k _ _ (.inl rfl) e⟩
 | frz ob u ih=>obtain ⟨e,q⟩:=x;exact ⟨k _ _ (.inl rfl) e,ih q⟩
 | tbl ps =>
  have e:h.get? a=some { cls:=.none,data:=.fields ps }:=x
  show h'.get? a=some { cls:=.none,data:=.fields ps }
  exact k a _ (.inl rfl) e
 | met f y =>
  have e:h.get? a=some (PySem.W.methodObj (.ref f) (.ref y)):=x
  show h'.get? a=some (PySem.W.methodObj (.ref f) (.ref y))
  exact k a _ (.inl rfl) e
 | ext φ=>obtain ⟨p,⟨o,e⟩,st⟩:=x;exact ⟨st _ _ p fun o q=>k _ _ (.inl rfl) q,⟨o,k _ _ (.inl rfl) e⟩,st⟩
theorem HOk.lt (x:HOk P w H h)(e:H a=some o):a<h.objs.size:=(x a o e).lt
theorem HOk.fresh (x:HOk P w H h)(e:h.objs.size<=a):H a=none:=by
 cases q:H a with
 | none=>rfl
 | some u=>exact absurd (Nat.lt_of_lt_of_le (x.lt q) e) (Nat.lt_irrefl _)
theorem HOk.kept (x:HOk P w H h)(k:∀ b u,h.get? b=some u->h'.get? b=some u):HOk P w H h':=fun a o e =>
 (x a o e).stay (fun b u _ q=>k b u q) (fun _ q=>q) fun _ _ q=>q
theorem HOk.laid (x:HOk P w H h)(k:∀ b u,h.get? b=some u->h'.get? b=some u)(hp:h.objs.size<=a)(new:cY P w (upd H a o) h' a o):HOk P w (upd H a o) h':=fun b u e=>by
 have hn:=x.fresh hp
 by_cases hb:b=a
 ·subst hb;rw [aC] at e;cases e;exact new
 ·rw [aH hb] at e
  exact (x b u e).stay (fun c v _ q=>k c v q) (fun c q=>by rw [aH (aK q hn)];exact q) fun c xs q=>by rw [aH (aK q hn)];exact q
end
def Rd (H:Hp)(a:Addr)(u:HO):Prop:=H a=some u∨∃ o,H a=some (.frz o u)
theorem Rd.ok {P:Program}{w:World}{H:Hp}{h:Heap}{a:Addr}{u:HO}(r:Rd H a u)(x:HOk P w H h):cY P w H h a u:=by
 rcases r with r | ⟨o,r⟩
 ·exact x a u r
 ·obtain ⟨_,q⟩:=x a _ r
  exact q
def Mut:Option HO->Prop
 | some (.lst _)=>True
 | some (.dK _)=>True
 | some (.dT _)=>True
 | some (.set _ _)=>True
 | some (.ins _ _ _)=>True
 | some (.ext _)=>True
 | _=>False
section
variable {P:Program}{w:World}{H:Hp}{h h':Heap}{x e:Addr}{o':HO}
theorem HOk.write (ok:HOk P w H h)(mu:Mut (H x))(he:e=x∨H e=some (.own x))(k:∀ b u,b≠e->h.get? b=some u->h'.get? b=some u)(heo:∃ u,h'.get? e=some u)
  (new:cY P w (upd H x o') h' x o'):HOk P w (upd H x o') h':=fun b u q=>by
 have nown:∀ c y,H c=some (.own y)->c≠x:=fun c y r z=>by subst z;rw [r] at mu;exact mu
 have ntup:∀ c xs,H c=some (.tup xs)->c≠x:=fun c xs r z=>by subst z;rw [r] at mu;exact mu
 by_cases hb:b=x
 ·subst hb;rw [aC] at q;cases q;exact new
 ·rw [aH hb] at q
  by_cases hbe:b=e
  ·have q':H b=some (.own x):=by
    rcases he with z | z
    ·exact absurd (hbe.trans z) hb
    ·rw [hbe];exact z
   rw [q] at q';cases q'
   obtain ⟨v,hv⟩:=heo
   exact ⟨v,by rw [hbe];exact hv⟩
  ·refine (ok b u q).stay (fun c v hc r=>k c v ?_ r) (fun c r=>by rw [aH (nown c b r)];exact r) fun c xs r=>by rw [aH (ntup c xs r)];exact r
   rcases hc with rfl | hc
   ·exact hbe
   ·rintro rfl
    rcases he with z | z
    ·exact nown c b hc z
    ·rw [hc] at z;cases z;exact hb rfl
end
set_option genInjectivity false in
structure Un (fs ex:List Addr)(H H':Hp)(h h':Heap):Prop where
 keep:∀ b o,h.get? b=some o->H b=none->b∉fs->b∉ex->h'.get? b=some o
 slot:∀ b o,h.get? b=some o->H b=none->b∈fs->b∉ex->∃ sl,h'.get? b=some { o with slots:=sl }
 free:∀ b o,h.get? b=some o->H b=none->b∉ex->H' b=none
 there:∀ b o,h.get? b=some o->b∉ex->∃ o',h'.get? b=some o'
 tups:∀ b xs,H b=some (.tup xs)->H' b=some (.tup xs)
 frzs:∀ b o u,H b=some (.frz o u)->H' b=some (.frz o u)
 tbls:∀ b ps,H b=some (.tbl ps)->∃ more,H' b=some (.tbl (ps++more))
section
variable {fs fs' ex ex':List Addr}{H H1 H2:Hp}{h h1 h2 h':Heap}{a x e:Addr}{o:HO}
theorem Un.any (u:Un fs ex H H1 h h1){b:Addr}{ob:Obj}(q:h.get? b=some ob)(n:H b=none)(hx:b∉ex):∃ sl,h1.get? b=some { ob with slots:=sl }:=by
 by_cases hb:b∈fs
 ·exact u.slot b ob q n hb hx
 ·exact ⟨ob.slots,u.keep b ob q n hb hx⟩
theorem Un.kept (k:∀ b u,h.get? b=some u->h'.get? b=some u):Un fs ex H H h h' :=
 ⟨fun b ob q _ _ _=>k b ob q,fun b ob q _ _ _=>⟨ob.slots,k b ob q⟩,fun _ _ _ n _=>n,fun b ob q _=>⟨ob,k b ob q⟩,fun _ _ q=>q,fun _ _ _ q=>q,fun _ ps q=>⟨#[],by rw [q];simp⟩⟩
theorem Un.refl:Un fs ex H H h h:=Un.kept fun _ _ q=>q
theorem Un.laid (k:∀ b u,h.get? b=some u->h'.get? b=some u)(hp:h.objs.size<=a)(hn:H a=none):Un fs ex H (upd H a o) h h' where
 keep:=fun b u q _ _ _=>k b u q
 slot:=fun b u q _ _ _=>⟨u.slots,k b u q⟩
 free:=fun b u q n _=>by rw [aH (Nat.ne_of_lt (Nat.lt_of_lt_of_le (Heap.lt_size q) hp))];exact n
 there:=fun b u q _=>⟨u,k b u q⟩
 tups:=fun b xs q=>by rw [aH (aK q hn)];exact q
 frzs:=fun b u xs q=>by rw [aH (aK q hn)];exact q
 tbls:=fun b ps q=>⟨#[],by rw [aH (aK q hn),q];simp⟩
theorem Un.write (mu:Mut (H x))(he:e=x∨H e=some (.own x))(k:∀ b u,b≠e->h.get? b=some u->h'.get? b=some u)(heo:∃ u,h'.get? e=some u):Un fs ex H (upd H x o) h h':=by
 have hx:∀ b,H b=none->b≠x:=fun b n z=>by subst z;rw [n] at mu;exact mu
 have hb:∀ b,H b=none->b≠e:=fun b n z=>by
  subst z
  rcases he with r | r
  ·exact hx b n r
  ·rw [n] at r;cases r
 have hm:∀ b u,H b=some u->¬ Mut (some u)->b≠x:=fun b u q nm z=>by subst z;rw [q] at mu;exact nm mu
 refine ⟨fun b u q n _ _=>k b u (hb b n) q,fun b u q n _ _=>⟨u.slots,k b u (hb b n) q⟩,fun b u q n _=>by rw [aH (hx b n)];exact n,fun b u q _=>?_,
  fun b xs q=>by rw [aH (hm b _ q fun z=>z)];exact q,fun b u xs q=>by rw [aH (hm b _ q fun z=>z)];exact q,fun b ps q=>⟨#[],by rw [aH (hm b _ q fun z=>z),q];simp⟩⟩
 by_cases hbe:b=e
 ·subst hbe;exact heo
 ·exact ⟨u,k b u hbe q⟩
end
def trk (h:Heap)(H:Hp):List Addr:=(List.range h.objs.size).filter fun a=>(H a).isSome
def tX (h:Heap)(H:Hp):Heap:=PySem.W.hideAll h (trk h H)
theorem Db (h:Heap)(H:Hp):(tX h H).objs.size=h.objs.size:=PySem.W.hideAll_size _ _
theorem Gp {h:Heap}{H:Hp}{b:Addr}{o:Obj}(e:h.get? b=some o)(n:H b=none):(tX h H).get? b=some o :=
 PySem.W.hideAll_get _ e fun hm=>by
  have q:(H b).isSome=true:=(List.mem_filter.mp hm).2
  rw [n] at q;simp at q
theorem Iq {h:Heap}{H:Hp}{b:Addr}{o:Obj}(e:(tX h H).get? b=some o):h.get? b=some o∧H b=none:=by
 have e':h.get? b=some o:=PySem.W.of_hideAll (trk h H) e
 refine ⟨e',?_⟩
 cases q:H b with
 | none=>rfl
 | some x =>
  have hm:b∈trk h H:=List.mem_filter.mpr ⟨List.mem_range.mpr (Heap.lt_size e'),by simp [q]⟩
  have z:(tX h H).get? b=none:=PySem.W.hideAll_none (trk h H) hm
  rw [z] at e;cases e
def Jk (g h:Heap)(L:Addr):List (Addr×Obj):=(List.range h.objs.size).filterMap fun a=>if a=L∨(g.get? a).isSome=true then none else (h.get? a).map fun o=>(a,o)
def rest (g h:Heap)(L d:Addr):List (Addr×Obj):=(Jk g h L).filter fun p=>decide (p.1≠d)
end L2
namespace L2
open PySem PySem.Spec PyProof.Rows
set_option genInjectivity false in
structure Mod (K:PySem.W.Frag)(mg:Str->Option Value)(base:Heap):Prop where
 kin:K.In base
 glob:base.Ns mainGlobals mg
 blt:∃ mb,base.Ns builtinsNs mb∧∀ x:Str,x ≠ "__name__" -> mb x=bootBuiltins x
 nolimit:base.NoLimit
set_option genInjectivity false in
structure Cx where
 prog:Program
 w:World
 K:PySem.W.Frag
 mg:Str->Option Value
 base:Heap
 A:Around
 N:List Str
 s₀:Shared
 H₀:Hp
 env:Env
 outer:List Env
 stack:List Env
 ex:List Addr
 fn:Str->Bool
 calm:Bool
 pn:List (Addr×Obj)
 xe:Value->Shared->Prop
def frs (l:List Env):List Addr:=l.filterMap (·.frame)
abbrev Cx.fs (X:Cx):List Addr:=frs X.outer
def Vis (sc:Scope)(x:Str):Prop:=sc.names.lookup x=some .local∨sc.names.lookup x=some .cell∨sc.names.lookup x=some .free
def Loc (sc:Scope)(x:Str):Prop:=sc.names.lookup x=some .local∨sc.names.lookup x=some .cell
def Qv (env:Env)(h:Heap)(m:Str->Option Value)(x:Str)(u:Value):Prop :=
 (env.kindOf x=some .local∧m x=some u)∨((env.kindOf x=some .cell∨env.kindOf x=some .free)∧∃ c,env.cells.lookup x=some c∧h.IsCell c (some u))
set_option genInjectivity false in
structure Cx.Ok (X:Cx):Prop where
 mod:Mod X.K X.mg X.base
 kind:X.env.scope.kind = .function
 glob:X.env.globals=mainGlobals
 blt:X.env.builtins=builtinsNs
 above:X.s₀.heap.objs.size<=X.env.locals
 inj:∀ x y c,X.env.cells.lookup x=some c->X.env.cells.lookup y=some c->x=y
 has:∀ x,(X.env.kindOf x=some .cell∨X.env.kindOf x=some .free)->∃ c,X.env.cells.lookup x=some c
 cab:∀ x c,X.fn x=true->X.env.cells.lookup x=some c->X.s₀.heap.objs.size<=c
 hd:X.calm=true->X.A.handled=none
 frames:X.A.frames=some X.stack
 stk:X.stack=X.outer∨(X.stack=X.env::X.outer∧X.env.frame=some X.env.locals)
 exf:∀ b∈X.ex,b≠X.env.locals∧∀ x c,X.env.cells.lookup x=some c->c≠b
 bs:∀ b o,X.base.get? b=some o->X.s₀.heap.get? b=some o∧X.H₀ b=none
 bsz:X.base.objs.size<=X.s₀.heap.objs.size
 noex:∀ b o,X.base.get? b=some o->b∉X.ex
 exfs:∀ b∈X.ex,b∉X.fs
 funs:X.s₀.heap.FunFrames X.base X.outer
 frf:∀ b∈X.fs,X.H₀ b=none
set_option genInjectivity false in
structure Inv (X:Cx)(pins:List (Addr×Obj))(σ:List (Option V))(H:Hp)(s:Shared):Prop where
 ok:X.Ok
 os:s.os=X.s₀.os
 bare:AllBare s.gens
 base:Un X.fs X.ex X.H₀ H X.s₀.heap s.heap
 loc:∃ m,s.heap.Ns X.env.locals m∧∀ (i:Nat) (x:Str) (v:V),X.N[i]?=some x->σ[i]?=some (some v)->Vis X.env.scope x->∃ u,bH v u∧Qv X.env s.heap m x u
 cell:∀ x c,X.env.cells.lookup x=some c->∃ v,s.heap.IsCell c v
 free:H X.env.locals=none
 freeC:∀ x c,X.env.cells.lookup x=some c->H c=none
 pin:∀ p∈X.pn++pins,s.heap.get? p.1=some p.2∧H p.1=none∧p.1≠X.env.locals∧p.1∉X.fs∧∀ v,p.2.data≠.cell v
 hok:HOk X.prog X.w H s.heap
 len:σ.length=X.N.length
section
variable {X:Cx}{pins:List (Addr×Obj)}{σ:List (Option V)}{H H':Hp}{s:Shared}{h':Heap}
theorem Cx.Ok.nofr (ok:X.Ok){b:Addr}{o:Obj}(e:X.base.get? b=some o):b∉X.fs:=fun hb=>by
 have:=(ok.funs.mem hb).1
 rw [e] at this;cases this
theorem Inv.bs (I:Inv X pins σ H s):∀ b o,X.base.get? b=some o->s.heap.get? b=some o∧H b=none:=fun b o e =>
 ⟨I.base.keep b o (I.ok.bs b o e).1 (I.ok.bs b o e).2 (I.ok.nofr e) (I.ok.noex b o e),I.base.free b o (I.ok.bs b o e).1 (I.ok.bs b o e).2 (I.ok.noex b o e)⟩
theorem Inv.bk (I:Inv X pins σ H s):∀ b o,X.base.get? b=some o->s.heap.get? b=some o:=fun b o e=>(I.bs b o e).1
theorem Inv.mod (I:Inv X pins σ H s):Mod X.K X.mg X.base:=I.ok.mod
theorem Inv.kIn (I:Inv X pins σ H s):X.K.In s.heap:=I.ok.mod.kin.keeps I.bk
theorem Inv.lt (I:Inv X pins σ H s):X.env.locals<s.heap.objs.size:=let ⟨_,hn,_⟩:=I.loc;hn.lt
theorem Inv.sz (I:Inv X pins σ H s):X.s₀.heap.objs.size<=s.heap.objs.size:=Nat.le_trans I.ok.above (Nat.le_of_lt I.lt)
theorem Inv.nofs (I:Inv X pins σ H s){a:Addr}(h:s.heap.objs.size<=a):a∉X.fs:=fun hb=>by
 obtain ⟨_,o,ho,_⟩:=I.ok.funs.mem hb
 exact absurd (Nat.lt_of_lt_of_le (Heap.lt_size ho) (Nat.le_trans I.sz h)) (Nat.lt_irrefl _)
theorem Inv.cne (I:Inv X pins σ H s):∀ x c,X.env.cells.lookup x=some c->c≠X.env.locals:=fun x c e z=>by
 obtain ⟨v,o,ho,hd⟩:=I.cell x c e
 obtain ⟨m,⟨o',es,ep,ho',hd',_⟩,_⟩:=I.loc
 rw [z,ho'] at ho;cases ho;rw [hd'] at hd;cases hd
theorem Inv.funs (I:Inv X pins σ H s):s.heap.FunFrames X.base X.outer:=by
 have all:∀ (l:List Env),(∀ b∈frs l,b∈X.fs)->X.s₀.heap.FunFrames X.base l->s.heap.FunFrames X.base l:=by
  intro l
  induction l with
  | nil=>intro _ _;trivial
  | cons env r ih =>
   intro hs hl
   obtain ⟨hk,⟨L,o,hf,hn,ho,hd⟩,hr⟩:=hl
   have hL:L∈X.fs:=hs L (by unfold frs;rw [List.filterMap_cons,hf];exact List.mem_cons_self)
   obtain ⟨sl,e⟩:=I.base.slot L o ho (I.ok.frf L hL) hL fun z=>I.ok.exfs L z hL
   exact ⟨hk,⟨L,_,hf,hn,e,hd⟩,ih (fun b hb=>hs b (by unfold frs;rw [List.filterMap_cons,hf];exact List.mem_cons_of_mem _ hb)) hr⟩
 exact all X.outer (fun _ hb=>hb) I.ok.funs
theorem Inv.stack (I:Inv X pins σ H s):s.heap.FunFrames X.base X.stack:=by
 rcases I.ok.stk with e | ⟨e,hf⟩
 ·rw [e];exact I.funs
 ·rw [e]
  obtain ⟨m,hn,_⟩:=I.loc
  refine .cons (by rw [I.ok.kind];decide) hf hn ?_ I.funs
  exact Heap.get?_none_of_le (Nat.le_trans I.ok.bsz I.ok.above)
theorem Inv.stkSub (I:Inv X pins σ H s):∀ b∈frs X.stack,b∈X.env.locals::X.fs:=fun b hb=>by
 rcases I.ok.stk with e | ⟨e,hf⟩
 ·rw [e] at hb;exact List.mem_cons_of_mem _ hb
 ·rw [e] at hb
  unfold frs at hb
  rw [List.filterMap_cons,hf] at hb
  exact hb
theorem Inv.stkFree (I:Inv X pins σ H s):∀ b∈frs X.stack,H b=none:=fun b hb=>by
 rcases List.mem_cons.mp (I.stkSub b hb) with e | hb
 ·rw [e];exact I.free
 ·obtain ⟨_,o,ho,_⟩:=I.ok.funs.mem hb
  exact I.base.free b o ho (I.ok.frf b hb) fun z=>I.ok.exfs b z hb
theorem Inv.step {g':Array GenState}{t':Nat}{d':Drawn}{ch:List Addr}(I:Inv X pins σ H s)
  (hch:∀ b∈ch,(b∈X.ex∨X.s₀.heap.objs.size<=b)∧b≠X.env.locals∧(∀ x c,X.env.cells.lookup x=some c->c≠b)∧∀ p∈X.pn++pins,p.1≠b)
  (keep:∀ b o,b≠X.env.locals->b∉X.fs->b∉ch->s.heap.get? b=some o->H b=none->h'.get? b=some o)
  (slot:∀ b o,b≠X.env.locals->b∈X.fs->b∉ch->s.heap.get? b=some o->H b=none->∃ sl,h'.get? b=some { o with slots:=sl }) (free:∀ b o,b∉ch->s.heap.get? b=some o->H b=none->H' b=none)
  (there:∀ b o,b∉ch->s.heap.get? b=some o->∃ o',h'.get? b=some o')
  (tups:∀ b xs,H b=some (.tup xs)->H' b=some (.tup xs)) (frzs:∀ b o u,H b=some (.frz o u)->H' b=some (.frz o u)) (tbls:∀ b ps,H b=some (.tbl ps)->∃ more,H' b=some (.tbl (ps++more)))
  (ns:∀ m,s.heap.Ns X.env.locals m->h'.Ns X.env.locals m) (hok:HOk X.prog X.w H' h') (hg:AllBare g') :
  Inv X pins σ H' { s with heap:=h',gens:=g',drawn:=d',toks:=t' }:=by
 have neL:∀ b o,X.s₀.heap.get? b=some o->b≠X.env.locals:=fun b o e=>Nat.ne_of_lt (Nat.lt_of_lt_of_le (Heap.lt_size e) I.ok.above)
 have neC:∀ b o,X.s₀.heap.get? b=some o->b∉X.ex->b∉ch:=fun b o e hx hb=>by
  rcases (hch b hb).1 with z | z
  ·exact hx z
  ·exact absurd (Nat.lt_of_lt_of_le (Heap.lt_size e) z) (Nat.lt_irrefl _)
 have cellK:∀ x c,X.env.cells.lookup x=some c->∀ v,s.heap.IsCell c v->h'.IsCell c v:=fun x c e v ⟨o,ho,hd⟩=>by
  have nch:c∉ch:=fun z=>(hch c z).2.2.1 x c e rfl
  by_cases hc:c∈X.fs
  ·obtain ⟨sl,q⟩:=slot c o (I.cne x c e) hc nch ho (I.freeC x c e)
   exact ⟨_,q,hd⟩
  ·exact ⟨o,keep c o (I.cne x c e) hc nch ho (I.freeC x c e),hd⟩
 refine ⟨I.ok,I.os,hg,⟨fun b o e n hb hx=>?_,fun b o e n hb hx=>?_,fun b o e n hx=>?_,fun b o e hx=>?_,fun b xs e=>tups b xs (I.base.tups b xs e),fun b o xs e=>frzs b o xs (I.base.frzs b o xs e),fun b ps e=>?_⟩,?_,fun x c e=>?_,?_,fun x c e=>?_,fun p hp=>?_,hok,I.len⟩
 ·exact keep b o (neL b o e) hb (neC b o e hx) (I.base.keep b o e n hb hx) (I.base.free b o e n hx)
 ·obtain ⟨sl,e1⟩:=I.base.slot b o e n hb hx
  obtain ⟨sl',e2⟩:=slot b _ (neL b o e) hb (neC b o e hx) e1 (I.base.free b o e n hx)
  exact ⟨sl',e2⟩
 ·obtain ⟨o',e1⟩:=I.base.there b o e hx
  exact free b o' (neC b o e hx) e1 (I.base.free b o e n hx)
 ·obtain ⟨o',e1⟩:=I.base.there b o e hx
  exact there b o' (neC b o e hx) e1
 ·obtain ⟨m1,e1⟩:=I.base.tbls b ps e
  obtain ⟨m2,e2⟩:=tbls b _ e1
  exact ⟨m1++m2,by rw [e2,Array.append_assoc]⟩
 ·obtain ⟨m,hn,hl⟩:=I.loc
  refine ⟨m,ns m hn,fun i x v e1 e2 e3=>?_⟩
  obtain ⟨u,r,l⟩:=hl i x v e1 e2 e3
  refine ⟨u,r,?_⟩
  rcases l with l | ⟨k,c,e,z⟩
  ·exact .inl l
  ·exact .inr ⟨k,c,e,cellK x c e _ z⟩
 ·obtain ⟨v,z⟩:=I.cell x c e
  exact ⟨v,cellK x c e v z⟩
 ·obtain ⟨m,⟨o,_,_,ho,_⟩,_⟩:=I.loc
  exact free _ o (fun z=>(hch _ z).2.1 rfl) ho I.free
 ·obtain ⟨v,o,ho,hd⟩:=I.cell x c e
  exact free c o (fun z=>(hch c z).2.2.1 x c e rfl) ho (I.freeC x c e)
 ·obtain ⟨e,n,ne,nf,d⟩:=I.pin p hp
  have nch:p.1∉ch:=fun z=>(hch p.1 z).2.2.2 p hp rfl
  exact ⟨keep p.1 p.2 ne nf nch e n,free p.1 p.2 nch e n,ne,nf,d⟩
theorem Inv.un {t':Nat}(I:Inv X pins σ H s)(u:Un X.fs [] H H' s.heap h')(hok:HOk X.prog X.w H' h'):Inv X pins σ H' { s with heap:=h',toks:=t' }:=by
 obtain ⟨m,⟨o,es,ep,ho,r⟩,_⟩:=id I.loc
 obtain ⟨sl,hL⟩:=u.any ho I.free (by simp)
 exact I.step (g':=s.gens) (d':=s.drawn) (ch:=[]) (fun _ z=>nomatch z) (fun b o _ hb _ e n=>u.keep b o e n hb (by simp)) (fun b o _ hb _ e n=>u.slot b o e n hb (by simp)) (fun b o _ e n=>u.free b o e n (by simp)) (fun b o _ e=>u.there b o e (by simp)) u.tups u.frzs u.tbls (fun m' hm=>by
  obtain ⟨o',es',ep',ho',r'⟩:=hm
  rw [ho] at ho';cases ho'
  exact ⟨_,es',ep',hL,r'⟩) hok I.bare
theorem Inv.call {g':Array GenState}{t':Nat}{d':Drawn}{ch:List Addr}(I:Inv X pins σ H s)(u:Un (frs X.stack) ch H H' s.heap h')(hok:HOk X.prog X.w H' h')(hg:AllBare g')
  (hch:∀ b∈ch,(b∈X.ex∨X.s₀.heap.objs.size<=b)∧b≠X.env.locals∧(∀ x c,X.env.cells.lookup x=some c->c≠b)∧∀ p∈X.pn++pins,p.1≠b) :
  Inv X pins σ H' { s with heap:=h',gens:=g',drawn:=d',toks:=t' }:=by
 obtain ⟨m,⟨o,es,ep,ho,r⟩,_⟩:=id I.loc
 obtain ⟨sl,hL⟩:=u.any ho I.free fun z=>(hch _ z).2.1 rfl
 exact I.step (ch:=ch) hch (fun b o hL hb hc e n=>u.keep b o e n (fun z=>(List.mem_cons.mp (I.stkSub b z)).elim hL hb) hc) (fun b o _ _ hc e n=>u.any e n hc) (fun b o hc e n=>u.free b o e n hc) (fun b o hc e=>u.there b o e hc) u.tups u.frzs u.tbls (fun m' hm=>by
  obtain ⟨o',es',ep',ho',r'⟩:=hm
  rw [ho] at ho';cases ho'
  exact ⟨_,es',ep',hL,r'⟩) hok hg
theorem Inv.turned {t':Nat}{it:Addr}(I:Inv X pins σ H s)(k:∀ b o,b≠it->s.heap.get? b=some o->h'.get? b=some o)(hn:H it=none)(hL:it≠X.env.locals)
  (h1:it∈X.ex∨X.s₀.heap.objs.size<=it) (h2:∀ x c,X.env.cells.lookup x=some c->c≠it) (h3:∀ p∈X.pn++pins,p.1≠it):Inv X pins σ H { s with heap:=h',toks:=t' }:=by
 have nit:∀ b u,H b=some u->b≠it:=fun b u e z=>by rw [z,hn] at e;cases e
 refine I.step (g':=s.gens) (d':=s.drawn) (ch:=[it]) (fun b hb=>?_) (fun b o _ _ hc e _=>k b o (fun z=>hc (by simp [z])) e) (fun b o _ _ hc e _=>⟨o.slots,k b o (fun z=>hc (by simp [z])) e⟩) (fun _ _ _ _ n=>n)
  (fun b o hc e=>⟨o,k b o (fun z=>hc (by simp [z])) e⟩) (fun _ _ e=>e) (fun _ _ _ e=>e) (fun b ps e=>⟨#[],by rw [e];simp⟩) (fun m hm=>?_) (fun b u e=>?_) I.bare
 ·have e:b=it:=by simpa using hb
  subst e
  exact ⟨h1,hL,h2,h3⟩
 ·obtain ⟨o,es,ep,ho,r⟩:=hm
  exact ⟨o,es,ep,k _ o (Ne.symm hL) ho,r⟩
 ·refine (I.hok b u e).stay (fun c v hc q=>k c v ?_ q) (fun _ q=>q) fun _ _ q=>q
  rcases hc with z | z
  ·rw [z];exact nit b u e
  ·exact nit c _ z
theorem Inv.tok (I:Inv X pins σ H s)(t:Nat):Inv X pins σ H { s with toks:=t }:=I.un (h':=s.heap) (t':=t) Un.refl I.hok
theorem Inv.kept {t':Nat}(I:Inv X pins σ H s)(k:∀ b u,s.heap.get? b=some u->h'.get? b=some u):Inv X pins σ H { s with heap:=h',toks:=t' }:=I.un (Un.kept k) (I.hok.kept k)
theorem Inv.laid {a:Addr}{o:HO}{t':Nat}(I:Inv X pins σ H s)(k:∀ b u,s.heap.get? b=some u->h'.get? b=some u)(hp:s.heap.objs.size<=a)(new:cY X.prog X.w (upd H a o) h' a o) :
 Inv X pins σ (upd H a o) { s with heap:=h',toks:=t' }:=I.un (Un.laid k hp (I.hok.fresh hp)) (I.hok.laid k hp new)
theorem Inv.write {x e:Addr}{o:HO}{t':Nat}(I:Inv X pins σ H s)(mu:Mut (H x))(he:e=x∨H e=some (.own x))(k:∀ b u,b≠e->s.heap.get? b=some u->h'.get? b=some u)(heo:∃ u,h'.get? e=some u)
 (new:cY X.prog X.w (upd H x o) h' x o):Inv X pins σ (upd H x o) { s with heap:=h',toks:=t' }:=I.un (Un.write mu he k heo) (I.hok.write mu he k heo new)
theorem Inv.pins_of {pins':List (Addr×Obj)}(I:Inv X pins σ H s)(h:∀ p∈pins',s.heap.get? p.1=some p.2∧H p.1=none∧p.1≠X.env.locals∧p.1∉X.fs∧∀ v,p.2.data≠.cell v):Inv X pins' σ H s :=
 ⟨I.ok,I.os,I.bare,I.base,I.loc,I.cell,I.free,I.freeC,fun p hp=>(List.mem_append.mp hp).elim (fun z=>I.pin p (List.mem_append_left _ z)) (h p),I.hok,I.len⟩
theorem pU {N:List Str}(hN:N.Nodup){i j:Nat}{x:Str}(a:N[i]?=some x)(b:N[j]?=some x):i=j:=by
 obtain ⟨h1,e1⟩:=List.getElem?_eq_some_iff.mp a
 obtain ⟨h2,e2⟩:=List.getElem?_eq_some_iff.mp b
 exact (List.getElem_inj hN).mp (e1.trans e2.symm)
theorem rZ {M:Model}{A:Around}{E:Value->Shared->Prop}{i:Nat}{x:Str}{v:V}{u:Value}{Q:Unit->Shared->Prop}(I:Inv X pins σ H s)(hN:X.N.Nodup)(hi:X.N[i]?=some x)(hx:Loc X.env.scope x)(r:bH v u)
  (h:∀ s',Inv X pins (σ.set i (some v)) H s'->(∃ a,Heap.SameBut a s.heap s'.heap∧(a=X.env.locals∨X.env.cells.lookup x=some a))->Q () s') (hf:X.fn x=true∨X.env.scope.names.lookup x=some .local:=by first | exact .inl rfl | exact .inr rfl | assumption):wpAny M A (storeName X.env x u) Q E s:=by
 obtain ⟨m,hn,hl⟩:=id I.loc
 have hcls:(X.env.scope.kind == .class||(X.env.scope.kind == .module&&X.env.locals != X.env.globals))=false:=by rw [I.ok.kind];rfl
 have hiσ:i<σ.length:=by rw [I.len];exact (List.getElem?_eq_some_iff.mp hi).1
 have cne:=I.cne
 have tracked:∀ {a:Addr} {h':Heap},(∃ o,s.heap.get? a=some o∧H a=none)->Heap.SameBut a s.heap h'->HOk X.prog X.w H h':=fun {a h'} ha hs b ob e=>by
  obtain ⟨_,_,hfree⟩:=ha
  refine (I.hok b ob e).stay (fun c w' hc q=>(hs.2 c ?_).trans q) (fun _ q=>q) fun _ _ q=>q
  rintro rfl
  rcases hc with rfl | hc
  ·rw [hfree] at e;cases e
  ·rw [hfree] at hc;cases hc
 rcases hx with hk | hk
 ·refine wpAny_storeName_local hk hn (fun h' hn' hs=>?_) hcls
  obtain ⟨oL,_,_,hoL,_⟩:=id hn
  refine h _ ⟨I.ok,I.os,I.bare,⟨fun b o e n hb hx=>?_,fun b o e n hb hx=>?_,I.base.free,fun b o e hx=>?_,I.base.tups,I.base.frzs,I.base.tbls⟩,⟨_,hn',fun j y v' e1 e2 e3=>?_⟩,fun y c e=>?_,I.free,I.freeC,fun p hp=>?_,tracked ⟨oL,hoL,I.free⟩ hs,by simpa using I.len⟩ ⟨_,hs,.inl rfl⟩
  ·exact (hs.2 b (Nat.ne_of_lt (Nat.lt_of_lt_of_le (Heap.lt_size e) I.ok.above))).trans (I.base.keep b o e n hb hx)
  ·obtain ⟨sl,e1⟩:=I.base.slot b o e n hb hx
   exact ⟨sl,(hs.2 b (Nat.ne_of_lt (Nat.lt_of_lt_of_le (Heap.lt_size e) I.ok.above))).trans e1⟩
  ·obtain ⟨o',e1⟩:=I.base.there b o e hx
   exact ⟨o',(hs.2 b (Nat.ne_of_lt (Nat.lt_of_lt_of_le (Heap.lt_size e) I.ok.above))).trans e1⟩
  ·by_cases hj:j=i
   ·subst hj
    rw [hi] at e1;cases e1
    rw [List.getElem?_set_self hiσ] at e2
    cases e2
    exact ⟨u,r,.inl ⟨hk,by simp⟩⟩
   ·rw [List.getElem?_set_ne (Ne.symm hj)] at e2
    obtain ⟨u',r',q⟩:=hl j y v' e1 e2 e3
    refine ⟨u',r',?_⟩
    rcases q with ⟨k,e⟩ | ⟨k,c,e,z⟩
    ·refine .inl ⟨k,?_⟩
     have:y≠x:=fun e=>hj (pU hN e1 (e▸hi))
     simp [this,e]
    ·exact .inr ⟨k,c,e,z.sameBut hs (cne y c e)⟩
  ·obtain ⟨w',z⟩:=I.cell y c e
   exact ⟨w',z.sameBut hs (cne y c e)⟩
  ·obtain ⟨e,n,ne,nf,d⟩:=I.pin p hp
   exact ⟨(hs.2 p.1 ne).trans e,n,ne,nf,d⟩
 ·have hfn:X.fn x=true:=by
   rcases hf with z | z
   ·exact z
   ·rw [z] at hk;cases hk
  obtain ⟨c,hc⟩:=I.ok.has x (.inl hk)
  obtain ⟨w',z⟩:=I.cell x c hc
  refine wpAny_storeName_cell I.ok.kind hk hc z (fun h' hc' hs=>?_)
  obtain ⟨oc,hoc,hocd⟩:=id z
  refine h { s with heap:=h' } ⟨I.ok,I.os,I.bare,⟨fun b o e n hb hx=>?_,fun b o e n hb hx=>?_,I.base.free,fun b o e hx=>?_,I.base.tups,I.base.frzs,I.base.tbls⟩,⟨m,hn.sameBut hs (Ne.symm (cne x c hc)),fun j y v' e1 e2 e3=>?_⟩,fun y c' e=>?_,I.free,I.freeC,fun p hp=>?_,tracked ⟨oc,hoc,I.freeC x c hc⟩ hs,by simpa using I.len⟩ ⟨c,hs,.inr hc⟩
  ·exact (hs.2 b (Nat.ne_of_lt (Nat.lt_of_lt_of_le (Heap.lt_size e) (I.ok.cab x c hfn hc)))).trans (I.base.keep b o e n hb hx)
  ·obtain ⟨sl,e1⟩:=I.base.slot b o e n hb hx
   exact ⟨sl,(hs.2 b (Nat.ne_of_lt (Nat.lt_of_lt_of_le (Heap.lt_size e) (I.ok.cab x c hfn hc)))).trans e1⟩
  ·obtain ⟨o',e1⟩:=I.base.there b o e hx
   exact ⟨o',(hs.2 b (Nat.ne_of_lt (Nat.lt_of_lt_of_le (Heap.lt_size e) (I.ok.cab x c hfn hc)))).trans e1⟩
  ·by_cases hj:j=i
   ·subst hj
    rw [hi] at e1;cases e1
    rw [List.getElem?_set_self hiσ] at e2
    cases e2
    exact ⟨u,r,.inr ⟨.inl hk,c,hc,hc'⟩⟩
   ·rw [List.getElem?_set_ne (Ne.symm hj)] at e2
    obtain ⟨u',r',q⟩:=hl j y v' e1 e2 e3
    refine ⟨u',r',?_⟩
    rcases q with q | ⟨k,c',e,z'⟩
    ·exact .inl q
    ·refine .inr ⟨k,c',e,z'.sameBut hs ?_⟩
     rintro rfl
     exact hj (pU hN e1 (I.ok.inj _ _ _ e hc▸hi))
  ·by_cases hcc:c'=c
   ·subst hcc;exact ⟨_,hc'⟩
   ·obtain ⟨w2,z2⟩:=I.cell y c' e
    exact ⟨w2,z2.sameBut hs hcc⟩
  ·obtain ⟨e,n,ne,nf,d⟩:=I.pin p hp
   refine ⟨(hs.2 p.1 ?_).trans e,n,ne,nf,d⟩
   intro q
   rw [q,hoc] at e
   have q':oc=p.2:=Option.some.inj e
   exact d w' (by rw [<- q'];exact hocd)
theorem jS {M:Model}{A:Around}{E:Value->Shared->Prop}{i:Nat}{x:Str}{v:V}{u:Value}{Q:Unit->Shared->Prop}(I:Inv X pins σ H s)(hN:X.N.Nodup)(hi:X.N[i]?=some x)(hx:Loc X.env.scope x)(r:bH v u)
  (h:∀ s',Inv X pins (σ.set i (some v)) H s'->Q () s') (hf:X.fn x=true∨X.env.scope.names.lookup x=some .local:=by first | exact .inl rfl | exact .inr rfl | assumption):wpAny M A (storeName X.env x u) Q E s :=
 rZ I hN hi hx r (fun s' I' _=>h s' I') hf
theorem Inv.call' {s':Shared}{ch:List Addr}(I:Inv X pins σ H s)(ho:s'.os=s.os)(u:Un (frs X.stack) ch H H' s.heap s'.heap)(hok:HOk X.prog X.w H' s'.heap)(hg:AllBare s'.gens)
  (hch:∀ b∈ch,(b∈X.ex∨X.s₀.heap.objs.size<=b)∧b≠X.env.locals∧(∀ x c,X.env.cells.lookup x=some c->c≠b)∧∀ p∈X.pn++pins,p.1≠b):Inv X pins σ H' s':=by
 obtain ⟨h',g',d',t',o'⟩:=s'
 have e:o'=s.os:=ho
 subst e
 exact I.call (g':=g') (t':=t') (d':=d') u hok hg hch
end
abbrev XK:=Value->Option Addr->Hp->Prop
abbrev St:=List (Option V)
abbrev VK:=V->Hp->Prop
abbrev TE:=St->Hp->VK->Prop
abbrev TT:=St->Hp->(Bool->Hp->Prop)->Prop
abbrev TA:=St->Hp->(List V->Hp->Prop)->Prop
set_option genInjectivity false in
structure kT where
 nx:St->Hp->Prop
 rt:VK
 bk:St->Hp->Prop:=fun _ _=>False
 ct:St->Hp->Prop:=fun _ _=>False
abbrev TS:=kT->St->Hp->Prop
def EP (X:Cx)(pins:List (Addr×Obj))(σ:St)(Q:VK)(u:Value)(s':Shared):Prop:=∃ v H',Inv X pins σ H' s'∧bH v u∧Q v H'
def TP (X:Cx)(pins:List (Addr×Obj))(σ:St)(Q:Bool->Hp->Prop)(b:Bool)(s':Shared):Prop:=∃ H',Inv X pins σ H' s'∧Q b H'
def AP (X:Cx)(pins:List (Addr×Obj))(σ:St)(Q:List V->Hp->Prop)(us:List Value)(s':Shared):Prop:=∃ vs H',Inv X pins σ H' s'∧bR vs us∧Q vs H'
def SP (X:Cx)(pins:List (Addr×Obj))(D:kT)(f:Flow)(s':Shared):Prop :=
 match f with
 | .next=>∃ σ' H',Inv X pins σ' H' s'∧D.nx σ' H'
 | .brk=>∃ σ' H',Inv X pins σ' H' s'∧D.bk σ' H'
 | .cont=>∃ σ' H',Inv X pins σ' H' s'∧D.ct σ' H'
 | .ret u=>∃ v σ' H',Inv X pins σ' H' s'∧bH v u∧D.rt v H'
def PE (X:Cx)(e:Expr)(t:TE):Prop :=
 ∀ (pins:List (Addr×Obj)) (s:Shared) (σ:St) (H:Hp) (Q:VK),Inv X pins σ H s->t σ H Q->wpAny (model X.prog X.w) X.A (eval e X.env) (EP X pins σ Q) X.xe s
def PT (X:Cx)(e:Expr)(t:TT):Prop :=
 ∀ (pins:List (Addr×Obj)) (s:Shared) (σ:St) (H:Hp) (Q:Bool->Hp->Prop),Inv X pins σ H s->t σ H Q->wpAny (model X.prog X.w) X.A (isTrue e X.env (eval e X.env)) (TP X pins σ Q) X.xe s
def PW (X:Cx)(e:Expr)(t:TT):Prop :=
 ∀ (whole:Sem Value) (pins:List (Addr×Obj)) (s:Shared) (σ:St) (H:Hp) (Q:Bool->Hp->Prop),Inv X pins σ H s->t σ H Q->wpAny (model X.prog X.w) X.A (isTrue e X.env whole) (TP X pins σ Q) X.xe s
theorem PW.pt {X:Cx}{e:Expr}{t:TT}(h:PW X e t):PT X e t:=h _
def PA (X:Cx)(es:List Expr)(t:TA):Prop :=
 ∀ (pos:Pos) (pins:List (Addr×Obj)) (s:Shared) (σ:St) (H:Hp) (Q:List V->Hp->Prop),Inv X pins σ H s->t σ H Q->wpAny (model X.prog X.w) X.A (spliced (backTo pos (starEach es X.env))) (AP X pins σ Q) X.xe s
def PS (X:Cx)(st:Stmt)(t:TS):Prop :=
 ∀ (pins:List (Addr×Obj)) (s:Shared) (σ:St) (H:Hp) (D:kT),Inv X pins σ H s->t D σ H->wpAny (model X.prog X.w) X.A (exec st X.env) (SP X pins D) X.xe s
def PSs (X:Cx)(st:List Stmt)(t:TS):Prop :=
 ∀ (pins:List (Addr×Obj)) (s:Shared) (σ:St) (H:Hp) (D:kT),Inv X pins σ H s->t D σ H->wpAny (model X.prog X.w) X.A (execs st X.env) (SP X pins D) X.xe s
theorem thn {α:Type}{t:Sem α}{Q Q':α->Shared->Prop}{M:Model}{A:Around}{E:Value->Shared->Prop}{s:Shared}(h:wpAny M A t Q E s)(hQ:∀ a s,Q a s->Q' a s):wpAny M A t Q' E s:=wpAny_mono h hQ fun _ _ x=>x
end L2
namespace L2
open PySem PySem.Spec PyProof.Rows
section
variable {X:Cx}
def Ow (i:Nat):TE:=fun σ H Q=>∃ v,σ[i]?=some (some v)∧Q v H
def tC (v:V):TE:=fun _ H Q=>Q v H
theorem Mb {i:Nat}{x:Str}{pos:Pos}(hN:X.N[i]?=some x)(hv:Vis X.env.scope x)(hd:(x==("__debug__" : Str))=false:=by decide)(hcd:(x==("__classdict__" : Str))=false:=by decide):PE X (.Name x pos) (Ow i):=by
 intro pins s σ H Q I h
 obtain ⟨v,e,h⟩:=h
 obtain ⟨m,hn,hl⟩:=I.loc
 obtain ⟨u,r,l⟩:=hl i x v hN e hv
 have fin:EP X pins σ Q u s:=⟨v,H,I,r,h⟩
 rcases l with ⟨hk,hm⟩ | ⟨hk,c,hc,hcell⟩
 ·exact wpAny_Name (wpAny_loadName_local I.ok.kind hk hn hm fin) hd
 ·rcases hk with hk | hk
  ·exact wpAny_Name (wpAny_loadName_cell I.ok.kind hk hc hcell fin) hd
  ·exact wpAny_Name (wpAny_loadName_free I.ok.kind hk hc hcell fin hcd) hd
theorem aE {i j pos}:PE X (.Constant (.int i) j pos) (tC (.int i)):=fun _ _ _ H _ I h=>wpAny_Constant_int ⟨.int i,H,I.tok _,⟨_,rfl⟩,h⟩
theorem hU {b j pos}:PE X (.Constant (.bool b) j pos) (tC (.bl b)):=fun _ _ _ H _ I h=>Constant_bool ⟨.bl b,H,I,rfl,h⟩
theorem mT {j pos}:PE X (.Constant .none j pos) (tC .non):=fun _ _ _ H _ I h=>Constant_none ⟨.non,H,I,rfl,h⟩
theorem Ld {x j pos}:PE X (.Constant (.str x) j pos) (tC (.str x)):=fun _ _ _ H _ I h=>Calls.Constant_str ⟨.str x,H,I.tok _,⟨_,rfl⟩,h⟩
def Gl (X:Cx)(x:Str):Prop:=X.env.kindOf x=some .globalImplicit
theorem kL {E:Value->Shared->Prop}{pins:List (Addr×Obj)}{s:Shared}{σ:St}{H:Hp}{x:Str}{u:Value}{pos:Pos}{Q:Value->Shared->Prop}(I:Inv X pins σ H s)(hg:Gl X x)(hm:X.mg x=some u)(h:Q u s)
  (hd:(x==("__debug__" : Str))=false:=by decide):wpAny (model X.prog X.w) X.A (eval (.Name x pos) X.env) Q E s :=
 Calls.Name_function_global I.ok.kind hg (Calls.loadGlobal_global (by rw [I.ok.glob];exact I.mod.glob.keeps I.bk) hm h) hd
theorem qH {E:Value->Shared->Prop}{pins:List (Addr×Obj)}{s:Shared}{σ:St}{H:Hp}{x:Str}{u:Value}{pos:Pos}{Q:Value->Shared->Prop}(I:Inv X pins σ H s)(hg:Gl X x)(hm:X.mg x=none)(hv:bootBuiltins x=some u)(h:Q u s)
  (hn:x ≠ "__name__" := by decide) (hd:(x==("__debug__" : Str))=false:=by decide):wpAny (model X.prog X.w) X.A (eval (.Name x pos) X.env) Q E s:=by
 obtain ⟨mb,h1,h2⟩:=I.mod.blt
 exact Calls.Name_function_global I.ok.kind hg (Calls.loadGlobal_builtin (by rw [I.ok.glob];exact I.mod.glob.keeps I.bk) hm (by rw [I.ok.blt];exact h1.keeps I.bk) ((h2 x hn).trans hv) h) hd
theorem dA {x:Str}{v:V}{u:Value}{pos:Pos}(hg:Gl X x)(hm:X.mg x=some u)(r:bH v u)(hd:(x==("__debug__" : Str))=false:=by decide):PE X (.Name x pos) (tC v) :=
 fun _ _ _ H _ I h=>kL I hg hm ⟨v,H,I,r,h⟩ hd
variable {a b:Expr}{ta tb:TE}{pos:Pos}
def PC (X:Cx)(op:CmpOp)(a b:Expr)(t:TE):Prop :=
 ∀ (pins:List (Addr×Obj)) (s:Shared) (σ:St) (H:Hp) (Q:VK),Inv X pins σ H s->t σ H Q ->
  wpAny (model X.prog X.w) X.A (eval a X.env) (fun v s₁=>wpAny (model X.prog X.w) X.A (eval b X.env) (fun u s₂=>wpAny (model X.prog X.w) X.A (compareOp op v u) (EP X pins σ Q) X.xe s₂) X.xe s₁) X.xe s
theorem Gw (b:Expr){op:CmpOp}(h:op≠.In)(h2:op≠.NotIn):behindInMarks op b=false:=by
 have e1:(op==CmpOp.In)=false:=by cases op <;> first | rfl | exact absurd rfl h
 have e2:(op==CmpOp.NotIn)=false:=by cases op <;> first | rfl | exact absurd rfl h2
 cases b <;> simp [behindInMarks,e1,e2]
def Qg (ta:TE):TE:=fun σ H Q=>ta σ H fun x H1=>Q (.bl (decide (x = .non))) H1
theorem bH.none_iff {x:V}{v:Value}(r:bH x v):(v==Value.none)=decide (x = .non):=by
 cases x with
 | non=>cases r;rfl
 | bl _=>cases r;rfl
 | int _=>obtain ⟨t,rfl⟩:=r;rfl
 | str _=>obtain ⟨t,rfl⟩:=r;rfl
 | byt _=>obtain ⟨t,rfl⟩:=r;rfl
 | flt _=>obtain ⟨t,rfl⟩:=r;rfl
 | ref _=>cases r;rfl
 | ty _=>cases r;rfl
theorem Ly {j pos'}(ha:PE X a ta):PC X .Is a (.Constant .none j pos') (Qg ta):=by
 intro pins s σ H Q I h
 refine thn (ha pins s σ H _ I h) fun v s1 ⟨x,H1,I1,r1,q1⟩=>?_
 exact Constant_none (is_none_gen ⟨.bl _,H1,I1,by rw [r1.none_iff];rfl,q1⟩)
def tB (t:TE):TT:=fun σ H Q=>t σ H fun x H1=>∃ c,x = .bl c∧Q c H1
theorem Gs {op:CmpOp}{t:TE}(h:PC X op a b t)(h1:behindInMarks op b=false:=by first | exact Gw _ (by decide) (by decide) | rfl):PT X (.Compare a [op] [b] pos) (tB t):=by
 intro pins s σ H Q I hw
 refine wpAny_isTrue_Compare1 (thn (h pins s σ H _ I hw) fun v s1 h1=>thn h1 fun u s2 h2=>thn h2 fun c s3 ⟨x,H1,I1,r1,q1⟩=>?_) h1
 obtain ⟨d,rfl,q⟩:=q1
 cases r1
 exact wpAny_truthy_bool ⟨H1,I1,q⟩
theorem Hh {e:Expr}{t:TE}(h:PE X e t)(he:∀ whole,isTrue e X.env whole=(do let v <- whole;standAt e.pos;holding [v] (truthy v)):=by intro _;rfl):PT X e (tB t):=by
 intro pins s σ H Q I hw
 refine isTrue_plain (thn (h pins s σ H _ I hw) fun v s1 ⟨x,H1,I1,r1,q1⟩=>?_) (he _)
 obtain ⟨d,rfl,q⟩:=q1
 cases r1
 exact wpAny_truthy_bool ⟨H1,I1,q⟩
variable {tA tB':TT}{rest:List Expr}
def Qm (t u:TT):TT:=fun σ H Q=>t σ H fun c H1=>if c=true then u σ H1 Q else Q false H1
def tOr (t u:TT):TT:=fun σ H Q=>t σ H fun c H1=>if c=true then Q true H1 else u σ H1 Q
def Ri (t:TT):TT:=fun σ H Q=>t σ H fun c H1=>Q (!c) H1
theorem oR (ha:PT X a tA):PW X (.BoolOp .And [a] pos) tA:=by
 intro wh pins s σ H Q I h
 refine isTrue_and (thn (ha pins s σ H Q I h) fun c s1 e=>?_)
 cases c with
 | true=>exact isTrue_and_nil e
 | false=>exact e
theorem pY (ha:PT X a tA):PW X (.BoolOp .Or [a] pos) tA:=by
 intro wh pins s σ H Q I h
 refine isTrue_or (thn (ha pins s σ H Q I h) fun c s1 e=>?_)
 cases c with
 | false=>exact isTrue_or_nil e
 | true=>exact e
theorem uW (ha:PT X a tA)(hb:PW X (.BoolOp .And (b::rest) pos) tB'):PW X (.BoolOp .And (a::b::rest) pos) (Qm tA tB'):=by
 intro wh pins s σ H Q I h
 refine isTrue_and (thn (ha pins s σ H _ I h) fun c s1 ⟨H1,I1,q1⟩=>?_)
 cases c with
 | true=>exact hb wh pins s1 σ H1 Q I1 q1
 | false=>exact ⟨H1,I1,q1⟩
theorem wI (ha:PT X a tA)(hb:PW X (.BoolOp .Or (b::rest) pos) tB'):PW X (.BoolOp .Or (a::b::rest) pos) (tOr tA tB'):=by
 intro wh pins s σ H Q I h
 refine isTrue_or (thn (ha pins s σ H _ I h) fun c s1 ⟨H1,I1,q1⟩=>?_)
 cases c with
 | true=>exact ⟨H1,I1,q1⟩
 | false=>exact hb wh pins s1 σ H1 Q I1 q1
theorem Fa (ha:PT X a tA):PT X (.UnaryOp .Not a pos) (Ri tA):=by
 intro pins s σ H Q I h
 exact isTrue_not (ha pins s σ H (fun c H1=>Q (!c) H1) I h)
def Pc (ta tb:TE):TE:=fun σ H Q=>ta σ H fun x H1=>∃ c,x = .bl c∧if c=true then tb σ H1 Q else Q (.bl false) H1
theorem oU {op}{t:TE}(h:PE X a t):PE X (.BoolOp op [a] pos) t:=fun pins s σ H Q I hw=>BoolOp_one (h pins s σ H Q I hw)
theorem pA (ha:PE X a ta)(hb:PE X (.BoolOp .And (b::rest) pos) tb):PE X (.BoolOp .And (a::b::rest) pos) (Pc ta tb):=by
 intro pins s σ H Q I h
 refine BoolOp_and (thn (ha pins s σ H _ I h) fun v s1 ⟨x,H1,I1,r1,q1⟩=>?_)
 obtain ⟨c,rfl,q1⟩:=q1
 cases r1
 refine wpAny_truthy_bool ?_
 cases c with
 | true=>exact hb pins s1 σ H1 Q I1 q1
 | false=>exact ⟨.bl false,H1,I1,rfl,q1⟩
def tIf (t:TT)(ta tb:TE):TE:=fun σ H Q=>t σ H fun c H1=>if c=true then ta σ H1 Q else tb σ H1 Q
theorem Em {c:Expr}(hc:PT X c tA)(ha:PE X a ta)(hb:PE X b tb):PE X (.IfExp c a b pos) (tIf tA ta tb):=by
 intro pins s σ H Q I h
 refine wpAny_IfExp (thn (hc pins s σ H _ I h) fun d s1 ⟨H1,I1,q1⟩=>?_)
 cases d with
 | true=>exact ha pins s1 σ H1 Q I1 q1
 | false=>exact hb pins s1 σ H1 Q I1 q1
end
end L2
namespace L2
open PySem PySem.Spec PyProof.Rows
def SqL (K:PySem.W.Frag)(H:Hp)(a:Addr)(xs:List V):Prop :=
 Rd H a (.lst xs) ∨
  ∃ (o:Obj) (its:Array Value) (n:Nat),K.lookup a=some o∧o.cls = .type "list" ∧ o.dict=none∧o.data = .seq its n∧its.size<=sizeLine∧bR xs its.toList
def SqT (K:PySem.W.Frag)(H:Hp)(a:Addr)(xs:List V):Prop :=
 Rd H a (.tup xs) ∨
  ∃ (o:Obj) (its:Array Value) (n:Nat),K.lookup a=some o∧o.cls = .type "tuple" ∧ o.data = .seq its n∧its.size<=sizeLine∧bR xs its.toList
def Qi:Value->Option V
 | .none=>some .non
 | .bool b=>some (.bl b)
 | .int i _=>some (.int i)
 | .str x _=>some (.str x)
 | .bytes b _=>some (.byt b)
 | .float b _=>some (.flt b)
 | .ref a=>some (.ref a)
 | .type n=>some (.ty n)
 | _=>none
theorem bH.abs {x:V}{u:Value}(r:bH x u):Qi u=some x:=by
 cases x with
 | non=>cases r;rfl
 | bl _=>cases r;rfl
 | int _=>obtain ⟨t,rfl⟩:=r;rfl
 | str _=>obtain ⟨t,rfl⟩:=r;rfl
 | byt _=>obtain ⟨t,rfl⟩:=r;rfl
 | flt _=>obtain ⟨t,rfl⟩:=r;rfl
 | ref _=>cases r;rfl
 | ty _=>cases r;rfl
theorem bH.inj {x y:V}{u:Value}(r:bH x u)(q:bH y u):x=y:=Option.some.inj (r.abs.symm.trans q.abs)
theorem bR.inj:∀ {xs ys:List V} {us:List Value},bR xs us->bR ys us->xs=ys
 | _,_,_,.nil,.nil=>rfl
 | _,_,_,.cons r t,.cons r' t'=>by rw [r.inj r',bR.inj t t']
section
variable {X:Cx}{pins:List (Addr×Obj)}{σ:St}{H:Hp}{s:Shared}{a:Addr}{xs ys:List V}
theorem SqL.of {K:PySem.W.Frag}(h:H a=some (.lst xs)):SqL K H a xs:=.inl (.inl h)
theorem SqT.of {K:PySem.W.Frag}(h:H a=some (.tup xs)):SqT K H a xs:=.inl (.inl h)
theorem Inv.list (I:Inv X pins σ H s)(h:SqL X.K H a xs):∃ its:List Value,bR xs its∧PlainL s.heap a its.toArray∧xs.length<=sizeLine:=by
 rcases h with h | ⟨o,its,n,hk,hc,hd,hs,hz,r⟩
 ·obtain ⟨z,its,n,r,e⟩:=h.ok I.hok
  exact ⟨its,r,⟨_,n,e,rfl,rfl,rfl⟩,z⟩
 ·refine ⟨its.toList,r,⟨o,n,I.kIn a o hk,hc,hd,by simpa using hs⟩,?_⟩
  have e:=r.length
  simp only [Array.length_toList] at e
  omega
theorem Inv.tuple (I:Inv X pins σ H s)(h:SqT X.K H a xs):∃ its:List Value,bR xs its∧IsTup s.heap a its.toArray∧xs.length<=sizeLine:=by
 rcases h with h | ⟨o,its,n,hk,hc,hs,hz,r⟩
 ·obtain ⟨z,its,r,p⟩:=h.ok I.hok
  exact ⟨its,r,p,z⟩
 ·refine ⟨its.toList,r,⟨o,I.kIn a o hk,hc,n,by simpa using hs⟩,?_⟩
  have e:=r.length
  simp only [Array.length_toList] at e
  omega
theorem Inv.list_inj (I:Inv X pins σ H s)(h:SqL X.K H a xs)(h':SqL X.K H a ys):xs=ys:=by
 obtain ⟨its,r,⟨o,n,e,_,_,d⟩,_⟩:=I.list h
 obtain ⟨its',r',⟨o',n',e',_,_,d'⟩,_⟩:=I.list h'
 rw [e] at e';cases e'
 rw [d] at d'
 injection d' with d1 _
 have:its=its':=by simpa using congrArg Array.toList d1
 subst this
 exact r.inj r'
theorem Inv.tuple_inj (I:Inv X pins σ H s)(h:SqT X.K H a xs)(h':SqT X.K H a ys):xs=ys:=by
 obtain ⟨its,r,⟨o,e,_,n,d⟩,_⟩:=I.tuple h
 obtain ⟨its',r',⟨o',e',_,n',d'⟩,_⟩:=I.tuple h'
 rw [e] at e';cases e'
 rw [d] at d'
 injection d' with d1 _
 have:its=its':=by simpa using congrArg Array.toList d1
 subst this
 exact r.inj r'
end
abbrev Cx.wish (X:Cx)(E:Value->Shared->Prop):Cx:={ X with xe:=E }
abbrev Cx.nox (X:Cx):Cx:=X.wish fun _ _=>False
theorem Cx.Ok.wish {X:Cx}(ok:X.Ok)(E:Value->Shared->Prop):(X.wish E).Ok :=
 ⟨ok.mod,ok.kind,ok.glob,ok.blt,ok.above,ok.inj,ok.has,ok.cab,ok.hd,ok.frames,ok.stk,ok.exf,ok.bs,ok.bsz,ok.noex,ok.exfs,ok.funs,ok.frf⟩
theorem Cx.Ok.unwish {X:Cx}{E:Value->Shared->Prop}(ok:(X.wish E).Ok):X.Ok :=
 ⟨ok.mod,ok.kind,ok.glob,ok.blt,ok.above,ok.inj,ok.has,ok.cab,ok.hd,ok.frames,ok.stk,ok.exf,ok.bs,ok.bsz,ok.noex,ok.exfs,ok.funs,ok.frf⟩
section
variable {X:Cx}{pins:List (Addr×Obj)}{σ:St}{H:Hp}{s:Shared}{E:Value->Shared->Prop}
theorem Inv.wish (I:Inv X pins σ H s)(E:Value->Shared->Prop):Inv (X.wish E) pins σ H s:=⟨I.ok.wish E,I.os,I.bare,I.base,I.loc,I.cell,I.free,I.freeC,I.pin,I.hok,I.len⟩
theorem Inv.unwish (I:Inv (X.wish E) pins σ H s):Inv X pins σ H s:=⟨I.ok.unwish,I.os,I.bare,I.base,I.loc,I.cell,I.free,I.freeC,I.pin,I.hok,I.len⟩
theorem SP.unwish {D:kT}{f:Flow}{s':Shared}(h:SP (X.wish E) pins D f s'):SP X pins D f s':=by
 cases f with
 | next=>obtain ⟨σ',H',I,q⟩:=h;exact ⟨σ',H',I.unwish,q⟩
 | brk=>obtain ⟨σ',H',I,q⟩:=h;exact ⟨σ',H',I.unwish,q⟩
 | cont=>obtain ⟨σ',H',I,q⟩:=h;exact ⟨σ',H',I.unwish,q⟩
 | ret u=>obtain ⟨v,σ',H',I,r,q⟩:=h;exact ⟨v,σ',H',I.unwish,r,q⟩
theorem PSs.nox {st:List Stmt}{t:TS}(h:PSs X.nox st t):PSs X st t:=fun pins s σ H D I hw =>
 wpAny_mono (h pins s σ H D (I.wish _) hw) (fun _ _ q=>q.unwish) fun _ _ z=>False.elim z
end
section
variable {X:Cx}{st:Stmt}{rest:List Stmt}{t u:TS}{e:Expr}{te:TE}{pos:Pos}
def Oh:TS:=fun D σ H=>D.nx σ H
def Qk (t u:TS):TS:=fun D σ H=>t { D with nx:=u D } σ H
theorem aW:PSs X [] Oh:=fun _ _ σ H _ I h=>wpAny_execs_nil ⟨σ,H,I,h⟩
theorem aB (h1:PS X st t)(h2:PSs X rest u):PSs X (st::rest) (Qk t u):=by
 intro pins s σ H D I h
 refine wpAny_execs_cons (thn (h1 pins s σ H { D with nx:=u D } I h) fun f s1 q=>?_)
 cases f with
 | next =>
  obtain ⟨σ',H',I',q⟩:=q
  exact h2 pins s1 σ' H' D I' q
 | ret v=>exact q
 | brk=>exact q
 | cont=>exact q
theorem aG (h1:PS X st t):PSs X [st] t:=by
 intro pins s σ H D I h
 refine wpAny_execs_cons (thn (h1 pins s σ H D I h) fun f s1 q=>?_)
 cases f with
 | next=>exact wpAny_execs_nil q
 | ret v=>exact q
 | brk=>exact q
 | cont=>exact q
def Nj:TS:=fun D σ H=>D.bk σ H
theorem wV:PS X (.Break pos) Nj:=fun _ _ σ H _ I h=>wpAny_Break ⟨σ,H,I,h⟩
theorem Inv.quiet {pins:List (Addr×Obj)}{σ:St}{H:Hp}{s:Shared}(I:Inv X pins σ H s):interactive X.env=false:=by simp [interactive,I.ok.kind]
def Ol (te:TE):TS:=fun D σ H=>te σ H fun _ H1=>D.nx σ H1
theorem dG (he:PE X e te)(hs:swapsWith e none pos.line X.env=pure false:=by rfl):PS X (.Expr e pos) (Ol te):=by
 intro pins s σ H D I h
 exact wpAny_Expr_any (thn (he pins s σ H _ I h) fun v s1 ⟨x,H1,I1,r1,q1⟩=>⟨σ,H1,I1,q1⟩) I.quiet hs
def Qo (te:TE):TS:=fun D σ H=>te σ H D.rt
theorem bA (he:PE X e te):PS X (.Return (some e) pos) (Qo te):=by
 intro pins s σ H D I h
 exact wpAny_Return_some (thn (he pins s σ H _ I h) fun v s1 ⟨x,H1,I1,r1,q1⟩=>⟨x,σ,H1,I1,r1,q1⟩)
def Qw (c:TT)(t u:TS):TS:=fun D σ H=>c σ H fun b H1=>if b=true then t D σ H1 else u D σ H1
theorem bT {c:Expr}{a b:List Stmt}{tc:TT}(hc:PT X c tc)(ha:PSs X a t)(hb:PSs X b u):PS X (.If c a b pos) (Qw tc t u):=by
 intro pins s σ H D I h
 refine wpAny_If (thn (hc pins s σ H _ I h) fun d s1 ⟨H1,I1,q1⟩=>?_)
 cases d with
 | true=>exact ha pins s1 σ H1 D I1 q1
 | false=>exact hb pins s1 σ H1 D I1 q1
end
abbrev TG:=V->St->Hp->(St->Hp->Prop)->Prop
abbrev TGs:=List V->St->Hp->(St->Hp->Prop)->Prop
def PG (X:Cx)(target:Expr)(t:TG):Prop :=
 ∀ (pins:List (Addr×Obj)) (s:Shared) (σ:St) (H:Hp) (v:V) (u:Value) (Q:St->Hp->Prop),Inv X pins σ H s->bH v u->t v σ H Q ->
  wpAny (model X.prog X.w) X.A (assign target X.env u) (fun _ s'=>∃ σ' H',Inv X pins σ' H' s'∧Q σ' H') X.xe s
def PGs (X:Cx)(ts:List Expr)(t:TGs):Prop :=
 ∀ (pins:List (Addr×Obj)) (s:Shared) (σ:St) (H:Hp) (vs:List V) (us:List Value) (Q:St->Hp->Prop),Inv X pins σ H s->bR vs us->t vs σ H Q ->
  wpAny (model X.prog X.w) X.A (assignInOrder ((assignEach ts X.env).map (·.2)) us) (fun _ s'=>∃ σ' H',Inv X pins σ' H' s'∧Q σ' H') X.xe s
abbrev Rg:=V->V->V->Hp->(Hp->Prop)->Prop
def Qe (X:Cx)(t:Rg):Prop :=
 ∀ (pins:List (Addr×Obj)) (s:Shared) (σ:St) (H:Hp) (o i v:V) (ov iv u:Value) (Q:Hp->Prop),Inv X pins σ H s->bH o ov->bH i iv->bH v u->t o i v H Q ->
  wpAny (model X.prog X.w) X.A (setItem ov iv u) (fun _ s'=>∃ H',Inv X pins σ H' s'∧Q H') X.xe s
section
variable {X:Cx}{pos:Pos}
def sB (i:Nat):TG:=fun v σ H Q=>Q (σ.set i (some v)) H
theorem bJ {i:Nat}{x:Str}(hN:X.N.Nodup)(hi:X.N[i]?=some x)(hx:Loc X.env.scope x)(hf:X.fn x=true∨X.env.scope.names.lookup x=some .local:=by first | exact .inl rfl | exact .inr rfl | assumption):PG X (.Name x pos) (sB i):=by
 intro pins s σ H v u Q I r h
 exact wpAny_assign_Name (jS I hN hi hx r (fun s' I'=>⟨_,H,I',h⟩) hf)
def Qc:TGs:=fun vs σ H Q=>vs=[]∧Q σ H
def Pt (t:TG)(u:TGs):TGs:=fun vs σ H Q=>∃ v r,vs=v::r∧t v σ H fun σ' H'=>u r σ' H' Q
theorem uA:PGs X [] Qc:=by
 intro pins s σ H vs us Q I r h
 obtain ⟨e,h⟩:=h
 subst e
 cases r
 exact assignInOrder_nil ⟨σ,H,I,h⟩
theorem gZ {e:Expr}{es:List Expr}{t:TG}{u:TGs}(h1:PG X e t)(h2:PGs X es u)
  (hs:(assignEach (e::es) X.env).map (·.2)=assign e X.env::(assignEach es X.env).map (·.2):=by rfl):PGs X (e::es) (Pt t u):=by
 intro pins s σ H vs us Q I r h
 obtain ⟨v,vr,e1,h⟩:=h
 subst e1
 cases r with
 | cons r rr =>
  rw [hs]
  refine assignInOrder_cons (thn (h1 pins s σ H _ _ _ I r h) fun _ s1 ⟨σ1,H1,I1,q1⟩=>?_)
  exact h2 pins s1 σ1 H1 _ _ Q I1 rr q1
def Qr (K:PySem.W.Frag)(n:Nat)(t:TGs):TG:=fun v σ H Q=>∃ a xs,v = .ref a∧SqT K H a xs∧xs.length=n∧t xs σ H Q
theorem yR {es:List Expr}{k:Nat}{t:TGs}{n:Nat}(hc:X.calm=true)(h:PGs X es t)
  (hn:(assignEach es X.env).length=n:=by rfl) (hst:(assignEach es X.env).findIdx? (·.1)=none:=by rfl):PG X (.Tuple es k pos) (Qr X.K n t):=by
 intro pins s σ H v u Q I r hw
 obtain ⟨a,xs,e1,hq,hl,hw⟩:=hw
 subst e1
 cases r
 obtain ⟨its,rv,ht,hz⟩:=I.tuple hq
 refine assign_Tuple_tuple (I.ok.hd hc) ht (by simp [hn,<- hl,rv.length]) hst fun h' hx=>?_
 have I1:Inv X pins σ H { s with heap:=h' }:=I.kept (t':=s.toks) fun b o e=>hx b o (Nat.ne_of_lt (Heap.lt_size e)) e
 exact h pins _ σ H xs _ Q I1 (by simpa using rv) hw
def En (te:TE)(g:TG):TS:=fun D σ H=>te σ H fun x H1=>g x σ H1 D.nx
theorem Lg {tg e:Expr}{te:TE}{g:TG}(he:PE X e te)(hg:PG X tg g)(hs:swapsWithSole [tg] e pos.line X.env=pure false:=by rfl)(hw:swappedStores [tg] e X.env=pure none:=by rfl)
  (h1:(assignEach [tg] X.env).map (·.2)=[assign tg X.env]:=by rfl):PS X (.Assign [tg] e pos) (En te g):=by
 intro pins s σ H D I h
 refine wpAny_Assign_stores (thn (he pins s σ H _ I h) fun v s1 ⟨x,H1,I1,r1,q1⟩=>?_) hs hw
 rw [h1]
 exact thn (hg pins s1 σ H1 x v _ I1 r1 q1) fun _ s2 q=>q
theorem aI {i:Nat}{x:Str}{e:Expr}{te:TE}{pos':Pos}(hN:X.N.Nodup)(hi:X.N[i]?=some x)(hx:Loc X.env.scope x)(he:PE X e te)(hs:swapsWith e (some (.Name x pos')) pos.line X.env=pure false:=by rfl)(hf:X.fn x=true∨X.env.scope.names.lookup x=some .local:=by first | exact .inl rfl | exact .inr rfl | assumption) :
  PS X (.Assign [.Name x pos'] e pos) (En te (sB i)):=by
 intro pins s σ H D I h
 refine wpAny_Assign_Name (thn (he pins s σ H _ I h) fun v s1 ⟨y,H1,I1,r1,q1⟩=>?_) hs
 exact jS I1 hN hi hx r1 (fun s2 I2=>⟨_,H1,I2,q1⟩) hf
end
section
variable {X:Cx}{pos:Pos}
def La (c:TT)(tb:TS):TS:=fun D σ H=>∃ W:Nat->St->Hp->Prop,(∃ m,W m σ H)∧∀ m σ H,W m σ H ->
 c σ H fun b H1=>if b=true then ∃ N:St->Hp->Prop,(∀ σ' H',N σ' H'->∃ m',m'<m∧W m' σ' H')∧tb { D with nx:=N,ct:=N,bk:=D.nx } σ H1 else D.nx σ H1
theorem jZ {c:Expr}{body:List Stmt}{tc:TT}{tb:TS}(hp:PassesOwn (model X.prog X.w) X.A X.env X.xe)(hc:PT X c tc)(hb:PSs X body tb):PS X (.While c body [] pos) (La tc tb):=by
 intro pins s σ H D I h
 obtain ⟨W,⟨m0,w0⟩,turn⟩:=h
 refine wpAny_While (codeAny_whileLoop (fun n s'=>∃ σ' H',Inv X pins σ' H' s'∧W n σ' H') ?_ m0 ⟨σ,H,I,w0⟩)
 rintro n s1 ⟨σ1,H1,I1,w1⟩
 refine wpAny_passesOwn hp (thn (hc pins s1 σ1 H1 _ I1 (turn n σ1 H1 w1)) fun b s2 ⟨H2,I2,q2⟩=>?_)
 cases b with
 | true =>
  obtain ⟨N,hN,q2⟩:=q2
  rw [if_pos rfl]
  refine wpAny_passesOwn hp (thn (hb pins s2 σ1 H2 _ I2 q2) fun f s3 q3=>?_)
  cases f with
  | next =>
   obtain ⟨σ3,H3,I3,n3⟩:=q3
   obtain ⟨m',hm,w3⟩:=hN σ3 H3 n3
   exact ⟨m',hm,σ3,H3,I3,w3⟩
  | cont =>
   obtain ⟨σ3,H3,I3,n3⟩:=q3
   obtain ⟨m',hm,w3⟩:=hN σ3 H3 n3
   exact ⟨m',hm,σ3,H3,I3,w3⟩
  | brk=>exact q3
  | ret v=>exact q3
 | false =>
  rw [if_neg Bool.false_ne_true]
  exact wpAny_execs_nil ⟨σ1,H2,I2,q2⟩
end
set_option genInjectivity false in
structure It where
 go:Nat->Hp->Prop
 yld:Nat->Hp->V->Hp->Prop
 stop:Nat->Hp->Prop
def lK (X:Cx)(pins:List (Addr×Obj))(H:Hp)(b:Addr):Prop :=
 H b=none∧b≠X.env.locals∧b∉X.fs∧(b∈X.ex∨X.s₀.heap.objs.size<=b)∧(∀ x c,X.env.cells.lookup x=some c->c≠b)∧∀ p∈X.pn++pins,p.1≠b
theorem Inv.fpOk {X:Cx}{pins:List (Addr×Obj)}{σ:St}{H H':Hp}{s:Shared}{b:Addr}(I:Inv X pins σ H s)(hb:s.heap.objs.size<=b)(hn:H' b=none):lK X pins H' b:=by
 refine ⟨hn,Nat.ne_of_gt (Nat.lt_of_lt_of_le I.lt hb),I.nofs hb,.inr (Nat.le_trans I.sz hb),fun x c e z=>?_,fun p hp z=>?_⟩
 ·obtain ⟨v,q⟩:=I.cell x c e
  exact absurd (Nat.lt_of_lt_of_le q.lt (by rw [z];exact hb)) (Nat.lt_irrefl _)
 ·exact absurd (Nat.lt_of_lt_of_le (Heap.lt_size (I.pin p hp).1) (by rw [z];exact hb)) (Nat.lt_irrefl _)
set_option genInjectivity false in
structure tY (P:Program)(w:World)(K:PySem.W.Frag)(tg:Expr)(J:It)(fp:List Addr)(it:Addr)(tn:Nat->Heap->Prop):Prop where
 mem:it∈fp
 obj:∀ i h,tn i h->∀ b∈fp,∃ o,h.get? b=some o∧∀ v,o.data≠.cell v
 keep:∀ i h h',tn i h->(∀ b∈fp,∀ o,h.get? b=some o->h'.get? b=some o)->tn i h'
 item:∀ (X:Cx),X.prog=P->X.w=w->X.K=K->X.calm=true->∀ (i:Nat) (pins:List (Addr×Obj)) (s:Shared) (σ:St) (H:Hp) (E:Value->Shared->Prop),Inv X pins σ H s->(∀ b∈fp,lK X pins H b)->tn i s.heap->J.go i H ->
  wpAny (model P w) X.A (pyNext (.ref it)) (fun r s1=>∃ u,r=some u ∧
   wpAny (model P w) X.A (letOwnedTupleGo tg (.ref it) u) (fun _ s2=>∃ x H',Inv X pins σ H' s2∧bH x u∧J.yld i H x H'∧tn (i+1) s2.heap∧∀ b∈fp,H' b=none) E s1) E s
 done:∀ (X:Cx),X.prog=P->X.w=w->X.K=K->X.calm=true->∀ (i:Nat) (pins:List (Addr×Obj)) (s:Shared) (σ:St) (H:Hp) (E:Value->Shared->Prop),Inv X pins σ H s->(∀ b∈fp,lK X pins H b)->tn i s.heap->J.stop i H ->
  wpAny (model P w) X.A (pyNext (.ref it)) (fun r s1=>r=none∧Inv X pins σ H s1) E s
 self:∀ (A:Around) (i:Nat) (s:Shared) (Q:Value->Shared->Prop) (E:Value->Shared->Prop),tn i s.heap->Q (.ref it) s->wpAny (model P w) A (pyIter (.ref it)) Q E s
abbrev TI:=St->Hp->(It->Hp->Prop)->Prop
def PIE (X:Cx)(pins:List (Addr×Obj))(σ:St)(tg:Expr)(R:It->Hp->Prop)(itv:Value)(s2:Shared):Prop :=
 ∃ (it:Addr) (fp:List Addr) (tn:Nat->Heap->Prop) (J:It) (H':Hp),itv = .ref it∧Inv X pins σ H' s2∧tY X.prog X.w X.K tg J fp it tn∧tn 0 s2.heap∧(∀ b∈fp,lK X pins H' b)∧R J H'
def PI (X:Cx)(tg iter:Expr)(wi:TI):Prop :=
 ∀ (pins:List (Addr×Obj)) (s:Shared) (σ:St) (H:Hp) (R:It->Hp->Prop),Inv X pins σ H s->wi σ H R ->
  wpAny (model X.prog X.w) X.A (eval iter X.env) (fun v s1=>wpAny (model X.prog X.w) X.A (pyIter v) (PIE X pins σ tg R) X.xe s1) X.xe s
theorem Af {M : Model} {A : Around} {E : Value → Shared → Prop} {s : Shared} {tg : Expr} {it : Addr} {u : Value} {o : Obj} {n : String} {vs : Array Value} {Q : Unit → Shared → Prop} (ho : s.heap.get? it = some o) (hc : o.cls = .type n) (hd : o.data = .fields vs)
    (hn : ["enumerate", "zip", "dict_itemiterator", "dict_reverseitemiterator", "odict_iterator", "itertools.zip_longest", "itertools.pairwise"].contains n = false) (hQ : Q () s) : wpAny M A (letOwnedTupleGo tg (.ref it) u) Q E s := by
  unfold letOwnedTupleGo
  cases tg <;> first
    | exact wpAny_pure hQ
    | (cases u <;> first
        | exact wpAny_pure hQ
        | (refine wpAny_bind (wpAny_load ho ?_)
           rw [hc, hd]
           show wpAny M A (if (["enumerate", "zip", "dict_itemiterator", "dict_reverseitemiterator", "odict_iterator", "itertools.zip_longest", "itertools.pairwise"].contains n && vs[0]? == some (rawInt _)) = true then _ else _) Q E s
           rw [if_neg (by intro h; rw [hn, Bool.false_and] at h; cases h)]
           exact wpAny_pure hQ))
def Itl (K:PySem.W.Frag)(a:Addr):It :=
 ⟨fun i H=>∃ xs x,SqL K H a xs∧xs[i]?=some x,fun i H x H'=>H'=H∧∀ xs,SqL K H a xs->xs[i]?=some x,fun i H=>∃ xs,SqL K H a xs∧xs.length<=i⟩
def Itt (K:PySem.W.Frag)(a:Addr):It :=
 ⟨fun i H=>∃ xs x,SqT K H a xs∧xs[i]?=some x,fun i H x H'=>H'=H∧∀ xs,SqT K H a xs->xs[i]?=some x,fun i H=>∃ xs,SqT K H a xs∧xs.length<=i⟩
def Itr (lo:Int)(n:Nat):It:=⟨fun i _=>i<n,fun i H x H'=>H'=H∧x = .int (lo+i),fun i _=>n<=i⟩
theorem tG {P:Program}{w:World}{K:PySem.W.Frag}{tg:Expr}(a it:Addr):tY P w K tg (Itl K a) [it] it (fun i h=>h.IsListIter it a i) where
 mem:=by simp
 obj:=fun i h st b hb=>by
  have e:b=it:=by simpa using hb
  subst e
  obtain ⟨o,e,c,d⟩:=st
  exact ⟨o,e,fun v z=>by rw [d] at z;cases z⟩
 keep:=fun i h h' st k=>st.at fun o e=>k it (by simp) o e
 item:=by
  intro X hP hw hK hc i pins s σ H E I hf st hg
  subst hP hw hK
  obtain ⟨xs,x,hq,hx⟩:=hg
  obtain ⟨its,rv,p,hz⟩:=I.list hq
  obtain ⟨u,hu,ru⟩:=rv.get hx
  obtain ⟨f0,f1,f2,f3,f4,f5⟩:=hf it (by simp)
  refine wpAny_pyNext_list_item st p.isList (x:=u) (by simpa using hu) fun h' st' sb=>?_
  have I1:Inv X pins σ H { s with heap:=h' }:=I.turned (t':=s.toks) (fun b o hb e=>(sb.2 b hb).trans e) f0 f1 f3 f4 f5
  obtain ⟨o,e,c,d⟩:=id st'
  exact ⟨u,rfl,Af (s:={ s with heap:=h' }) e c d (by decide) ⟨x,H,I1,ru,⟨rfl,fun ys hy=>by rw [I.list_inj hy hq];exact hx⟩,st',fun b hb=>(hf b hb).1⟩⟩
 done:=by
  intro X hP hw hK hc i pins s σ H E I hf st hg
  subst hP hw hK
  obtain ⟨xs,hq,hx⟩:=hg
  obtain ⟨its,rv,p,hz⟩:=I.list hq
  obtain ⟨f0,f1,f2,f3,f4,f5⟩:=hf it (by simp)
  have hl:=rv.length
  exact wpAny_pyNext_list_end (I.ok.hd hc) st p.isList (by simp;omega) fun h' eb=>⟨rfl,I.turned (t':=s.toks) (fun b o hb e=>eb b o hb e) f0 f1 f3 f4 f5⟩
 self:=fun _ _ _ _ _ st h=>wpAny_pyIter_listiter st h
theorem qR {P:Program}{w:World}{K:PySem.W.Frag}{tg:Expr}(a it:Addr):tY P w K tg (Itt K a) [it] it (fun i h=>h.IsTupleIter it a i) where
 mem:=by simp
 obj:=fun i h st b hb=>by
  have e:b=it:=by simpa using hb
  subst e
  obtain ⟨o,e,c,d⟩:=st
  exact ⟨o,e,fun v z=>by rw [d] at z;cases z⟩
 keep:=fun i h h' st k=>st.at fun o e=>k it (by simp) o e
 item:=by
  intro X hP hw hK hc i pins s σ H E I hf st hg
  subst hP hw hK
  obtain ⟨xs,x,hq,hx⟩:=hg
  obtain ⟨its,rv,p,hz⟩:=I.tuple hq
  obtain ⟨u,hu,ru⟩:=rv.get hx
  obtain ⟨f0,f1,f2,f3,f4,f5⟩:=hf it (by simp)
  refine wpAny_pyNext_tuple_item st (show s.heap.IsTuple a its.toArray from p) (x:=u) (by simpa using hu) fun h' st' sb=>?_
  have I1:Inv X pins σ H { s with heap:=h' }:=I.turned (t':=s.toks) (fun b o hb e=>(sb.2 b hb).trans e) f0 f1 f3 f4 f5
  obtain ⟨o,e,c,d⟩:=id st'
  exact ⟨u,rfl,Af (s:={ s with heap:=h' }) e c d (by decide) ⟨x,H,I1,ru,⟨rfl,fun ys hy=>by rw [I.tuple_inj hy hq];exact hx⟩,st',fun b hb=>(hf b hb).1⟩⟩
 done:=by
  intro X hP hw hK hc i pins s σ H E I hf st hg
  subst hP hw hK
  obtain ⟨xs,hq,hx⟩:=hg
  obtain ⟨its,rv,p,hz⟩:=I.tuple hq
  obtain ⟨f0,f1,f2,f3,f4,f5⟩:=hf it (by simp)
  have hl:=rv.length
  exact wpAny_pyNext_tuple_end (I.ok.hd hc) st (show s.heap.IsTuple a its.toArray from p) (by simp;omega) fun h' eb=>⟨rfl,I.turned (t':=s.toks) (fun b o hb e=>eb b o hb e) f0 f1 f3 f4 f5⟩
 self:=fun _ _ _ _ _ st h=>wpAny_pyIter_tupleiter st h
theorem yA {P:Program}{w:World}{K:PySem.W.Frag}{tg:Expr}(it:Addr)(lo:Int)(n:Nat):tY P w K tg (Itr lo n) [it] it (fun i h=>IsRangeIter h it (lo+(i:Nat)*1) ((n:Int)-(i:Nat)) 1) where
 mem:=by simp
 obj:=fun i h st b hb=>by
  have e:b=it:=by simpa using hb
  subst e
  exact ⟨_,st,fun v z=>by
   have z':Data.fields _=Data.cell v:=z
   cases z'⟩
 keep:=fun i h h' st k=>k it (by simp) _ st
 item:=by
  intro X hP hw hK hc i pins s σ H E I hf st hg
  subst hP hw hK
  obtain ⟨f0,f1,f2,f3,f4,f5⟩:=hf it (by simp)
  have W:=Walks.range (prog:=X.prog) (w:=X.w) (I.ok.hd hc) it lo 1 n
  refine W.item i s _ _ hg st fun v h' tk hv st' kk=>?_
  obtain ⟨t,rfl⟩:=hv
  have I1:Inv X pins σ H { s with heap:=h',toks:=tk }:=I.turned (fun b o hb e=>kk b o (by simpa using hb) e) f0 f1 f3 f4 f5
  refine ⟨_,rfl,Af (s:={ s with heap:=h',toks:=tk }) (n := "range_iterator") st' rfl rfl (by decide) ⟨.int (lo+i),H,I1,⟨t,?_⟩,⟨rfl,rfl⟩,st',fun b hb=>(hf b hb).1⟩⟩
  rw [Int.mul_one]
 done:=by
  intro X hP hw hK hc i pins s σ H E I hf st hg
  subst hP hw hK
  obtain ⟨f0,f1,f2,f3,f4,f5⟩:=hf it (by simp)
  exact wpAny_pyNext_range_end (I.ok.hd hc) st (by have:n<=i:=hg;omega) fun h' eb=>⟨rfl,I.turned (t':=s.toks) (fun b o hb e=>eb b o hb e) f0 f1 f3 f4 f5⟩
 self:=fun _ _ _ _ _ st h=>wpAny_pyIter_rangeiter st h
end L2
namespace L2
open PySem PySem.Spec PyProof.Rows
section
variable {X:Cx}{tg:Expr}
def Nk (K:PySem.W.Frag)(tl:TE):TI:=fun σ H R=>tl σ H fun x H1=>∃ a,x = .ref a∧(∃ xs,SqL K H1 a xs)∧R (Itl K a) H1
def Qu (K:PySem.W.Frag)(tl:TE):TI:=fun σ H R=>tl σ H fun x H1=>∃ a,x = .ref a∧(∃ xs,SqT K H1 a xs)∧R (Itt K a) H1
theorem bW {l:Expr}{tl:TE}(hl:PE X l tl):PI X tg l (Nk X.K tl):=by
 intro pins s σ H R I h
 refine thn (hl pins s σ H _ I h) fun v s1 ⟨x,H1,I1,r1,q1⟩=>?_
 obtain ⟨a,e,⟨xs,hq⟩,q⟩:=q1
 subst e
 cases r1
 obtain ⟨its,rv,p,hz⟩:=I1.list hq
 refine wpAny_pyIter_list p.isList ?_
 refine ⟨s1.heap.objs.size,[s1.heap.objs.size],_,_,H1,rfl,I1.kept (t':=s1.toks) fun b o e=>Heap.get?_push_of_some _ e,tG a _,⟨_,Heap.get?_push_size _ rfl,rfl,rfl⟩,fun b hb=>?_,q⟩
 have e:b=s1.heap.objs.size:=by simpa using hb
 subst e
 exact I1.fpOk (Nat.le_refl _) (I1.hok.fresh (Nat.le_refl _))
theorem tU {l:Expr}{tl:TE}(hl:PE X l tl):PI X tg l (Qu X.K tl):=by
 intro pins s σ H R I h
 refine thn (hl pins s σ H _ I h) fun v s1 ⟨x,H1,I1,r1,q1⟩=>?_
 obtain ⟨a,e,⟨xs,hq⟩,q⟩:=q1
 subst e
 cases r1
 obtain ⟨its,rv,p,hz⟩:=I1.tuple hq
 refine wpAny_pyIter_tuple (show s1.heap.IsTuple a its.toArray from p) ?_
 refine ⟨s1.heap.objs.size,[s1.heap.objs.size],_,_,H1,rfl,I1.kept (t':=s1.toks) fun b o e=>Heap.get?_push_of_some _ e,qR a _,⟨_,Heap.get?_push_size _ rfl,rfl,rfl⟩,fun b hb=>?_,q⟩
 have e:b=s1.heap.objs.size:=by simpa using hb
 subst e
 exact I1.fpOk (Nat.le_refl _) (I1.hok.fresh (Nat.le_refl _))
theorem Hi {pins:List (Addr×Obj)}{σ:St}{H:Hp}{s:Shared}{R:It->Hp->Prop}{E:Value->Shared->Prop}{lo hi:Int}{t u v:Tok}{tk:Nat}(I:Inv X pins σ H s)(h1 : -(2 ^ 62)<=lo)(h2:lo<2 ^ 62)(h3 : -(2 ^ 62)<=hi)(h4:hi<2 ^ 62)
  (q:R (Itr lo (hi-lo).toNat) H):wpAny (model X.prog X.w) X.A (pyIter (.ref s.heap.objs.size)) (PIE X pins σ tg R) E { s with heap:=s.heap.push { cls:=.type "range",data:=.fields #[.int lo t,.int hi u,.int 1 v] },toks:=tk }:=by
 refine wpAny_pyIter_range (IsRange.new ..) (small_one h1 h2 h3 h4) ?_
 have I1:Inv X pins σ H { s with heap:=s.heap.push { cls:=.type "range",data:=.fields #[.int lo t,.int hi u,.int 1 v] },toks:=tk }:=I.kept fun b o e=>Heap.get?_push_of_some _ e
 refine ⟨(s.heap.push { cls:=.type "range",data:=.fields #[.int lo t,.int hi u,.int 1 v] }).objs.size,[(s.heap.push { cls:=.type "range",data:=.fields #[.int lo t,.int hi u,.int 1 v] }).objs.size],_,_,H,rfl,
  I1.kept (t':=tk) fun b o e=>Heap.get?_push_of_some _ e,yA _ lo (hi-lo).toNat,?_,fun b hb=>?_,q⟩
 ·have e1:lo+((0:Nat):Int)*1=lo:=by simp
  have e2:(((hi-lo).toNat:Nat):Int)-((0:Nat):Int)=Builtin.Range.rangeSize lo hi 1:=by rw [rangeSize_one];split <;> omega
  show IsRangeIter _ _ (lo+((0:Nat):Int)*1) ((((hi-lo).toNat:Nat):Int)-((0:Nat):Int)) 1
  rw [e1,e2]
  exact Heap.get?_push_size _ rfl
 ·have e:b=(s.heap.push { cls:=.type "range",data:=.fields #[.int lo t,.int hi u,.int 1 v] }).objs.size:=by simpa using hb
  subst e
  exact I1.fpOk (Nat.le_refl _) (I1.hok.fresh (Nat.le_refl _))
def Pe (ta:TA):TI:=fun σ H R=>ta σ H fun vs H1=>∃ j:Int,vs=[.int j]∧-(2 ^ 62)<=j∧j<2 ^ 62∧R (Itr 0 j.toNat) H1
theorem iB {a:Expr}{ta:TA}{p pos:Pos}(hg:Gl X "range")(hm:X.mg "range" = none)(ha:PA X [a] ta)(hs:starEach [a] X.env=[(false,eval a X.env)]:=by rfl):PI X tg (.Call (.Name "range" p) [a] [] pos) (Pe ta):=by
 intro pins s σ H R I h
 refine Call_ (qH I hg hm boot_range (PyProof.Rows.callWith_type1 (thn (ha pos pins s σ H _ I h) fun us s1 ⟨vs,H1,I1,r1,q1⟩=>?_) hs rfl))
 obtain ⟨j,e,q1,q2,q⟩:=q1
 subst e
 cases r1 with
 | cons r rr =>
  cases rr
  obtain ⟨t,rfl⟩:=r
  exact call_range_1 (Hi I1 (by omega) (by omega) q1 q2 (by simpa using q))
def Rc (wi:TI)(g:TG)(tb:TS):TS:=fun D σ H=>wi σ H fun J H1=>∃ W:Nat->Nat->St->Hp->Prop,(∃ m,W 0 m σ H1)∧∀ i m σ H,W i m σ H ->
 (J.stop i H∧D.nx σ H)∨(J.go i H∧∃ N:St->Hp->Prop,(∀ σ' H',N σ' H'->∃ m',m'<m∧W (i+1) m' σ' H')∧∀ x H',J.yld i H x H'->g x σ H' fun σ2 H2=>tb { D with nx:=N,ct:=N,bk:=D.nx } σ2 H2)
def lP (fp:List Addr)(h:Heap):List (Addr×Obj):=fp.filterMap fun b=>(h.get? b).map fun o=>(b,o)
theorem dZ {fp:List Addr}{h:Heap}{b:Addr}{o:Obj}(hb:b∈fp)(e:h.get? b=some o):(b,o)∈lP fp h:=List.mem_filterMap.mpr ⟨b,hb,by rw [e];rfl⟩
theorem Bo {fp:List Addr}{h:Heap}{p:Addr×Obj}(hp:p∈lP fp h):p.1∈fp∧h.get? p.1=some p.2:=by
 obtain ⟨b,hb,e⟩:=List.mem_filterMap.mp hp
 cases q:h.get? b with
 | none=>rw [q] at e;cases e
 | some o =>
  rw [q] at e
  have e':(b,o)=p:=Option.some.inj e
  subst e'
  exact ⟨hb,q⟩
theorem Inv.pinned {pins:List (Addr×Obj)}{σ:St}{H:Hp}{s:Shared}{fp:List Addr}(I:Inv X pins σ H s)(hf:∀ b∈fp,lK X pins H b)(ho:∀ b∈fp,∃ o,s.heap.get? b=some o∧∀ v,o.data≠.cell v):Inv X (pins++lP fp s.heap) σ H s :=
 I.pins_of fun p hp=>(List.mem_append.mp hp).elim (fun z=>I.pin p (List.mem_append_right _ z)) fun z=>by
  obtain ⟨hb,e⟩:=Bo z
  obtain ⟨f0,f1,f2,_⟩:=hf p.1 hb
  obtain ⟨o,e',d⟩:=ho p.1 hb
  rw [e] at e';cases e'
  exact ⟨e,f0,f1,f2,d⟩
theorem Inv.unpinned {pins pl:List (Addr×Obj)}{σ:St}{H:Hp}{s:Shared}(I:Inv X (pins++pl) σ H s):Inv X pins σ H s:=I.pins_of fun p hp=>I.pin p (List.mem_append_right _ (List.mem_append_left _ hp))
theorem cC {iter:Expr}{body:List Stmt}{wi:TI}{g:TG}{tb:TS}{pos:Pos}(hp:PassesOwn (model X.prog X.w) X.A X.env X.xe)(hc:X.calm=true)(hi:PI X tg iter wi)(hg:PG X tg g)(hb:PSs X body tb)
  (hs:∀ x,foldedSetIterable iter X.env x=pure x:=by intro _;rfl):PS X (.For tg iter body [] pos) (Rc wi g tb):=by
 intro pins s σ H D I h
 refine wpAny_For (thn (hi pins s σ H _ I h) fun v s1 h1=>thn h1 fun itv s2 h2=>?_) hs
 obtain ⟨it,fp,tn,J,H2,e,I2,T,st2,f2,W,⟨m0,w0⟩,turn⟩:=h2
 subst e
 have stat:∀ {H':Hp},(∀ b∈fp,H' b=none)->∀ b∈fp,lK X pins H' b:=fun hn b hb=>⟨hn b hb,(f2 b hb).2⟩
 refine codeAny_forLoop_any (fun n s'=>∃ i σ' H',Inv X pins σ' H' s'∧tn i s'.heap∧(∀ b∈fp,H' b=none)∧W i n σ' H') ?_ m0 ⟨0,σ,H2,I2,st2,fun b hb=>(f2 b hb).1,w0⟩
 rintro n s3 ⟨i,σ3,H3,I3,st3,fr3,w3⟩
 rcases turn i n σ3 H3 w3 with ⟨stop,qn⟩ | ⟨go,N,hN,step⟩
 ·refine wpAny_passesOwn hp (thn (T.done X rfl rfl rfl hc i pins s3 σ3 H3 X.xe I3 (stat fr3) st3 stop) fun r s4 ⟨hr,I4⟩=>?_)
  subst hr
  exact wpAny_execs_nil ⟨σ3,H3,I4,qn⟩
 ·refine wpAny_passesOwn hp (thn (T.item X rfl rfl rfl hc i pins s3 σ3 H3 X.xe I3 (stat fr3) st3 go) fun r s4 ⟨u,hr,h4⟩=>?_)
  subst hr
  refine wpAny_passesOwn hp (thn h4 fun _ s5 ⟨x,H5,I5,r5,y5,st5,fr5⟩=>?_)
  have I5':=I5.pinned (stat fr5) (T.obj _ _ st5)
  refine wpAny_passesOwn hp (thn (hg _ s5 σ3 H5 x u _ I5' r5 (step x H5 y5)) fun _ s6 ⟨σ6,H6,I6,q6⟩=>?_)
  refine wpAny_passesOwn hp (thn (hb _ s6 σ6 H6 _ I6 q6) fun f s7 q7=>?_)
  have again:∀ {σ7:St} {H7:Hp},Inv X (pins++lP fp s5.heap) σ7 H7 s7->N σ7 H7->∃ m,m<n∧∃ i σ' H',Inv X pins σ' H' s7∧tn i s7.heap∧(∀ b∈fp,H' b=none)∧W i m σ' H':=fun {σ7 H7} I7 n7=>by
   obtain ⟨m',hm,w7⟩:=hN σ7 H7 n7
   refine ⟨m',hm,i+1,σ7,H7,I7.unpinned,T.keep _ _ _ st5 fun b hb o e=>(I7.pin (b,o) (List.mem_append_right _ (List.mem_append_right _ (dZ hb e)))).1,fun b hb=>?_,w7⟩
   obtain ⟨o,e,d⟩:=T.obj _ _ st5 b hb
   exact (I7.pin (b,o) (List.mem_append_right _ (List.mem_append_right _ (dZ hb e)))).2.1
  cases f with
  | next=>obtain ⟨σ7,H7,I7,n7⟩:=q7;exact again I7 n7
  | cont=>obtain ⟨σ7,H7,I7,n7⟩:=q7;exact again I7 n7
  | brk=>obtain ⟨σ7,H7,I7,q7⟩:=q7;exact ⟨σ7,H7,I7.unpinned,q7⟩
  | ret v=>obtain ⟨x7,σ7,H7,I7,r7,q7⟩:=q7;exact ⟨x7,σ7,H7,I7.unpinned,r7,q7⟩
end
theorem cK {K:PySem.W.Frag}{a:Addr}{xs:List V}{g:TG}{tb:TS}{D:kT}{σ:St}{H:Hp}(Pv:Nat->St->Hp->Prop)(h0:Pv 0 σ H)(hl:∀ i σ H,i<=xs.length->Pv i σ H->SqL K H a xs)
  (hs:∀ i x σ H,xs[i]?=some x->Pv i σ H->g x σ H fun σ2 H2=>tb { D with nx:=Pv (i+1),ct:=Pv (i+1),bk:=D.nx } σ2 H2) (hd:∀ σ H,Pv xs.length σ H->D.nx σ H) :
  ∃ W:Nat->Nat->St->Hp->Prop,(∃ m,W 0 m σ H)∧∀ i m σ H,W i m σ H ->
   ((Itl K a).stop i H∧D.nx σ H)∨((Itl K a).go i H∧∃ N:St->Hp->Prop,(∀ σ' H',N σ' H'->∃ m',m'<m∧W (i+1) m' σ' H')∧∀ x H',(Itl K a).yld i H x H'->g x σ H' fun σ2 H2=>tb { D with nx:=N,ct:=N,bk:=D.nx } σ2 H2):=by
 refine ⟨fun i m σ H=>m=xs.length-i∧i<=xs.length∧Pv i σ H,⟨xs.length,by simp,Nat.zero_le _,h0⟩,?_⟩
 rintro i m σ H ⟨rfl,hi,p⟩
 have q:=hl i σ H hi p
 by_cases hlt:i<xs.length
 ·refine .inr ⟨⟨xs,xs[i],q,by simp [hlt]⟩,Pv (i+1),fun σ' H' p'=>⟨xs.length-(i+1),by omega,rfl,hlt,p'⟩,fun x H' y=>?_⟩
  obtain ⟨e,y⟩:=y
  subst e
  exact hs i x σ _ (y xs q) p
 ·have e:i=xs.length:=by omega
  subst e
  exact .inl ⟨⟨xs,q,Nat.le_refl _⟩,hd σ H p⟩
theorem iC {lo:Int}{n:Nat}{g:TG}{tb:TS}{D:kT}{σ:St}{H:Hp}(Pv:Nat->St->Hp->Prop)(h0:Pv 0 σ H)
  (hs:∀ i σ H,i<n->Pv i σ H->g (.int (lo+i)) σ H fun σ2 H2=>tb { D with nx:=Pv (i+1),ct:=Pv (i+1),bk:=D.nx } σ2 H2) (hd:∀ σ H,Pv n σ H->D.nx σ H) :
  ∃ W:Nat->Nat->St->Hp->Prop,(∃ m,W 0 m σ H)∧∀ i m σ H,W i m σ H ->
   ((Itr lo n).stop i H∧D.nx σ H)∨((Itr lo n).go i H∧∃ N:St->Hp->Prop,(∀ σ' H',N σ' H'->∃ m',m'<m∧W (i+1) m' σ' H')∧∀ x H',(Itr lo n).yld i H x H'->g x σ H' fun σ2 H2=>tb { D with nx:=N,ct:=N,bk:=D.nx } σ2 H2):=by
 refine ⟨fun i m σ H=>m=n-i∧i<=n∧Pv i σ H,⟨n,by simp,Nat.zero_le _,h0⟩,?_⟩
 rintro i m σ H ⟨rfl,hi,p⟩
 by_cases hlt:i<n
 ·refine .inr ⟨hlt,Pv (i+1),fun σ' H' p'=>⟨n-(i+1),by omega,rfl,hlt,p'⟩,fun x H' y=>?_⟩
  obtain ⟨e,y⟩:=y
  subst e y
  exact hs i σ _ hlt p
 ·have e:i=n:=by omega
  subst e
  exact .inl ⟨Nat.le_refl _,hd σ H p⟩
end L2
namespace L2
open PySem PySem.Spec PyProof.Rows
abbrev R2:=V->V->Hp->VK->Prop
def OpR (X:Cx)(f:Value->Value->Sem Value)(r:R2):Prop :=
 ∀ (pins:List (Addr×Obj)) (s:Shared) (σ:St) (H:Hp) (x y:V) (v u:Value) (Q:VK),Inv X pins σ H s->bH x v->bH y u->r x y H Q ->
  wpAny (model X.prog X.w) X.A (f v u) (EP X pins σ Q) X.xe s
def UnR (X:Cx)(f:Value->Sem Value)(r:V->Hp->VK->Prop):Prop :=
 ∀ (pins:List (Addr×Obj)) (s:Shared) (σ:St) (H:Hp) (x:V) (v:Value) (Q:VK),Inv X pins σ H s->bH x v->r x H Q ->
  wpAny (model X.prog X.w) X.A (f v) (EP X pins σ Q) X.xe s
def eO (X:Cx)(f:Value)(r:List V->Hp->VK->Prop):Prop :=
 ∀ (pins:List (Addr×Obj)) (s:Shared) (σ:St) (H:Hp) (xs:List V) (us:List Value) (Q:VK),Inv X pins σ H s->bR xs us->r xs H Q ->
  wpAny (model X.prog X.w) X.A (call f us) (EP X pins σ Q) X.xe s
def tOp (r:R2)(ta tb:TE):TE:=fun σ H Q=>ta σ H fun x H1=>tb σ H1 fun y H2=>r x y H2 Q
def tUn (r:V->Hp->VK->Prop)(ta:TE):TE:=fun σ H Q=>ta σ H fun x H1=>r x H1 Q
def rI (C:Int->Int->Prop)(g:Int->Int->V):R2:=fun x y H Q=>∃ i j,x = .int i∧y = .int j∧C i j∧Q (g i j) H
def rI0 (g:Int->Int->V):R2:=fun x y H Q=>∃ i j,x = .int i∧y = .int j∧Q (g i j) H
def rU (g:Int->V):V->Hp->VK->Prop:=fun x H Q=>∃ i,x = .int i∧Q (g i) H
section
variable {X:Cx}{a b c:Expr}{ta tb tc:TE}{pos:Pos}
theorem Kx (ha:PE X a ta)(hb:PE X b tb){pins:List (Addr×Obj)}{s:Shared}{σ:St}{H:Hp}{R:V->V->Hp->Prop}(I:Inv X pins σ H s)
  (h:ta σ H fun x H1=>tb σ H1 fun y H2=>R x y H2) {Q:Value->Shared->Prop} {f:Value->Value->Sem Value}
  (hf:∀ v u s2 x y H2,Inv X pins σ H2 s2->bH x v->bH y u->R x y H2->wpAny (model X.prog X.w) X.A (f v u) Q X.xe s2) :
  wpAny (model X.prog X.w) X.A (eval a X.env) (fun v s₁=>wpAny (model X.prog X.w) X.A (eval b X.env) (fun u s₂=>wpAny (model X.prog X.w) X.A (f v u) Q X.xe s₂) X.xe s₁) X.xe s:=by
 refine thn (ha pins s σ H _ I h) fun v s1 ⟨x,H1,I1,r1,q1⟩=>?_
 refine thn (hb pins s1 σ H1 _ I1 q1) fun u s2 ⟨y,H2,I2,r2,q2⟩=>?_
 exact hf v u s2 x y H2 I2 r1 r2 q2
theorem aL {op:Operator}{r:R2}(ho:OpR X (binaryOp op) r)(ha:PE X a ta)(hb:PE X b tb):PE X (.BinOp a op b pos) (tOp r ta tb):=by
 intro pins s σ H Q I h
 exact wpAny_BinOp (Kx ha hb I h fun v u s2 x y H2 I2 rx ry q=>ho pins s2 σ H2 x y v u Q I2 rx ry q)
theorem sV {op:UnaryOp}{r:V->Hp->VK->Prop}(ho:UnR X (unaryOp op) r)(ha:PE X a ta):PE X (.UnaryOp op a pos) (tUn r ta):=by
 intro pins s σ H Q I h
 exact UnaryOp_ (thn (ha pins s σ H _ I h) fun v s1 ⟨x,H1,I1,r1,q1⟩=>ho pins s1 σ H1 x v Q I1 r1 q1)
theorem opI {f:Value->Value->Sem Value}{C:Int->Int->Prop}{g:Int->Int->Int}
  (rule:∀ (i j:Int) (t u:Tok) (s:Shared) (Q:Value->Shared->Prop) (E:Value->Shared->Prop),C i j->Q (.int (g i j) s.toks) { s with toks:=s.toks+1 }->wpAny (model X.prog X.w) X.A (f (.int i t) (.int j u)) Q E s) :
  OpR X f (rI C fun i j=>.int (g i j)):=by
 intro pins s σ H x y v u Q I rx ry h
 obtain ⟨i,j,rfl,rfl,hc,q⟩:=h
 obtain ⟨t,rfl⟩:=rx
 obtain ⟨t',rfl⟩:=ry
 exact rule i j t t' s _ _ hc ⟨.int (g i j),H,I.tok _,⟨_,rfl⟩,q⟩
theorem Op {f:Value->Value->Sem Value}{g:Int->Int->Int}
  (rule:∀ (i j:Int) (t u:Tok) (s:Shared) (Q:Value->Shared->Prop) (E:Value->Shared->Prop),Q (.int (g i j) s.toks) { s with toks:=s.toks+1 }->wpAny (model X.prog X.w) X.A (f (.int i t) (.int j u)) Q E s) :
  OpR X f (rI0 fun i j=>.int (g i j)):=by
 intro pins s σ H x y v u Q I rx ry h
 obtain ⟨i,j,rfl,rfl,q⟩:=h
 obtain ⟨t,rfl⟩:=rx
 obtain ⟨t',rfl⟩:=ry
 exact rule i j t t' s _ _ ⟨.int (g i j),H,I.tok _,⟨_,rfl⟩,q⟩
theorem Hw {f:Value->Value->Sem Value}{g:Int->Int->Bool}
  (rule:∀ (i j:Int) (t u:Tok) (s:Shared) (Q:Value->Shared->Prop) (E:Value->Shared->Prop),Q (.bool (g i j)) s->wpAny (model X.prog X.w) X.A (f (.int i t) (.int j u)) Q E s) :
  OpR X f (rI0 fun i j=>.bl (g i j)):=by
 intro pins s σ H x y v u Q I rx ry h
 obtain ⟨i,j,rfl,rfl,q⟩:=h
 obtain ⟨t,rfl⟩:=rx
 obtain ⟨t',rfl⟩:=ry
 exact rule i j t t' s _ _ ⟨.bl (g i j),H,I,rfl,q⟩
def Rj (i j:Int):Prop:=0<j∧j<1073741824
def Qh (i j:Int):Prop:=0<=j∧j<=1000000∧i.natAbs<2 ^ 64
def Na (i j:Int):Prop:=(-(2 ^ 64)<i∧i<2 ^ 64)∨(-(2 ^ 64)<j∧j<2 ^ 64)
theorem Na.ok {i j:Int}(h:Na i j):IntMulOk i j:=by
 rcases h with ⟨h1,h2⟩ | ⟨h1,h2⟩
 ·exact .of_left (intBits_le_64 h1 h2)
 ·exact .of_right (intBits_le_64 h1 h2)
theorem cQ:OpR X (binaryOp .Add) (rI0 fun i j=>.int (i+j)):=Op fun _ _ _ _ _ _ _ q=>add_int q
theorem fR:OpR X (binaryOp .Sub) (rI0 fun i j=>.int (i-j)):=Op fun _ _ _ _ _ _ _ q=>sub_int q
theorem qD:OpR X (binaryOp .Mult) (rI Na fun i j=>.int (i*j)):=opI fun _ _ _ _ _ _ _ hc q=>mul_int q hc.ok
theorem gQ:OpR X (binaryOp .FloorDiv) (rI Rj fun i j=>.int (i/j)):=opI fun i j _ _ _ _ _ hc q=>by
 have h1:(0:Int)<j:=hc.1
 have h2:j<1073741824:=hc.2
 exact floordiv_int (by omega) (by rw [Int.fdiv_eq_ediv_of_nonneg i (by omega)];exact q) (.inl (PyProof.noPylong_small (by omega)))
theorem bY:OpR X (binaryOp .Mod) (rI (fun _ j=>0<j) fun i j=>.int (i % j)):=opI fun i j _ _ _ _ _ hc q=>by
 have h1:(0:Int)<j:=hc
 exact mod_int' (by omega) (by rw [Int.fmod_eq_emod_of_nonneg i (by omega)];exact q)
theorem Er:OpR X (binaryOp .Pow) (rI Qh fun i j=>.int (i ^ j.toNat)):=opI fun _ _ _ _ _ _ _ hc q=>pow_int_small hc.1 hc.2.1 hc.2.2 q
theorem unI {f:Value->Sem Value}{g:Int->Int}
  (rule:∀ (i:Int) (t:Tok) (s:Shared) (Q:Value->Shared->Prop) (E:Value->Shared->Prop),Q (.int (g i) s.toks) { s with toks:=s.toks+1 }->wpAny (model X.prog X.w) X.A (f (.int i t)) Q E s) :
  UnR X f (rU fun i=>.int (g i)):=by
 intro pins s σ H x v Q I rx h
 obtain ⟨i,rfl,q⟩:=h
 obtain ⟨t,rfl⟩:=rx
 exact rule i t s _ _ ⟨.int (g i),H,I.tok _,⟨_,rfl⟩,q⟩
theorem nG:UnR X (unaryOp .USub) (rU fun i=>.int (-i)):=unI fun _ _ _ _ _ q=>neg_int q
end
def Nr:V->V->Bool
 | .non,.non=>true | .non,.int _=>true | .int _,.non=>true | .non,.bl _=>true | .bl _,.non=>true | .non,.str _=>true | .str _,.non=>true
 | .int _,.int _=>true | .bl _,.bl _=>true | .str _,.str _=>true | .byt _,.byt _=>true
 | .int _,.str _=>true | .str _,.int _=>true | .bl _,.str _=>true | .str _,.bl _=>true
 | _,_=>false
def rEq:R2:=fun x y H Q=>Nr x y=true∧Q (.bl (decide (x=y))) H
def rNe:R2:=fun x y H Q=>Nr x y=true∧Q (.bl (!decide (x=y))) H
theorem oT {i j:Int}:decide (V.int i=V.int j)=(i==j):=by
 rw [Bool.eq_iff_iff]
 simp
theorem Ej {i j:Bool}:decide (V.bl i=V.bl j)=(i==j):=by
 rw [Bool.eq_iff_iff]
 simp
theorem Aa {i j:Str}:decide (V.str i=V.str j)=(i==j):=by
 rw [Bool.eq_iff_iff]
 simp
theorem Bb {i j:Array UInt8}:decide (V.byt i=V.byt j)=(i.toList==j.toList):=by
 rw [Bool.eq_iff_iff]
 cases i
 cases j
 simp
section
variable {X:Cx}{a b c:Expr}{ta tb tc:TE}{pos:Pos}
theorem bU {pins:List (Addr×Obj)}{σ:St}{H:Hp}{s:Shared}{Q:VK}{k k':Bool}(I:Inv X pins σ H s)(q:Q (.bl k) H)(e:k=k'):EP X pins σ Q (.bool k') s:=by
 subst e
 exact ⟨.bl k,H,I,rfl,q⟩
theorem Kr:OpR X (compareOp .Eq) rEq:=by
 intro pins s σ H x y v u Q I rx ry h
 obtain ⟨hs,q⟩:=h
 cases x with
 | non =>
  cases rx
  cases y with
  | non=>cases ry;exact PySem.EqNone.eq_none_none (bU I q (by simp))
  | bl j=>cases ry;exact PySem.EqNone.eq_none_bool (bU I q (by simp))
  | int j=>obtain ⟨t',rfl⟩:=ry;exact PySem.EqNone.eq_none_int (bU I q (by simp))
  | str j=>obtain ⟨t',rfl⟩:=ry;exact PySem.EqNone.eq_none_str (bU I q (by simp))
  | _=>exact absurd (show false=true from hs) Bool.false_ne_true
 | bl i =>
  cases rx
  cases y with
  | non=>cases ry;exact PySem.EqNone.eq_bool_none (bU I q (by simp))
  | bl j=>cases ry;exact eq_bool (bU I q Ej)
  | str j=>obtain ⟨t',rfl⟩:=ry;exact PySem.EqMixed.eq_bool_str (bU I q (by simp))
  | _=>exact absurd (show false=true from hs) Bool.false_ne_true
 | int i =>
  obtain ⟨t,rfl⟩:=rx
  cases y with
  | non=>cases ry;exact PySem.EqNone.eq_int_none (bU I q (by simp))
  | int j=>obtain ⟨t',rfl⟩:=ry;exact eq_int (bU I q oT)
  | str j=>obtain ⟨t',rfl⟩:=ry;exact PySem.EqMixed.eq_int_str (bU I q (by simp))
  | _=>exact absurd (show false=true from hs) Bool.false_ne_true
 | str i =>
  obtain ⟨t,rfl⟩:=rx
  cases y with
  | non=>cases ry;exact PySem.EqNone.eq_str_none (bU I q (by simp))
  | bl j=>cases ry;exact PySem.EqMixed.eq_str_bool (bU I q (by simp))
  | int j=>obtain ⟨t',rfl⟩:=ry;exact PySem.EqMixed.eq_str_int (bU I q (by simp))
  | str j=>obtain ⟨t',rfl⟩:=ry;exact eq_str (bU I q Aa)
  | _=>exact absurd (show false=true from hs) Bool.false_ne_true
 | byt i =>
  obtain ⟨t,rfl⟩:=rx
  cases y with
  | byt j=>obtain ⟨t',rfl⟩:=ry;exact PySem.W.eq_bytes (bU I q Bb)
  | _=>exact absurd (show false=true from hs) Bool.false_ne_true
 | _=>cases y <;> exact absurd (show false=true from hs) Bool.false_ne_true
theorem Kd:OpR X (compareOp .NotEq) rNe:=by
 intro pins s σ H x y v u Q I rx ry h
 obtain ⟨hs,q⟩:=h
 cases x with
 | non =>
  cases rx
  cases y with
  | non=>cases ry;exact PySem.EqNone.ne_none_none (bU I q (by simp))
  | bl j=>cases ry;exact PySem.EqNone.ne_none_bool (bU I q (by simp))
  | int j=>obtain ⟨t',rfl⟩:=ry;exact PySem.EqNone.ne_none_int (bU I q (by simp))
  | str j=>obtain ⟨t',rfl⟩:=ry;exact PySem.EqNone.ne_none_str (bU I q (by simp))
  | _=>exact absurd (show false=true from hs) Bool.false_ne_true
 | bl i =>
  cases rx
  cases y with
  | non=>cases ry;exact PySem.EqNone.ne_bool_none (bU I q (by simp))
  | bl j=>cases ry;exact ne_bool (bU I q (congrArg not Ej))
  | str j=>obtain ⟨t',rfl⟩:=ry;exact PySem.EqMixed.ne_bool_str (bU I q (by simp))
  | _=>exact absurd (show false=true from hs) Bool.false_ne_true
 | int i =>
  obtain ⟨t,rfl⟩:=rx
  cases y with
  | non=>cases ry;exact PySem.EqNone.ne_int_none (bU I q (by simp))
  | int j=>obtain ⟨t',rfl⟩:=ry;exact ne_int (bU I q (congrArg not oT))
  | str j=>obtain ⟨t',rfl⟩:=ry;exact PySem.EqMixed.ne_int_str (bU I q (by simp))
  | _=>exact absurd (show false=true from hs) Bool.false_ne_true
 | str i =>
  obtain ⟨t,rfl⟩:=rx
  cases y with
  | non=>cases ry;exact PySem.EqNone.ne_str_none (bU I q (by simp))
  | bl j=>cases ry;exact PySem.EqMixed.ne_str_bool (bU I q (by simp))
  | int j=>obtain ⟨t',rfl⟩:=ry;exact PySem.EqMixed.ne_str_int (bU I q (by simp))
  | str j=>obtain ⟨t',rfl⟩:=ry;exact ne_str (bU I q (congrArg not Aa))
  | _=>exact absurd (show false=true from hs) Bool.false_ne_true
 | byt i =>
  obtain ⟨t,rfl⟩:=rx
  cases y with
  | byt j=>obtain ⟨t',rfl⟩:=ry;exact PySem.W.ne_bytes (bU I q (congrArg not Bb))
  | _=>exact absurd (show false=true from hs) Bool.false_ne_true
 | _=>cases y <;> exact absurd (show false=true from hs) Bool.false_ne_true
theorem qB:OpR X (compareOp .Lt) (rI0 fun i j=>.bl (decide (i<j))):=Hw fun _ _ _ _ _ _ _ q=>lt_int q
theorem Nz:OpR X (compareOp .LtE) (rI0 fun i j=>.bl (decide (i<=j))):=Hw fun _ _ _ _ _ _ _ q=>le_int q
theorem jI:OpR X (compareOp .Gt) (rI0 fun i j=>.bl (decide (j<i))):=Hw fun _ _ _ _ _ _ _ q=>gt_int q
theorem Pw:OpR X (compareOp .GtE) (rI0 fun i j=>.bl (decide (j<=i))):=Hw fun _ _ _ _ _ _ _ q=>ge_int q
theorem Cj:OpR X (compareOp .Lt) (fun x y H Q=>∃ i j,x = .str i∧y = .str j∧Q (.bl (decide (i.cps.toList<j.cps.toList))) H):=by
 intro pins s σ H x y v u Q I rx ry h
 obtain ⟨i,j,rfl,rfl,q⟩:=h
 obtain ⟨t,rfl⟩:=rx
 obtain ⟨t',rfl⟩:=ry
 exact lt_str (bU I q rfl)
theorem uM:OpR X (compareOp .NotIn) (fun x y H Q=>∃ i j,x = .str i∧y = .str j∧Q (.bl (!(!(Builtin.Str.occurrences j i 0 j.length 1).isEmpty))) H):=by
 intro pins s σ H x y v u Q I rx ry h
 obtain ⟨i,j,rfl,rfl,q⟩:=h
 obtain ⟨t,rfl⟩:=rx
 obtain ⟨t',rfl⟩:=ry
 exact notIn_str (bU I q rfl)
theorem aP (b:Expr){op:CmpOp}(h:op≠.In:=by decide)(h2:op≠.NotIn:=by decide):behindInMarks op b=false:=by
 have e1:(op==CmpOp.In)=false:=by cases op <;> first | rfl | exact absurd rfl h
 have e2:(op==CmpOp.NotIn)=false:=by cases op <;> first | rfl | exact absurd rfl h2
 cases b <;> simp [behindInMarks,e1,e2]
theorem gR {op:CmpOp}{r:R2}(ho:OpR X (compareOp op) r)(ha:PE X a ta)(hb:PE X b tb)(hm:behindInMarks op b=false):PE X (.Compare a [op] [b] pos) (tOp r ta tb):=by
 intro pins s σ H Q I h
 exact wpAny_Compare1 (Kx ha hb I h fun v u s2 x y H2 I2 rx ry q=>ho pins s2 σ H2 x y v u Q I2 rx ry q) hm
def Pl (t:TE):TT:=fun σ H Q=>t σ H fun x H'=>∃ k,x = .bl k∧Q k H'
theorem aN {op:CmpOp}{r:R2}(ho:OpR X (compareOp op) r)(ha:PE X a ta)(hb:PE X b tb)(hm:behindInMarks op b=false):PT X (.Compare a [op] [b] pos) (Pl (tOp r ta tb)):=by
 intro pins s σ H Q I h
 refine wpAny_isTrue_Compare1 (thn (ha pins s σ H _ I h) fun v s1 ⟨x,H1,I1,r1,q1⟩=>thn (hb pins s1 σ H1 _ I1 q1) fun u s2 ⟨y,H2,I2,r2,q2⟩ =>
  thn (ho pins s2 σ H2 x y v u _ I2 r1 r2 q2) fun c s3 ⟨z,H3,I3,r3,k,e,q3⟩=>?_) hm
 subst e
 cases r3
 exact wpAny_truthy_bool ⟨H3,I3,q3⟩
theorem qA:(sizeLine:Nat)<2 ^ 63:=by rw [sizeLine_eq];decide
theorem yQ:OpR X (binaryOp .Add) (fun x y H Q=>∃ i j,x = .str i∧y = .str j∧i.length+j.length<=sizeLine∧Q (.str (i++j)) H):=by
 intro pins s σ H x y v u Q I rx ry h
 obtain ⟨i,j,rfl,rfl,hz,q⟩:=h
 obtain ⟨t,rfl⟩:=rx
 obtain ⟨t',rfl⟩:=ry
 exact add_str (fun t' tk=>⟨.str (i++j),H,I.tok _,⟨_,rfl⟩,q⟩) hz
theorem fW {x:V}{us:List Value}(r:bR [x] us):∃ u,us=[u]∧bH x u:=by
 cases r with
 | cons r1 r2=>cases r2;exact ⟨_,rfl,r1⟩
theorem Ob {x y:V}{us:List Value}(r:bR [x,y] us):∃ u w',us=[u,w']∧bH x u∧bH y w':=by
 cases r with
 | cons r1 r2 =>
  cases r2 with
  | cons r3 r4=>cases r4;exact ⟨_,_,rfl,r1,r3⟩
theorem Hl:eO X (.builtin "abs") (fun xs H Q=>∃ i,xs=[.int i]∧Q (.int (if i<0 then -i else i)) H):=by
 intro pins s σ H xs us Q I r h
 obtain ⟨i,rfl,q⟩:=h
 obtain ⟨u,rfl,t,rfl⟩:=fW r
 exact call_abs_int fun u tk=>⟨.int (if i<0 then -i else i),H,I.tok _,⟨_,rfl⟩,q⟩
end
end L2
namespace L2
open PySem PySem.Spec PyProof.Rows
set_option genInjectivity false in
structure Bi (h:Heap)(x dx C:Addr)(mA:Str->Option Value):Prop where
 obj:h.get? x=some (PySem.W.instObj C dx)
 ns:h.Ns1 dx mA
 ne:dx≠x
theorem Ci {h:Heap}{dx:Addr}{mA:Str->Option Value}(n:h.Ns1 dx mA):∃ od,h.get? dx=some od∧∀ name,PySem.W.lookIn name od=some (mA name):=by
 obtain ⟨o,es,ep,ho,hd,hk,_,hm⟩:=n
 refine ⟨o,ho,fun name=>?_⟩
 have e:=hm name
 unfold nsFind findBy at e
 rw [<- Array.find?_toList] at e
 unfold PySem.W.lookIn
 rw [hd]
 dsimp only
 split
 ·rename_i y q
  rw [q] at e
  exact congrArg some e
 ·rename_i q
  rw [q] at e
  have a:es.toList.any (·.refKey)=false:=by
   rw [List.any_eq_false]
   intro y hy
   obtain ⟨z,t,hkey⟩:=hk y (Array.mem_toList_iff.mp hy)
   simp [DictEntry.refKey,hkey]
  have a':¬ es.toList.any (·.refKey)=true:=by rw [a];exact Bool.false_ne_true
  rw [if_neg a']
  exact congrArg some e
theorem Bi.look {h:Heap}{x dx C:Addr}{mA:Str->Option Value}(I:Bi h x dx C mA):∃ od,PySem.W.InstAt h x (PySem.W.instObj C dx) C (some od)∧∀ name,PySem.W.lookIn name od=some (mA name) :=
 let ⟨od,ho,hl⟩:=Ci I.ns
 ⟨od,⟨I.obj,rfl,rfl,ho⟩,hl⟩
section
variable {prog:Program}{w:World}{A:Around}{E:Value->Shared->Prop}{s:Shared}{K:PySem.W.Frag}{x dx C f:Addr}{mA:Str->Option Value}{name:Str}{v:Value}
theorem Iv {expr:Bool}{Q:Value->Shared->Prop}(X:K.In s.heap)(I:Bi s.heap x dx C mA)(hg:PySem.W.plainGet K C name=true)(hh:PySem.W.hasDictIn K C=true)
  (ha:PySem.W.findIn K (.ref C) name=some none) (hv:mA name=some v) (hv':PySem.W.handedIn v=true) (h:Q v { s with toks:=s.toks+1 }) :
  wpAny (model prog w) A (getAttr (.ref x) name expr) Q E s:=by
 obtain ⟨od,J,hl⟩:=I.look
 exact PySem.W.get_value X J (PySem.W.plainGet_of hg).1 (PySem.W.findObj_own hh ha rfl (by rw [hl,hv])) hv' h
theorem Iz {ns:List Str}{Q:Unit->Shared->Prop}(X:K.In s.heap)(I:Bi s.heap x dx C mA)
  (hs:PySem.W.findIn K (.ref C) "__setattr__" = some (some (.builtin "object.__setattr__"))) (hp:PySem.W.plainOver K C=true) (ht:PySem.W.takerIn K C name=some none) (hh:PySem.W.hasDictIn K C=true)
  (hw:PySem.Within mA ns) (hsz:ns.length<=sizeLine)
  (h:∀ h',Bi h' x dx C (fun y=>if y=name then some v else mA y)->Heap.SameBut dx s.heap h'->Q () { s with heap:=h',toks:=s.toks+2 }) :
  wpAny (model prog w) A (setAttr (.ref x) name v) Q E s:=by
 obtain ⟨od,J,hl⟩:=I.look
 refine PySem.W.set_plain X J hs (PySem.W.osa_open (s:={ s with toks:=s.toks+1 }) (r:=none) X J hp ht fun b=>?_)
 obtain ⟨cd,hc,hd'⟩:=PySem.W.any_some hh
 have hx:s.heap.get? x=some ⟨.ref C,some dx,.plain,#[]⟩:=I.obj
 refine wpAny_bind (wpAny_pure (wpAny_bind (wpAny_bind (wpAny_loadPart hx (wpAny_bind (PySem.W.Looks.here (s:={ s with toks:=s.toks+1 }) (PySem.W.looks_clsIn X hc) ?_))))))
 rw [hd']
 refine wpAny_pure (a:=some dx) (wpAny_bind (wpAny_pure (wpAny_bind ?_)))
 refine wpAny_nsSet1 (s:={ s with toks:=s.toks+1 }) I.ns fun h' hn2 hs2=>?_
 obtain ⟨oD,esD,epD,hoD,hdD,hcD⟩:=hn2.count (PySem.Within.cons name v hw)
 refine wpAny_bind (wpAny_lookBehind hoD (by rw [hdD];exact pastItsLine_dict (Nat.le_trans hcD (by rw [List.length_cons];omega))) ?_)
 exact wpAny_pure (h _ ⟨(hs2.2 _ (Ne.symm I.ne)).trans I.obj,hn2,I.ne⟩ hs2)
theorem Fi {R:Result->Shared->Prop}{vs:List Value}{kw:List (Str×Value)}(X:K.In s.heap)(hm:PySem.W.makesIn K C=true)
  (hi:PySem.W.findIn K (.ref C) "__init__" = some (some (.ref f))) (hf:PySem.W.typeIn K (.ref f)=some (.type "function"))
  (h:codeAny (model prog w) (A.under (.builtin "type.__call__" ⟨.ref C::vs,kw⟩)) (.call (.ref f) ⟨.ref (s.heap.objs.size+1)::vs,kw⟩) (PySem.W.InitBack (s.heap.objs.size+1) R)
   { s with heap:=(s.heap.push PySem.W.emptyDict).push (PySem.W.instObj C s.heap.objs.size) }) :
  codeAny (model prog w) A (.call (.ref C) ⟨vs,kw⟩) R s:=by
 obtain ⟨hh,g,d,t,os⟩:=s
 exact PySem.W.make_core (PySem.W.makes_of X hm) (PySem.W.looks_findIn X hi) (fun self=>PySem.W.bind_fn X self hf) (.inl rfl) h
end
def jD (f:Str)(v:V):List (Str×V)->List (Str×V)
 | []=>[(f,v)]
 | (g,x)::r=>if g=f then (g,v)::r else (g,x)::jD f v r
theorem gM (f g:Str)(v:V):∀ fs:List (Str×V),(jD f v fs).lookup g=if g=f then some v else fs.lookup g
 | []=>by
  show List.lookup g [(f,v)]=_
  by_cases h:g=f
  ·have hb:(g==f)=true:=beq_iff_eq.mpr h
   simp only [List.lookup,hb,if_pos h]
  ·have hb:(g==f)=false:=beq_eq_false_iff_ne.mpr h
   simp only [List.lookup,hb,if_neg h]
 | (k,x)::r=>by
  have ih:=gM f g v r
  rw [show jD f v ((k,x)::r)=(if k=f then (k,v)::r else (k,x)::jD f v r) from rfl]
  by_cases hk:k=f
  ·rw [if_pos hk]
   by_cases h:g=k
   ·have hb:(g==k)=true:=beq_iff_eq.mpr h
    simp only [List.lookup,hb,if_pos (h.trans hk)]
   ·have hb:(g==k)=false:=beq_eq_false_iff_ne.mpr h
    simp only [List.lookup,hb,if_neg (fun e:g=f=>h (e.trans hk.symm))]
  ·rw [if_neg hk]
   by_cases h:g=k
   ·have hb:(g==k)=true:=beq_iff_eq.mpr h
    simp only [List.lookup,hb,if_neg (fun e:g=f=>hk (h.symm.trans e))]
   ·have hb:(g==k)=false:=beq_eq_false_iff_ne.mpr h
    simp only [List.lookup,hb]
    exact ih
theorem nJ (f:Str)(v:V):∀ fs:List (Str×V),f∈(jD f v fs).map (·.1)∧∀ g,g∈fs.map (·.1)->g∈(jD f v fs).map (·.1)
 | []=>⟨by simp [jD],fun g h=>by simp at h⟩
 | (k,x)::r=>by
  obtain ⟨i1,i2⟩:=nJ f v r
  rw [show jD f v ((k,x)::r)=(if k=f then (k,v)::r else (k,x)::jD f v r) from rfl]
  by_cases hk:k=f
  ·rw [if_pos hk]
   subst hk
   exact ⟨by simp,fun g h=>by simpa using h⟩
  ·rw [if_neg hk]
   refine ⟨?_,fun g h=>?_⟩
   ·rw [List.map_cons]
    exact List.mem_cons_of_mem _ i1
   ·rw [List.map_cons] at h ⊢
    rcases List.mem_cons.mp h with e | e
    ·exact List.mem_cons.mpr (.inl e)
    ·exact List.mem_cons_of_mem _ (i2 g e)
theorem nQ (f:Str)(v:V):∀ fs:List (Str×V),(jD f v fs).length<=fs.length+1
 | []=>by simp [jD]
 | (k,x)::r=>by
  have ih:=nQ f v r
  rw [show jD f v ((k,x)::r)=(if k=f then (k,v)::r else (k,x)::jD f v r) from rfl]
  by_cases hk:k=f
  ·rw [if_pos hk,List.length_cons,List.length_cons];omega
  ·rw [if_neg hk,List.length_cons,List.length_cons];omega
theorem hG.some_of {v:V}{o:Option Value}(r:hG (some v) o):∃ u,o=some u∧bH v u:=by
 cases o with
 | none=>exact (show False from r).elim
 | some u=>exact ⟨u,rfl,r⟩
theorem hG.none_of {o:Option Value}(r:hG none o):o=none:=by
 cases o with
 | none=>rfl
 | some u=>exact (show False from r).elim
theorem Cv {v:V}{u:Value}(r:bH v u):PySem.W.handedIn u=true:=by
 cases v with
 | non=>cases (show u=Value.none from r);rfl
 | bl b=>cases (show u=Value.bool b from r);rfl
 | int i=>obtain ⟨t,e⟩:=(show ∃ t,u=Value.int i t from r);cases e;rfl
 | str x=>obtain ⟨t,e⟩:=(show ∃ t,u=Value.str x t from r);cases e;rfl
 | byt b=>obtain ⟨t,e⟩:=(show ∃ t,u=Value.bytes b t from r);cases e;rfl
 | flt b=>obtain ⟨t,e⟩:=(show ∃ t,u=Value.float b t from r);cases e;rfl
 | ref a=>cases (show u=Value.ref a from r);rfl
 | ty n=>cases (show u=Value.type n from r);rfl
section
variable {P:Program}{w:World}{H H':Hp}{h h':Heap}{a C dx:Addr}{fs fs':List (Str×V)}
theorem zU (hok:HOk P w H h)(e:H a=some (.ins C dx fs)):∃ mA,Bi h a dx C mA∧(∀ f,hG (fs.lookup f) (mA f))∧PySem.Within mA (fs.map (·.1))∧fs.length<=1000∧H dx=some (.own a):=by
 obtain ⟨d,z,ne,ob,mA,n,r,q⟩:=(show cY P w H h a (.ins C dx fs) from hok a _ e)
 exact ⟨mA,⟨ob,n,ne⟩,r,q,z,d⟩
end
set_option genInjectivity false in
structure Cls (K:PySem.W.Frag)(C:Addr):Prop where
 pg:PySem.W.plainGet K C Str.empty=true
 hd:PySem.W.hasDictIn K C=true
 po:PySem.W.plainOver K C=true
 sa:PySem.W.findIn K (.ref C) "__setattr__" = some (some (.builtin "object.__setattr__"))
theorem Cls.get {K:PySem.W.Frag}{C:Addr}(c:Cls K C)(f:Str):PySem.W.plainGet K C f=true:=c.pg
def jW (K:PySem.W.Frag)(C:Addr)(f:Str):Prop:=PySem.W.findIn K (.ref C) f=some none
theorem jW.taker {K:PySem.W.Frag}{C:Addr}{f:Str}(n:jW K C f):PySem.W.takerIn K C f=some none:=by
 unfold PySem.W.takerIn
 rw [show PySem.W.findIn K (.ref C) f=some none from n]
 rfl
section
variable {X:Cx}{pins:List (Addr×Obj)}{σ:St}{H:Hp}{s:Shared}{a C dx:Addr}{fs:List (Str×V)}{f:Str}{v:V}{A:Around}{E:Value->Shared->Prop}
theorem yC {b:Bool}{Q:Value->Shared->Prop}(I:Inv X pins σ H s)(e:H a=some (.ins C dx fs))(c:Cls X.K C)(n:jW X.K C f)(l:fs.lookup f=some v)
  (h:∀ u s',Inv X pins σ H s'->bH v u->Q u s'):wpAny (model X.prog X.w) A (getAttr (.ref a) f b) Q E s:=by
 obtain ⟨mA,O,r,_,_,_⟩:=zU I.hok e
 obtain ⟨u,hu,ru⟩:=hG.some_of (v:=v) (o:=mA f) (by rw [<- l];exact r f)
 exact Iv I.kIn O (c.get f) c.hd n hu (Cv ru) (h u _ (I.tok _) ru)
theorem yJ {y:V}{u:Value}{Q:Unit->Shared->Prop}(I:Inv X pins σ H s)(e:H a=some (.ins C dx fs))(c:Cls X.K C)(n:jW X.K C f)(hl:fs.length<1000)(ry:bH y u)
  (h:∀ s',Inv X pins σ (upd H a (.ins C dx (jD f y fs))) s'->Q () s'):wpAny (model X.prog X.w) A (setAttr (.ref a) f u) Q E s:=by
 obtain ⟨mA,O,r,wi,_,ho⟩:=zU I.hok e
 have hz:(fs.map (·.1)).length<=sizeLine:=by rw [List.length_map,sizeLine_eq];omega
 refine Iz I.kIn O c.sa c.po n.taker c.hd wi hz fun h' O' sb=>h _ ?_
 have hd:∃ o,h'.get? dx=some o:=let ⟨o,_,_,e',_⟩:=O'.ns;⟨o,e'⟩
 refine I.write (x:=a) (e:=dx) (by rw [e];exact True.intro) (.inr ho) (fun b q hb z=>(sb.2 b hb).trans z) hd ?_
 refine ⟨by rw [aH O.ne];exact ho,?_,O.ne,O'.obj,_,O'.ns,fun g=>?_,fun g hg=>?_⟩
 ·have:=nQ f y fs;omega
 ·show hG ((jD f y fs).lookup g) (if g=f then some u else mA g)
  rw [gM]
  by_cases q:g=f
  ·rw [if_pos q,if_pos q];exact ry
  ·rw [if_neg q,if_neg q];exact r g
 ·by_cases q:g=f
  ·rw [q];exact (nJ f y fs).1
  ·refine (nJ f y fs).2 g (wi g fun z=>hg ?_)
   show (if g=f then some u else mA g)=none
   rw [if_neg q];exact z
theorem Inv.made (I:Inv X pins σ H s):Inv X pins σ (upd (upd H s.heap.objs.size (.own (s.heap.objs.size+1))) (s.heap.objs.size+1) (.ins C s.heap.objs.size []))
  { s with heap:=(s.heap.push PySem.W.emptyDict).push (PySem.W.instObj C s.heap.objs.size) }:=by
 have e1:(s.heap.push PySem.W.emptyDict).get? s.heap.objs.size=some PySem.W.emptyDict:=Heap.get?_push_size s.heap rfl
 have e2:((s.heap.push PySem.W.emptyDict).push (PySem.W.instObj C s.heap.objs.size)).get? (s.heap.objs.size+1)=some (PySem.W.instObj C s.heap.objs.size):=by
  have:=Heap.get?_push_size (s.heap.push PySem.W.emptyDict) (o:=PySem.W.instObj C s.heap.objs.size) rfl
  rwa [Heap.size_push] at this
 have e3:(s.heap.push PySem.W.emptyDict).Ns s.heap.objs.size (fun _=>none):=⟨PySem.W.emptyDict,#[],_,e1,rfl,(fun e he=>absurd he (by simp)),fun _=>rfl⟩
 have I1:=I.laid (a:=s.heap.objs.size) (o:=.own (s.heap.objs.size+1)) (h':=s.heap.push PySem.W.emptyDict) (t':=s.toks) (fun b u q=>Heap.get?_push_of_some _ q) (Nat.le_refl _) ⟨_,e1⟩
 refine I1.laid (a:=s.heap.objs.size+1) (o:=.ins C s.heap.objs.size []) (t':=s.toks) (fun b u q=>Heap.get?_push_of_some _ q) (Nat.le_of_eq (Heap.size_push _ _)) ?_
 have ne:s.heap.objs.size≠s.heap.objs.size+1:=Nat.ne_of_lt (Nat.lt_succ_self _)
 refine ⟨by rw [aH ne,aC],Nat.zero_le _,ne,e2,fun _=>none,(Heap.Ns1.of_empty e3).at fun o q=>Heap.get?_push_of_some _ q,fun _=>True.intro,fun y hy=>absurd rfl hy⟩
theorem Jd {prog:Program}{w:World}{env:Env}{e:Expr}{f:Str}{pos:Pos}{s:Shared}{Q:Value->Shared->Prop}(hb:attributeBase e f env (eval e env)=eval e env)
  (h:wpAny (model prog w) A (eval e env) (fun o s₁=>wpAny (model prog w) A (getAttr o f true) Q E s₁) E s):wpAny (model prog w) A (eval (.Attribute e f pos) env) Q E s :=
 Attribute_any_ h (by rw [arm_eval_Attribute,hb])
end
def Pm (K:PySem.W.Frag)(ta:TE)(f:Str):TE:=fun σ H Q=>ta σ H fun x H1=>∃ a C dx fs v,x = .ref a∧H1 a=some (.ins C dx fs)∧Cls K C∧jW K C f∧fs.lookup f=some v∧Q v H1
def Pz (K:PySem.W.Frag)(ta tv:TE)(f:Str):TS:=fun D σ H=>tv σ H fun y H1=>ta σ H1 fun x H2=>∃ a C dx fs,x = .ref a∧H2 a=some (.ins C dx fs)∧Cls K C∧jW K C f∧fs.length<1000 ∧
 D.nx σ (upd H2 a (.ins C dx (jD f y fs)))
section
variable {X:Cx}{o e value:Expr}{f:Str}{pos pos' tpos:Pos}{ta tv:TE}
theorem qC (he:PE X e ta)(hb:attributeBase e f X.env (eval e X.env)=eval e X.env):PE X (.Attribute e f pos) (Pm X.K ta f):=by
 intro pins s σ H Q I h
 refine Jd hb (thn (he pins s σ H _ I h) fun u s1 ⟨x,H1,I1,rx,a,C,dx,fs,v,ex,ea,c,n,l,q⟩=>?_)
 subst ex
 obtain rfl:u=Value.ref a:=rx
 exact yC I1 ea c n l fun u' s2 I2 ru=>⟨v,H1,I2,ru,q⟩
theorem Gi (ha:PE X o ta)(hv:PE X value tv)(hs:swapsWith value (some (.Attribute o f pos')) pos.line X.env=pure false):PS X (.Assign [.Attribute o f pos'] value pos) (Pz X.K ta tv f):=by
 intro pins s σ H D I h
 refine plainObj_wpAny_Assign_Attribute (thn (hv pins s σ H _ I h) fun u s1 ⟨y,H1,I1,ry,q⟩=>thn (ha pins s1 σ H1 _ I1 q) fun ov s2 ⟨x,H2,I2,rx,a,C,dx,fs,ex,ea,c,n,l,q2⟩=>?_) hs
 subst ex
 obtain rfl:ov=Value.ref a:=rx
 exact yJ I2 ea c n l ry fun s3 I3=>⟨σ,_,I3,q2⟩
end
section
variable {X:Cx}{pins:List (Addr×Obj)}{σ:St}{H:Hp}{s:Shared}{A:Around}{E:Value->Shared->Prop}{Q:Value->Shared->Prop}{c:Value}{b:Bool}
end
end L2
namespace L2
open PySem PySem.Spec PyProof.Rows
set_option genInjectivity false in
structure fI (k:Nat)(A:Around):Prop where
 hd:A.handled=none
 dp:A.depth+3*k+5<recursionLimit
 un:A.units+16*k+200<cLine
theorem fI.mono {j k:Nat}{A:Around}(r:fI k A)(h:j<=k):fI j A:=⟨r.hd,by have:=r.dp;omega,by have:=r.un;omega⟩
theorem fI.deeper {k:Nat}{A:Around}(r:fI (k+1) A)(env:Env):fI k (A.deeper env) :=
 ⟨r.hd,by have:=r.dp;show A.depth+1+3*k+5<_;omega,by have:=r.un;show A.units+3+16*k+200<_;omega⟩
theorem yU {A:Around}{C:Addr}{us:List Value}{kw:List (Str×Value)}:(A.under (.builtin "type.__call__" ⟨.ref C::us,kw⟩)).depth=A.depth+1:=by
 first | rfl | simp [Around.under,Code.weight,Code.isCreation,Code.isGuard,Code.isCaller,Code.frames,Code.isFrame,guardIds]
theorem xR {A:Around}{C:Addr}{us:List Value}{kw:List (Str×Value)}:(A.under (.builtin "type.__call__" ⟨.ref C::us,kw⟩)).units=A.units+1:=by
 first | rfl | simp [Around.under,Code.cUnits,Code.frames,Code.isFrame]
theorem fI.make {k:Nat}{A:Around}(r:fI (k+1) A)(C:Addr)(us:List Value)(kw:List (Str×Value)):fI k (A.under (.builtin "type.__call__" ⟨.ref C::us,kw⟩)) :=
 ⟨r.hd,by have:=r.dp;rw [yU];omega,by have:=r.un;rw [xR];omega⟩
theorem fI.depth {k:Nat}{A:Around}(r:fI k A):A.depth<recursionLimit:=by have:=r.dp;omega
theorem fI.units {k:Nat}{A:Around}(r:fI k A):A.units+64<cLine:=by have:=r.un;omega
def On:TA:=fun _ H Q=>Q [] H
def qF (ta:TE)(tr:TA):TA:=fun σ H Q=>ta σ H fun x H1=>tr σ H1 fun xs H2=>Q (x::xs) H2
section
variable {X:Cx}{e:Expr}{es:List Expr}{te:TE}{t:TA}{pos:Pos}
theorem aD:PA X [] On:=fun _ _ _ _ H Q I h=>Calls.spliced_nil ⟨[],H,I,.nil,h⟩
theorem aA (ha:PE X e te)(hr:PA X es t)(hs:starEach (e::es) X.env=(false,eval e X.env)::starEach es X.env:=by rfl):PA X (e::es) (qF te t):=by
 intro pos pins s σ H Q I h
 rw [hs]
 show wpAny _ _ (spliced ((false,eval e X.env)::backTo pos (starEach es X.env))) _ _ s
 refine Calls.spliced_cons (thn (ha pins s σ H _ I h) fun u s1 ⟨x,H1,I1,r1,q1⟩=>?_)
 exact thn (hr pos pins s1 σ H1 _ I1 q1) fun us s2 ⟨xs,H2,I2,r2,q2⟩=>⟨x::xs,H2,I2,.cons r1 r2,q2⟩
def Pr (t:TA):TE:=fun σ H Q=>t σ H fun xs H1=>xs.length<=sizeLine∧∀ p,H1 p=none->Q (.ref p) (upd H1 p (.tup xs))
def Re (t:TA):TE:=fun σ H Q=>t σ H fun xs H1=>xs.length<=sizeLine∧∀ p,H1 p=none->Q (.ref p) (upd H1 p (.lst xs))
theorem Fw {x1}(h:PA X es t):PE X (.Tuple es x1 pos) (Pr t):=by
 intro pins s σ H Q I hq
 refine wpAny_Tuple_spliced (thn (h pos pins s σ H _ I hq) fun us s1 ⟨xs,H1,I1,r,z,q⟩=>⟨by rw [<- r.length];exact z,?_⟩)
 have hf:H1 s1.heap.objs.size=none:=I1.hok.fresh (Nat.le_refl _)
 refine ⟨.ref s1.heap.objs.size,upd H1 s1.heap.objs.size (.tup xs),I1.laid (t':=s1.toks) (fun b u e=>Heap.get?_push_of_some _ e) (Nat.le_refl _) ?_,rfl,q _ hf⟩
 exact ⟨z,us,r,⟨_,Heap.get?_push_size _ rfl,rfl,_,rfl⟩⟩
theorem bK (h:PA X es t):PE X (.List es pos) (Re t):=by
 intro pins s σ H Q I hq
 refine wpAny_List_spliced (thn (h pos pins s σ H _ I hq) fun us s1 ⟨xs,H1,I1,r,z,q⟩=>⟨by rw [<- r.length];exact z,?_⟩)
 have hf:H1 s1.heap.objs.size=none:=I1.hok.fresh (Nat.le_refl _)
 refine ⟨.ref s1.heap.objs.size,upd H1 s1.heap.objs.size (.lst xs),I1.laid (t':=s1.toks) (fun b u e=>Heap.get?_push_of_some _ e) (Nat.le_refl _) ?_,rfl,q _ hf⟩
 exact ⟨z,us,0,r,Heap.get?_push_size _ rfl⟩
end
abbrev Sp:=List V->Hp->VK->XK->Prop
abbrev CXT:=List Env->Hp->Shared->XK->Value->Shared->Prop
set_option genInjectivity false in
structure xO (P:Program)(w:World)(K:PySem.W.Frag)(mg:Str->Option Value)(base:Heap)(A:Around)(outer:List Env)(s:Shared)(H:Hp):Prop where
 frames:A.frames=some outer
 mod:Mod K mg base
 bs:∀ b o,base.get? b=some o->s.heap.get? b=some o∧H b=none
 bsz:base.objs.size<=s.heap.objs.size
 funs:s.heap.FunFrames base outer
 frf:∀ b∈frs outer,H b=none
 hok:HOk P w H s.heap
 bare:AllBare s.gens
def CE (outer:List Env)(P:Program)(w:World)(H:Hp)(s:Shared)(Q:VK)(u:Value)(s':Shared):Prop :=
 ∃ v H',s'.os=s.os∧AllBare s'.gens∧Un (frs outer) [] H H' s.heap s'.heap∧HOk P w H' s'.heap∧bH v u∧Q v H'
def CR (CX:CXT)(outer:List Env)(P:Program)(w:World)(H:Hp)(s:Shared)(Q:VK)(E:XK)(r:Result)(s':Shared):Prop :=
 match r with
 | .ok (.ret u)=>CE outer P w H s Q u s'
 | .ok _=>False
 | .error e=>CX outer H s E e s'
set_option genInjectivity false in
structure cD (P:Program)(w:World)(K:PySem.W.Frag)(mg:Str->Option Value)(base:Heap)(CX:CXT)(k:Nat)(f:Addr)(fd:FuncData)(ps:List Str)(sp:Sp):Prop where
 len:∀ vs H Q E,sp vs H Q E->vs.length=ps.length
 run:∀ (A:Around) (outer:List Env) (s:Shared) (H:Hp) (args:Args) (us:List Value) (vs:List V) (Q:VK) (E:XK),fI k A->xO P w K mg base A outer s H->BindsTo s fd args (ps.zip us)->bR vs us->sp vs H Q E ->
  codeAny (model P w) A (.call (.ref f) args) (CR CX outer P w H s Q E) s
theorem xO.make {P:Program}{w:World}{K:PySem.W.Frag}{mg:Str->Option Value}{base:Heap}{A:Around}{outer:List Env}{s:Shared}{H:Hp}(e:xO P w K mg base A outer s H)(C:Addr)(us:List Value)(kw:List (Str×Value)) :
 xO P w K mg base (A.under (.builtin "type.__call__" ⟨.ref C::us,kw⟩)) outer s H:=⟨by first | exact e.frames | (simpa [Around.under,Code.envs,Code.isFrame,pushEnvs] using e.frames),e.mod,e.bs,e.bsz,e.funs,e.frf,e.hok,e.bare⟩
section
variable {X:Cx}{pins:List (Addr×Obj)}{σ:St}{H:Hp}{s s':Shared}
theorem Inv.env0 (I:Inv X pins σ H s):xO X.prog X.w X.K X.mg X.base X.A X.stack s H :=
 ⟨I.ok.frames,I.ok.mod,I.bs,Nat.le_trans I.ok.bsz I.sz,I.stack,I.stkFree,I.hok,I.bare⟩
theorem Inv.after {Q:VK}{u:Value}(I:Inv X pins σ H s)(h:CE X.stack X.prog X.w H s Q u s'):EP X pins σ Q u s':=by
 obtain ⟨v,H',os,bare,un,hok,r,q⟩:=h
 obtain ⟨hh,g,d,t,os'⟩:=s'
 obtain rfl:os'=s.os:=os
 exact ⟨v,H',I.call (h':=hh) (g':=g) (d':=d) (t':=t) (ch:=[]) un hok bare (fun b z=>absurd z (by simp)),r,q⟩
end
def Kp (sp:Sp)(dvs:List V)(E:XK)(t:TA):TE:=fun σ H Q=>t σ H fun vs H1=>sp (vs++dvs) H1 Q E
def Kh (C:Addr)(sp:Sp)(dvs:List V)(E:XK)(t:TA):TE:=fun σ H Q=>t σ H fun vs H1=>∀ x dx,H1 x=none->H1 dx=none->dx≠x ->
 sp (.ref x::(vs++dvs)) (upd (upd H1 dx (.own x)) x (.ins C dx [])) (fun v H2=>v = .non∧Q (.ref x) H2) E
def lD (K:PySem.W.Frag)(fd:FuncData)(ps:List Str)(ds:List Value):Prop :=
 ∀ (s:Shared) (us:List Value),K.In s.heap->(us++ds).length=ps.length->BindsTo s fd ⟨us,[]⟩ (ps.zip (us++ds))
theorem lD.all {K:PySem.W.Frag}{fd:FuncData}{ps:List Str}(h:∀ us:List Value,us.length=ps.length->bindArgs fd ⟨us,[]⟩=pure (ps.zip us)):lD K fd ps []:=fun s us _ hl=>by
 rw [List.append_nil] at hl ⊢
 exact .of_eq (h us hl)
def jU (CX:CXT)(X:Cx)(E:XK):Prop:=∀ (pins:List (Addr×Obj)) (σ:St) (H:Hp) (s:Shared) (e:Value) (s':Shared),Inv X pins σ H s->CX X.stack H s E e s'->X.xe e s'
section
variable {X:Cx}{CX:CXT}{k:Nat}{f C:Addr}{fd:FuncData}{ps:List Str}{sp:Sp}{dvs:List V}{ds:List Value}{E:XK}{x m:Str}{p pos apos:Pos}{e o:Expr}{es:List Expr}{ta:TE}{t:TA}
theorem Mr {pins:List (Addr×Obj)}{σ:St}{H:Hp}{s:Shared}{Q:VK}{us:List Value}{vs:List V}(F:cD X.prog X.w X.K X.mg X.base CX k f fd ps sp)(hr:fI k X.A)(hb:lD X.K fd ps ds)(hd:bR dvs ds)(hx:jU CX X E)
  (I:Inv X pins σ H s) (r:bR vs us) (h:sp (vs++dvs) H Q E):wpAny (model X.prog X.w) X.A (call (.ref f) us) (EP X pins σ Q) X.xe s:=by
 have r2:bR (vs++dvs) (us++ds):=r.append hd
 have hl:(us++ds).length=ps.length:=by rw [<- r2.length];exact F.len _ _ _ _ h
 refine wpAny_call (codeAny_mono (F.run X.A X.stack s H ⟨us,[]⟩ (us++ds) (vs++dvs) Q E hr I.env0 (hb s us I.kIn hl) r2 h) fun r s' hq=>?_)
 cases r with
 | error e=>exact hx pins σ H s e s' I hq
 | ok fl =>
  cases fl with
  | ret u=>exact I.after hq
  | next=>exact False.elim hq
  | brk=>exact False.elim hq
  | cont=>exact False.elim hq
theorem Il (F:cD X.prog X.w X.K X.mg X.base CX k f fd ps sp)(hr:fI k X.A)(hg:Gl X x)(hm:X.mg x=some (.ref f))(hk:PySem.W.keepIn X.K (.ref f)=true)(hb:lD X.K fd ps ds)(hd:bR dvs ds)(hx:jU CX X E)
  (ha:PA X (e::es) t) (hdb:(x==("__debug__" : Str))=false:=by decide) (he:starEach (e::es) X.env=(false,eval e X.env)::starEach es X.env:=by rfl) (hpl:(backTo pos (starEach es X.env)).any (·.1)=false:=by rfl) :
  PE X (.Call (.Name x p) (e::es) [] pos) (Kp sp dvs E t):=by
 intro pins s σ H Q I h
 refine wpAny_Call_Name_kw (kL I hg hm ?_ hdb)
 refine PySem.W.callWith_K (h₀:=X.base) I.ok.mod.kin hk (thn (ha pos pins s σ H _ I h) fun us s1 ⟨vs,H1,I1,r,q⟩=>⟨I1.kIn,?_⟩) he hpl
 exact Mr F hr hb hd hx I1 r q
set_option genInjectivity false in
structure Mk (K:PySem.W.Frag)(C f:Addr):Prop where
 makes:PySem.W.makesIn K C=true
 init:PySem.W.findIn K (.ref C) "__init__" = some (some (.ref f))
 fn:PySem.W.isFn K (.ref f)=true
 kp:PySem.W.keepIn K (.ref C)=true
theorem Ev {pins:List (Addr×Obj)}{σ:St}{H:Hp}{s:Shared}{Q:VK}{us:List Value}{vs:List V}(M:Mk X.K C f)(F:cD X.prog X.w X.K X.mg X.base CX k f fd ps sp)(hr:fI (k+1) X.A)(hb:lD X.K fd ps ds)(hd:bR dvs ds)
  (hx:jU CX X E) (I:Inv X pins σ H s) (r:bR vs us)
  (h:∀ x dx,H x=none->H dx=none->dx≠x->sp (.ref x::(vs++dvs)) (upd (upd H dx (.own x)) x (.ins C dx [])) (fun v H2=>v = .non∧Q (.ref x) H2) E) :
  wpAny (model X.prog X.w) X.A (call (.ref C) us) (EP X pins σ Q) X.xe s:=by
 have hq:=h (s.heap.objs.size+1) s.heap.objs.size (I.hok.fresh (Nat.le_succ _)) (I.hok.fresh (Nat.le_refl _)) (Nat.ne_of_lt (Nat.lt_succ_self _))
 have I2:=Inv.made (C:=C) I
 have r2:bR (V.ref (s.heap.objs.size+1)::(vs++dvs)) (Value.ref (s.heap.objs.size+1)::(us++ds)):=.cons rfl (r.append hd)
 have hl:(Value.ref (s.heap.objs.size+1)::us++ds).length=ps.length:=by
  have e:=r2.length
  rw [F.len _ _ _ _ hq] at e
  exact e.symm
 refine wpAny_call (Fi (f:=f) I.kIn M.makes M.init (beq_iff_eq.mp M.fn) (codeAny_mono (F.run _ X.stack _ _ ⟨Value.ref (s.heap.objs.size+1)::us,[]⟩ (Value.ref (s.heap.objs.size+1)::(us++ds)) _ _ E (hr.make C us [])
  (I2.env0.make C us []) (hb _ (Value.ref (s.heap.objs.size+1)::us) I2.kIn hl) r2 hq) fun r s' hq'=>?_))
 cases r with
 | error e=>exact hx pins σ _ _ e s' I2 hq'
 | ok fl =>
  cases fl with
  | ret u =>
   obtain ⟨v,H',I3,rv,ev,q3⟩:=I2.after hq'
   subst ev
   exact ⟨rv,⟨V.ref (s.heap.objs.size+1),H',I3,rfl,q3⟩⟩
  | next=>exact False.elim hq'
  | brk=>exact False.elim hq'
  | cont=>exact False.elim hq'
theorem Im (M:Mk X.K C f)(F:cD X.prog X.w X.K X.mg X.base CX k f fd ps sp)(hr:fI (k+1) X.A)(hg:Gl X x)(hm:X.mg x=some (.ref C))(hb:lD X.K fd ps ds)(hd:bR dvs ds)(hx:jU CX X E)
  (ha:PA X (e::es) t) (hdb:(x==("__debug__" : Str))=false:=by decide) (he:starEach (e::es) X.env=(false,eval e X.env)::starEach es X.env:=by rfl) (hpl:(backTo pos (starEach es X.env)).any (·.1)=false:=by rfl) :
  PE X (.Call (.Name x p) (e::es) [] pos) (Kh C sp dvs E t):=by
 intro pins s σ H Q I h
 refine wpAny_Call_Name_kw (kL I hg hm ?_ hdb)
 refine PySem.W.callWith_K (h₀:=X.base) I.ok.mod.kin M.kp (thn (ha pos pins s σ H _ I h) fun us s1 ⟨vs,H1,I1,r,q⟩=>⟨I1.kIn,?_⟩) he hpl
 exact Ev M F hr hb hd hx I1 r q
end
section
variable {X:Cx}{CX:CXT}{k:Nat}{f C:Addr}{fd:FuncData}{ps ks:List Str}{sp:Sp}{E:XK}{x m:Str}{p pos apos kpos:Pos}{e o:Expr}{es:List Expr}{kws:List Keyword}{te ta:TE}{t tk:TA}{nm:Option Str}
variable {g:List Value->List Value->List Value}{gV:List V->List V->List V}
end
set_option genInjectivity false in
structure aY (N P:List Str)(sc:Scope):Prop where
 kind:sc.kind = .function
 co:sc.isCoroutine=false
 gen:sc.isGenerator=false
 nd:N.Nodup
 pre:N.take P.length=P
 par:∀ x∈P,sc.names.lookup x=some .local∨sc.names.lookup x=some .cell
 nofree:∀ y∈sc.names,y.2≠.free
theorem rS {kindOf:Str->Option NameKind}{x:Str}:∀ {binds:List (Str×Value)} {m:Str->Option Value},(∀ v,(x,v)∉binds)->bindL kindOf binds m x=m x
 | [],_,_=>rfl
 | (n,v)::r,m,h=>by
  unfold bindL
  rw [rS fun w hw=>h w (List.mem_cons_of_mem _ hw)]
  split
  ·have:x≠n:=by rintro rfl;exact h v List.mem_cons_self
   simp [this]
  ·rfl
theorem sC {kindOf:Str->Option NameKind}{x:Str}:∀ {binds:List (Str×Value)} {m:Str->Option Value},(∀ v,(x,v)∉binds)->bindC kindOf binds m x=m x
 | [],_,_=>rfl
 | (n,v)::r,m,h=>by
  unfold bindC
  rw [sC fun w hw=>h w (List.mem_cons_of_mem _ hw)]
  split
  ·rfl
  ·have:x≠n:=by rintro rfl;exact h v List.mem_cons_self
   simp [this]
theorem tK {kindOf:Str->Option NameKind}{x:Str}{v:Value}:∀ {P:List Str} {vs:List Value} {i:Nat} {m:Str->Option Value},P.Nodup->P[i]?=some x->vs[i]?=some v->kindOf x=some .local ->
  bindL kindOf (P.zip vs) m x=some v
 | [],_,_,_,_,h,_,_=>by simp at h
 | _::_,[],_,_,_,_,h,_=>by simp at h
 | p::P,w::vs,0,m,nd,h1,h2,hk=>by
  simp at h1 h2;subst h1;subst h2
  show bindL kindOf ((p,w)::P.zip vs) m p=_
  unfold bindL
  rw [rS fun v hv=>(List.nodup_cons.mp nd).1 (List.of_mem_zip hv).1,if_pos hk]
  simp
 | p::P,w::vs,i+1,m,nd,h1,h2,hk=>by
  show bindL kindOf ((p,w)::P.zip vs) m x=_
  unfold bindL
  exact tK (i:=i) (List.nodup_cons.mp nd).2 (by simpa using h1) (by simpa using h2) hk
theorem sK {kindOf:Str->Option NameKind}{x:Str}{v:Value}:∀ {P:List Str} {vs:List Value} {i:Nat} {m:Str->Option Value},P.Nodup->P[i]?=some x->vs[i]?=some v->kindOf x≠some .local ->
  bindC kindOf (P.zip vs) m x=some v
 | [],_,_,_,_,h,_,_=>by simp at h
 | _::_,[],_,_,_,_,h,_=>by simp at h
 | p::P,w::vs,0,m,nd,h1,h2,hk=>by
  simp at h1 h2;subst h1;subst h2
  show bindC kindOf ((p,w)::P.zip vs) m p=_
  unfold bindC
  rw [sC fun v hv=>(List.nodup_cons.mp nd).1 (List.of_mem_zip hv).1,if_neg hk]
  simp
 | p::P,w::vs,i+1,m,nd,h1,h2,hk=>by
  show bindC kindOf ((p,w)::P.zip vs) m x=_
  unfold bindC
  exact sK (i:=i) (List.nodup_cons.mp nd).2 (by simpa using h1) (by simpa using h2) hk
def lU (N:List Str)(vs:List V):St:=vs.map some++List.replicate (N.length-vs.length) none
def nU (CX:CXT)(P:Program)(w:World)(K:PySem.W.Frag)(mg:Str->Option Value)(base:Heap)(N:List Str)(qual:Str)(scope:Scope)(f:Addr)(cd:Value)(A:Around)(outer:List Env)(s:Shared)(H:Hp)(E:XK):Cx where
 prog:=P
 w:=w
 K:=K
 mg:=mg
 base:=base
 A:=A.deeper (envOfC qual scope s.heap.objs.size f cd)
 N:=N
 s₀:=s
 H₀:=H
 env:=envOfC qual scope s.heap.objs.size f cd
 outer:=outer
 stack:=envOfC qual scope s.heap.objs.size f cd::outer
 ex:=[]
 calm:=true
 fn:=fun _=>true
 pn:=[]
 xe:=fun e s'=>wpAny (model P w) (A.deeper (envOfC qual scope s.heap.objs.size f cd)) (leaving (envOfC qual scope s.heap.objs.size f cd) e) (fun _ s''=>CX outer H s E e s'') (fun e' s''=>CX outer H s E e' s'') s'
theorem vX {sc:Scope}{n:Nat}{x:Str}(h:sc.names.lookup x=some .cell):∃ c,(cellsFrom n sc.names []).lookup x=some c:=by
 have q:=PySem.W.cellsFrom_some sc.names n [] (.inl h)
 exact Option.isSome_iff_exists.mp q
theorem Bj {CX:CXT}{P:Program}{w:World}{K:PySem.W.Frag}{mg:Str->Option Value}{base:Heap}{N ps:List Str}{qual:Str}{scope:Scope}{f:Addr}{cd:Value}{A:Around}{outer:List Env}{s s1:Shared}{H:Hp}{E:XK}{us:List Value}{vs:List V}
  (S:aY N ps scope) (hd:A.handled=none) (e0:xO P w K mg base A outer s H) (hl:vs.length=ps.length) (r:bR vs us)
  (x:InCallC s s.heap.objs.size (bindL (envOfC qual scope s.heap.objs.size f cd).kindOf (ps.zip us) fun _=>none) (cellsFrom (s.heap.objs.size+1) scope.names []) (bindC (envOfC qual scope s.heap.objs.size f cd).kindOf (ps.zip us) fun _=>none) s1) :
  Inv (nU CX P w K mg base N qual scope f cd A outer s H E) [] (lU N vs) H s1:=by
 have hpl:ps.length<=N.length:=by have:=congrArg List.length S.pre;rw [List.length_take] at this;omega
 obtain ⟨h1,tk,rfl,hk⟩:=x.done
 have noA:∀ b:Addr,b∉(nU CX P w K mg base N qual scope f cd A outer s H E).ex:=fun b z=>absurd (show b∈([]:List Addr) from z) (by simp)
 refine ⟨⟨e0.mod,S.kind,rfl,rfl,Nat.le_refl _,fun y z c h1 h2=>?_,fun y hy=>?_,fun y c _ h=>?_,fun _=>hd,Around.frames_deeper e0.frames,.inr ⟨rfl,rfl⟩,fun b z=>absurd z (noA b),e0.bs,e0.bsz,fun b _ _=>noA b,fun b z=>absurd z (noA b),e0.funs,e0.frf⟩,
  rfl,e0.bare,Un.kept hk,⟨_,x.toInCall.ns,fun i y v h1 h2 h3=>?_⟩,fun y c h=>⟨_,x.cell y c h⟩,e0.hok.fresh (Nat.le_refl _),fun y c h=>?_,fun p hp=>absurd (show p∈([]:List (Addr×Obj)) from hp) (by simp),e0.hok.kept hk,?_⟩
 ·exact name_of_addr x.apart (PySem.mem_of_lookup h1) (PySem.mem_of_lookup h2)
 ·have hy:scope.names.lookup y=some .cell∨scope.names.lookup y=some .free:=hy
  rcases hy with hy | hy
  ·exact vX hy
  ·exact absurd rfl (S.nofree _ (PySem.mem_of_lookup hy))
 ·exact Nat.le_of_lt (x.above y c (PySem.mem_of_lookup h))
 ·have hi:i<vs.length:=by
   unfold lU at h2
   by_cases hi:i<vs.length
   ·exact hi
   ·rw [List.getElem?_append_right (by simpa using hi)] at h2
    rw [List.getElem?_replicate] at h2
    split at h2 <;> cases h2
  have ha:vs[i]?=some v:=by
   unfold lU at h2
   rw [List.getElem?_append_left (by simpa using hi),List.getElem?_map] at h2
   cases e:vs[i]? with
   | none=>rw [e] at h2;cases h2
   | some a=>rw [e] at h2;cases h2;rfl
  obtain ⟨u,hu,rv⟩:=r.get ha
  have hp:ps[i]?=some y:=by
   rw [<- S.pre,List.getElem?_take_of_lt (by omega)];exact h1
  have ndP:ps.Nodup:=by rw [<- S.pre];exact S.nd.sublist (List.take_sublist _ _)
  refine ⟨u,rv,?_⟩
  rcases S.par y (List.mem_of_getElem? hp) with k | k
  ·exact .inl ⟨k,tK ndP hp hu k⟩
  ·obtain ⟨c,e⟩:=vX (n:=s.heap.objs.size+1) k
   refine .inr ⟨.inl k,c,e,?_⟩
   have q:=x.cell y c e
   rw [sK ndP hp hu (by show scope.names.lookup y≠_;rw [k];decide)] at q
   exact q
 ·exact e0.hok.fresh (Nat.le_of_lt (x.above y c (PySem.mem_of_lookup h)))
 ·unfold lU
  show _=N.length
  rw [List.length_append,List.length_map,List.length_replicate]
  omega
theorem Ko {CX:CXT}{P:Program}{w:World}{K:PySem.W.Frag}{mg:Str->Option Value}{base:Heap}{k:Nat}{f:Addr}{name qual:Str}{params:Arguments}{body:List Stmt}{scope:Scope}{dV kV doc pm cdv ct oc:Value}{an od:Option Addr}
  {osl:Array (Option Value)} {N ps:List Str} {sp:Sp} (lk:K.lookup f=some ⟨oc,od,.func (PySem.W.fnOf name qual params body scope dV kV doc pm an cdv ct),osl⟩) (hcd:PySem.W.codeIn K cdv qual=true) (S:aY N ps scope)
  (len:∀ vs H Q E,sp vs H Q E->vs.length=ps.length)
  (hbody:∀ (A:Around) (outer:List Env) (s:Shared) (H:Hp) (vs:List V) (Q:VK) (E:XK),fI k (A.deeper (envOfC qual scope s.heap.objs.size f cdv))->sp vs H Q E ->
   ∃ t,PSs (nU CX P w K mg base N qual scope f cdv A outer s H E) body t∧t { nx:=fun _ H'=>Q .non H',rt:=Q } (lU N vs) H) :
  cD P w K mg base CX (k+1) f (PySem.W.fnOf name qual params body scope dV kV doc pm an cdv ct) ps sp:=by
 refine ⟨len,fun A outer s H args us vs Q E hr e0 hb r hsp=>?_⟩
 have hl:=len _ _ _ _ hsp
 have KX:K.In s.heap:=e0.mod.kin.keeps fun b o e=>(e0.bs b o e).1
 have lim:s.heap.NoLimit:=e0.mod.nolimit.keeps fun b o e=>(e0.bs b o e).1
 have hkind:∀ y∈ps.zip us,scope.names.lookup y.1=some .local∨(scope.names.lookup y.1=some .cell∧((cellsFrom (s.heap.objs.size+1) scope.names []).lookup y.1).isSome=true):=fun ⟨n,v⟩ hy=>by
  rcases S.par n (List.of_mem_zip hy).1 with q | q
  ·exact .inl q
  ·exact .inr ⟨q,PySem.W.cellsFrom_some _ _ _ (.inl q)⟩
 refine codeAny_call_function hr.depth (KX _ _ lk) rfl S.co S.gen rfl (PySem.W.codeRec_of KX hcd) (hb _ _ _ _ ?_)
 refine wpAny_newFunctionEnv_cells S.kind hkind fun env he s1 x=>?_
 subst he
 refine ⟨lim.keeps x.toInCall.keep,codeAny_func ?_⟩
 obtain ⟨t,ht,hq⟩:=hbody A outer s H vs Q E (hr.deeper _) hsp
 have I:Inv (nU CX P w K mg base N qual scope f cdv A outer s H E) [] (lU N vs) H s1:=Bj S hr.hd e0 hl r x
 refine wpAny_mono (ht [] s1 (lU N vs) H _ I hq) (fun fl s' hs=>?_) fun e s' hs=>hs
 have fin:∀ {σ':St} {H':Hp} {v:V} {u:Value},Inv (nU CX P w K mg base N qual scope f cdv A outer s H E) [] σ' H' s'->bH v u->Q v H'->CE outer P w H s Q u s' :=
  fun {σ' H' v u} J rv q=>⟨v,H',J.os,J.bare,J.base,J.hok,rv,q⟩
 cases fl with
 | ret u =>
  obtain ⟨v,σ',H',J,rv,q⟩:=hs
  exact fin J rv q
 | next =>
  obtain ⟨σ',H',J,q⟩:=hs
  exact fin (v:=V.non) (u:=Value.none) J rfl q
 | brk =>
  obtain ⟨_,_,_,q⟩:=hs
  exact False.elim q
 | cont =>
  obtain ⟨_,_,_,q⟩:=hs
  exact False.elim q
end L2
namespace L2
open PySem PySem.Spec PyProof.Rows
section
variable {X:Cx}{x:Str}{p pos:Pos}{e:Expr}{es:List Expr}{t:TA}{id T:String}{r:List V->Hp->VK->Prop}
def tCB (r:List V->Hp->VK->Prop)(t:TA):TE:=fun σ H Q=>t σ H fun vs H1=>r vs H1 Q
theorem aQ (hc:eO X (.builtin id) r)(hg:Gl X x)(hm:X.mg x=none)(hv:bootBuiltins x=some (.builtin id))(ha:PA X (e::es) t)(hn:x ≠ "__name__" := by decide)(hdb:(x==("__debug__" : Str))=false:=by decide)
  (he:starEach (e::es) X.env=(false,eval e X.env)::starEach es X.env:=by rfl) (hpl:(backTo pos (starEach es X.env)).any (·.1)=false:=by rfl):PE X (.Call (.Name x p) (e::es) [] pos) (tCB r t):=by
 intro pins s σ H Q I h
 refine wpAny_Call_Name_kw (qH I hg hm hv ?_ hn hdb)
 exact PyProof.Rows.callWith_builtin1 (thn (ha pos pins s σ H _ I h) fun us s1 ⟨vs,H1,I1,r1,q1⟩=>hc pins s1 σ H1 vs us Q I1 r1 q1) he hpl
theorem dR (hc:eO X (.type T) r)(hg:Gl X x)(hm:X.mg x=none)(hv:bootBuiltins x=some (.type T))(ha:PA X (e::es) t)(hn:x ≠ "__name__" := by decide)(hdb:(x==("__debug__" : Str))=false:=by decide)
  (he:starEach (e::es) X.env=(false,eval e X.env)::starEach es X.env:=by rfl) (hpl:(backTo pos (starEach es X.env)).any (·.1)=false:=by rfl):PE X (.Call (.Name x p) (e::es) [] pos) (tCB r t):=by
 intro pins s σ H Q I h
 refine wpAny_Call_Name_kw (qH I hg hm hv ?_ hn hdb)
 exact PyProof.Rows.callWith_type1 (thn (ha pos pins s σ H _ I h) fun us s1 ⟨vs,H1,I1,r1,q1⟩=>hc pins s1 σ H1 vs us Q I1 r1 q1) he hpl
end
end L2
namespace HT
open PySem PyProof.Rows
section
open PySem.SeqAt
open PySem.AutoSeq1 (wpAny_loadPart')
open PySem.MeetsSeq PySem.MeetsSeq2 PySem.MeetsSeq3
end
section
variable {prog:Program}{w:World}{A:Around}{E:Value->Shared->Prop}{s:Shared}
theorem Ic {t b:Addr}{vs ws:List Value}{Q:Value->Shared->Prop}(ht:IsTup s.heap t vs.toArray)(hb:IsTup s.heap b ws.toArray)(hv:vs≠[])
  (h1:ws=[]->Q (.ref t) s) (h2:ws≠[]->Q (.ref s.heap.objs.size) { s with heap:=s.heap.push { cls:=.type "tuple",data:=.seq (vs++ws).toArray } })
  (hsz:vs.length+ws.length<=sizeLine):wpAny (model prog w) A (binaryOp .Add (.ref t) (.ref b)) Q E s:=by
 obtain ⟨⟨cls,dd,data,sl⟩,ho,hc,n,hd⟩:=id ht
 obtain ⟨⟨cls2,dd2,data2,sl2⟩,ho2,hc2,n2,hd2⟩:=id hb
 simp only at hc hd hc2 hd2
 subst hc hd hc2 hd2
 have e:vs.toArray++ws.toArray=(vs++ws).toArray:=by simp
 by_cases hw:ws=[]
 ·exact concat_meets ⟨_,ho,rfl⟩ ⟨_,ho2,rfl⟩ noFill_tuple_add seq_tuple_add PySem.F.slot_tuple_add PySem.F.entry_tuple_add (PySem.F.args_tuple_add_2 _ _)
   (tuple_addW1 t b vs.toArray ws.toArray n n2 dd dd2 sl sl2 (by simpa using hv) (by simp [hw])) ⟨ho,ho2,h1 hw⟩
 ·refine concat_meets ⟨_,ho,rfl⟩ ⟨_,ho2,rfl⟩ noFill_tuple_add seq_tuple_add PySem.F.slot_tuple_add PySem.F.entry_tuple_add (PySem.F.args_tuple_add_2 _ _)
   (tuple_addW2 t b vs.toArray ws.toArray n n2 dd dd2 sl sl2 (by simpa using hv) (by simpa using hw) (by rw [List.size_toArray,List.size_toArray];exact hsz)) ⟨ho,ho2,?_⟩
  rw [e]
  exact h2 hw
def sIx (n d:Nat):Option Int->Nat
 | none=>d
 | some v=>if v<0 then (v+(n:Int)).toNat else min v.toNat n
theorem eC (n d:Nat):sIx n d none=d:=rfl
theorem dB (n d k:Nat):sIx n d (some (k:Int))=min k n:=by
 show (if (k:Int)<0 then ((k:Int)+(n:Int)).toNat else min (k:Int).toNat n)=min k n
 rw [if_neg (by omega),Int.toNat_natCast]
theorem uN (n d:Nat)(hd:d<=n)(o:Option Int):sIx n d o<=n:=by
 cases o with
 | none=>exact hd
 | some v =>
  show (if v<0 then (v+(n:Int)).toNat else min v.toNat n)<=n
  by_cases hv:v<0
  ·rw [if_pos hv];omega
  ·rw [if_neg hv];exact Nat.min_le_right _ _
end
end HT
namespace L2
open PySem PySem.Spec PyProof.Rows
abbrev TO:=St->Hp->(Option Int->Hp->Prop)->Prop
def PO (X:Cx)(e:Option Expr)(t:TO):Prop :=
 ∀ (pins:List (Addr×Obj)) (s:Shared) (σ:St) (H:Hp) (Q:Option Int->Hp->Prop),Inv X pins σ H s->t σ H Q ->
  wpAny (model X.prog X.w) X.A (evalPart e X.env) (fun u s'=>∃ o H',Inv X pins σ H' s'∧IsPart u o∧Q o H') X.xe s
def Ia:TO:=fun _ H Q=>Q none H
def Os (t:TE):TO:=fun σ H Q=>t σ H fun x H1=>∃ i,x = .int i∧Q (some i) H1
theorem yF {ns:List Int}:∀ {us:List Value},bR (ns.map V.int) us->IntsAre us ns:=by
 induction ns with
 | nil=>intro us r;rw [List.map_nil] at r;cases r;exact .nil
 | cons n ns ih =>
  intro us r
  rw [List.map_cons] at r
  cases r with
  | cons r1 r2 =>
   obtain ⟨t,e⟩:=r1
   subst e
   exact .cons n t (ih r2)
section
variable {X:Cx}{e:Expr}{te:TE}{lo hi:Option Expr}{tl th:TO}{pos p2:Pos}
theorem bN:PO X none Ia:=by
 intro pins s σ H Q I h
 rw [evalPart_none]
 exact wpAny_pure ⟨none,H,I,.none,h⟩
theorem bF (h:PE X e te):PO X (some e) (Os te):=by
 intro pins s σ H Q I hw
 rw [evalPart_some]
 refine thn (h pins s σ H _ I hw) fun u s1 ⟨x,H1,I1,r1,q1⟩=>?_
 obtain ⟨i,rfl,q⟩:=q1
 obtain ⟨t,rfl⟩:=r1
 exact ⟨some i,H1,I1,.int i t,q⟩
def SlR (X:Cx)(r:V->Option Int->Option Int->Hp->VK->Prop):Prop :=
 ∀ (pins:List (Addr×Obj)) (s:Shared) (σ:St) (H:Hp) (x:V) (v vl vu:Value) (lo hi:Option Int) (sl:Addr) (Q:VK),Inv X pins σ H s->bH x v->s.heap.IsSliceOf sl vl vu .none->IsPart vl lo->IsPart vu hi->r x lo hi H Q ->
  ∃ T id,typeLookup (.type T) "__getitem__" = pure (some (.builtin id))∧s.TypeIs v T∧wpAny (model X.prog X.w) X.A (getItem v (.ref sl)) (EP X pins σ Q) X.xe s
def tSl (r:V->Option Int->Option Int->Hp->VK->Prop)(te:TE)(tl th:TO):TE:=fun σ H Q=>te σ H fun x H1=>tl σ H1 fun l H2=>th σ H2 fun u H3=>r x l u H3 Q
theorem bD {r:V->Option Int->Option Int->Hp->VK->Prop}(hr:SlR X r)(he:PE X e te)(hl:PO X lo tl)(hu:PO X hi th):PE X (.Subscript e (.Slice lo hi none p2) pos) (tSl r te tl th):=by
 intro pins s σ H Q I h
 refine Subscript_ (thn (he pins s σ H _ I h) fun v s1 ⟨x,H1,I1,r1,q1⟩=>?_)
 refine wpAny_Slice (thn (hl pins s1 σ H1 _ I1 q1) fun vl s2 ⟨l,H2,I2,pl,q2⟩=>thn (hu pins s2 σ H2 _ I2 q2) fun vu s3 ⟨u,H3,I3,pu,q3⟩=>?_)
 rw [evalPart_none]
 refine wpAny_pure ?_
 have I4:Inv X pins σ H3 { s3 with heap:=s3.heap.push { cls:=.type "slice",data:=.fields #[vl,vu,.none] } }:=I3.kept (t':=s3.toks) fun b ob q=>Heap.get?_push_of_some _ q
 obtain ⟨T,id,hT,ht,hg⟩:=hr pins { s3 with heap:=s3.heap.push { cls:=.type "slice",data:=.fields #[vl,vu,.none] } } σ H3 x v vl vu l u s3.heap.objs.size Q I4 r1 (Heap.IsSliceOf.new ..) pl pu q3
 show wpAny (model X.prog X.w) X.A (subscriptTail e (.Slice lo hi none p2) v (.ref s3.heap.objs.size)) (EP X pins σ Q) X.xe { s3 with heap:=s3.heap.push { cls:=.type "slice",data:=.fields #[vl,vu,.none] } }
 exact tail_any (ops:=[.ref s3.heap.objs.size,v]) ht hT hg (by with_unfolding_all rfl)
def dJ (xs:List V)(lo hi:Option Int):List V:=(xs.drop (HT.sIx xs.length 0 lo)).take (HT.sIx xs.length xs.length hi-HT.sIx xs.length 0 lo)
theorem wQ (xs:List V)(lo hi:Option Int):(dJ xs lo hi).length<=xs.length:=by
 unfold dJ
 rw [List.length_take,List.length_drop]
 omega
def Pb (K:PySem.W.Frag):R2:=fun x y H Q=>∃ a b xs ys,x = .ref a∧y = .ref b∧SqT K H a xs∧SqT K H b ys∧xs≠[]∧xs.length+ys.length<=sizeLine ∧
 (ys=[]->Q (.ref a) H)∧(ys≠[]->∀ p,H p=none->Q (.ref p) (upd H p (.tup (xs++ys))))
theorem bR.nil_iff {xs:List V}{us:List Value}(r:bR xs us):us=[]↔xs=[]:=by
 cases r with
 | nil=>simp
 | cons _ _=>simp
theorem Jf:OpR X (binaryOp .Add) (Pb X.K):=by
 intro pins s σ H x y v u Q I rx ry h
 obtain ⟨a,b,xs,ys,rfl,rfl,ha,hb,hx,hz,q1,q2⟩:=h
 cases rx
 cases ry
 obtain ⟨its,r1,p1,_⟩:=I.tuple ha
 obtain ⟨its2,r2,p2,_⟩:=I.tuple hb
 refine HT.Ic p1 p2 (fun z=>hx (r1.nil_iff.mp z)) (fun z=>⟨.ref a,H,I,rfl,q1 (r2.nil_iff.mp z)⟩) (fun z=>?_) (by rw [<- r1.length,<- r2.length];exact hz)
 refine ⟨.ref s.heap.objs.size,_,I.laid (t':=s.toks) (o:=.tup (xs++ys)) (fun b ob q=>Heap.get?_push_of_some _ q) (Nat.le_refl _) ?_,rfl,q2 (fun w=>z (r2.nil_iff.mpr w)) _ (I.hok.fresh (Nat.le_refl _))⟩
 exact ⟨by rw [List.length_append];exact hz,_,r1.append r2,IsTup.new _ _⟩
end
end L2
namespace L2
open PySem PySem.Spec PyProof.Rows
def ixN (n:Nat)(i:Int):Option Nat:=if 0<=i then (if i<n then some i.toNat else none) else if -(n:Int)<=i then some (i+n).toNat else none
def atI {α:Type}(xs:List α)(i:Int):Option α:=(ixN xs.length i).bind fun j=>xs[j]?
theorem Jl {n:Nat}{i:Int}{j:Nat}(h:ixN n i=some j):seqIndex? i n=some j∧j<n∧-(n:Int)<=i∧i<n:=by
 unfold ixN at h
 by_cases h0:0<=i
 ·rw [if_pos h0] at h
  by_cases h1:i<n
  ·rw [if_pos h1] at h
   have e:i.toNat=j:=Option.some.inj h
   exact ⟨by rw [seqIndex_of h0 h1,e],by omega,by omega,h1⟩
  ·rw [if_neg h1] at h;cases h
 ·rw [if_neg h0] at h
  by_cases h1 : -(n:Int)<=i
  ·rw [if_pos h1] at h
   have e:(i+n).toNat=j:=Option.some.inj h
   exact ⟨by rw [seqIndex_neg (by omega) h1,e],by omega,h1,by omega⟩
  ·rw [if_neg h1] at h;cases h
theorem uE {α:Type}{xs:List α}{i:Int}{v:α}(h:atI xs i=some v):∃ j,seqIndex? i xs.length=some j∧xs[j]?=some v∧j<xs.length∧-(xs.length:Int)<=i∧i<xs.length:=by
 unfold atI at h
 cases e:ixN xs.length i with
 | none=>rw [e] at h;cases h
 | some j =>
  rw [e] at h
  obtain ⟨h1,h2,h3,h4⟩:=Jl e
  exact ⟨j,h1,h,h2,h3,h4⟩
theorem bS {α:Type}{xs:List α}{j:Nat}{v:α}(h:xs[j]?=some v):atI xs (j:Int)=some v:=by
 have hj:j<xs.length:=(List.getElem?_eq_some_iff.mp h).1
 have e:ixN xs.length (j:Int)=some j:=by
  unfold ixN
  rw [if_pos (by omega),if_pos (by omega)];simp
 unfold atI;rw [e];exact h
def Iy (b:Expr):Prop:=∀ o i,subscripted b false o i=operate [o,i] (getItem o i)
def IxR (X:Cx)(r:R2):Prop :=
 ∀ (value slice:Expr) (pins:List (Addr×Obj)) (s:Shared) (σ:St) (H:Hp) (x y:V) (v u:Value) (Q:VK),Inv X pins σ H s->bH x v->bH y u->r x y H Q ->
  subscripted slice false v u=operate [v,u] (getItem v u)->wpAny (model X.prog X.w) X.A (subscriptTail value slice v u) (EP X pins σ Q) X.xe s
def MtR (X:Cx)(id:String)(r:V->List V->Hp->VK->Prop):Prop :=
 ∀ (pins:List (Addr×Obj)) (s:Shared) (σ:St) (H:Hp) (x:V) (xs:List V) (v:Value) (us:List Value) (Q:VK),Inv X pins σ H s->bH x v->bR xs us->r x xs H Q ->
  wpAny (model X.prog X.w) X.A (call (.builtin id) (v::us)) (EP X pins σ Q) X.xe s
section
variable {X:Cx}{a b:Expr}{ta tb:TE}{pos:Pos}
theorem cO {r:R2}(hr:IxR X r)(ha:PE X a ta)(hb:PE X b tb)(hs:Iy b):PE X (.Subscript a b pos) (tOp r ta tb):=by
 intro pins s σ H Q I h
 exact Subscript_ (Kx ha hb I h fun v u s2 x y H2 I2 rx ry q=>hr a b pins s2 σ H2 x y v u Q I2 rx ry q (hs _ _))
def Oa (K:PySem.W.Frag):R2:=fun x y H Q=>∃ p xs i v,x = .ref p∧y = .int i∧SqL K H p xs∧atI xs i=some v∧Q v H
def Qf (K:PySem.W.Frag):R2:=fun x y H Q=>∃ p xs i v,x = .ref p∧y = .int i∧SqT K H p xs∧atI xs i=some v∧Q v H
def Qs:R2:=fun x y H Q=>∃ z i c,x = .str z∧y = .int i∧z.length<=sizeLine∧atI z.cps.toList i=some c∧Q (.str ⟨#[c]⟩) H
theorem cH:IxR X (Oa X.K):=by
 intro value slice pins s σ H x y v u Q I rx ry h hs
 obtain ⟨p,xs,i,z,rfl,rfl,hq,he,q⟩:=h
 cases rx
 obtain ⟨t,rfl⟩:=ry
 obtain ⟨its,r,pl,hz⟩:=I.list hq
 obtain ⟨j,h1,h2,h3,h4,h5⟩:=uE he
 obtain ⟨w,ew,rw'⟩:=r.get h2
 have hl:=r.length
 have hn:=qA
 have fin:EP X pins σ Q w s:=⟨z,H,I,rw',q⟩
 by_cases h0:0<=i
 ·have hj:i.toNat=j:=by
   rw [seqIndex_of h0 h5] at h1
   exact Option.some.inj h1
  exact item_listR pl.isList h0 (by omega) (by rw [hj];simpa using ew) fin hs
 ·have hj:(i+(its.toArray.size:Int)).toNat=j:=by
   rw [seqIndex_neg (by omega) h4] at h1
   rw [List.size_toArray,<- hl]
   exact Option.some.inj h1
  exact subscriptTail_builtinR (x:=w) pl.isList.typeIs slot_list_getitem.lookup
   (wpAny_getItem_list_neg (Q:=fun r s'=>r=w∧EP X pins σ Q r s') pl.isList (by omega) (by rw [List.size_toArray] <;> omega) (by omega) (by rw [hj];simpa using ew) ⟨rfl,fin⟩) hs
theorem Lz:IxR X (Qf X.K):=by
 intro value slice pins s σ H x y v u Q I rx ry h hs
 obtain ⟨p,xs,i,z,rfl,rfl,hq,he,q⟩:=h
 cases rx
 obtain ⟨t,rfl⟩:=ry
 obtain ⟨its,r,pl,hz⟩:=I.tuple hq
 obtain ⟨j,h1,h2,h3,h4,h5⟩:=uE he
 obtain ⟨w,ew,rw'⟩:=r.get h2
 have hl:=r.length
 have hn:=qA
 have fin:EP X pins σ Q w s:=⟨z,H,I,rw',q⟩
 exact subscriptTail_builtinR (x:=w) pl.typeIs slot_tuple_getitem.lookup
  (getItem_tuple (j:=j) (Q:=fun r s'=>r=w∧EP X pins σ Q r s') pl (by omega) (by omega) (by rw [List.size_toArray,<- hl];exact h1) (by simpa using ew) ⟨rfl,fin⟩) hs
theorem Lb:IxR X Qs:=by
 intro value slice pins s σ H x y v u Q I rx ry h hs
 obtain ⟨z,i,c,rfl,rfl,hz,he,q⟩:=h
 obtain ⟨t,rfl⟩:=rx
 obtain ⟨t',rfl⟩:=ry
 obtain ⟨j,h1,h2,h3,h4,h5⟩:=uE he
 have hl:z.cps.toList.length=z.length:=by simp [Str.length]
 rw [hl] at h1 h4 h5
 have hn:=qA
 exact tail_any (typeIs_str s z t) slot_str_getitem.lookup (getItem_str (c:=c) (by
  have e1:decide (i < -(2 ^ 63:Int))=false:=decide_eq_false (by omega)
  have e2:decide (i≥2 ^ 63)=false:=decide_eq_false (by omega)
  rw [e1,e2,Bool.or_false]) (by rw [h1];simpa using h2) ⟨.str ⟨#[c]⟩,H,I.tok _,⟨_,rfl⟩,q⟩) hs
theorem vE (lo hi:Option Int)(n:Nat):(sliceBounds lo hi none n).1=((HT.sIx n 0 lo:Nat):Int)∧(sliceBounds lo hi none n).2.1=((HT.sIx n n hi:Nat):Int)∧(sliceBounds lo hi none n).2.2=1:=by
 refine ⟨?_,?_,rfl⟩
 ·cases lo with
  | none=>simp [sliceBounds,HT.sIx]
  | some i =>
   simp only [sliceBounds,HT.sIx,Option.getD_none,show (1:Int)>0 by decide,if_true]
   by_cases h:i<0
   ·simp only [h,if_true] <;> omega
   ·simp only [h,if_false] <;> omega
 ·cases hi with
  | none=>simp [sliceBounds,HT.sIx]
  | some i =>
   simp only [sliceBounds,HT.sIx,Option.getD_none,show (1:Int)>0 by decide,if_true]
   by_cases h:i<0
   ·simp only [h,if_true] <;> omega
   ·simp only [h,if_false] <;> omega
theorem rL (its:List Value)(lo hi:Option Int):slicePick its.toArray lo hi none=((its.drop (HT.sIx its.length 0 lo)).take (HT.sIx its.length its.length hi-HT.sIx its.length 0 lo)).toArray:=by
 obtain ⟨h1,h2,h3⟩:=vE lo hi its.toArray.size
 unfold slicePick
 rw [h1,h2,h3]
 simp only [sliceRange_one,pick_run,List.size_toArray] <;> rfl
def Ra (K:PySem.W.Frag):V->Option Int->Option Int->Hp->VK->Prop:=fun x lo hi H Q=>∃ a xs,x = .ref a∧SqL K H a xs∧∀ p,H p=none->Q (.ref p) (upd H p (.lst (dJ xs lo hi)))
theorem dF:SlR X (Ra X.K):=by
 intro pins s σ H x v vl vu lo hi sl Q I rx hs pl pu h
 obtain ⟨a,xs,rfl,hx,q⟩:=h
 cases rx
 obtain ⟨its,r,ht,hz⟩:=I.list hx
 have hlen:=r.length
 refine ⟨"list",_,slot_list_getitem.lookup,ht.isList.typeIs,?_⟩
 refine wpAny_getItem_list_slice ht.isList hs pl pu .none (by simp) ?_ (by rw [List.size_toArray] <;> omega)
 rw [rL,<- hlen]
 refine ⟨.ref s.heap.objs.size,_,I.laid (t':=s.toks) (o:=.lst (dJ xs lo hi)) (fun b ob q=>Heap.get?_push_of_some _ q) (Nat.le_refl _) ?_,rfl,q _ (I.hok.fresh (Nat.le_refl _))⟩
 exact ⟨Nat.le_trans (wQ xs lo hi) hz,_,0,(r.drop (HT.sIx xs.length 0 lo)).take (HT.sIx xs.length xs.length hi-HT.sIx xs.length 0 lo),Heap.get?_push_size _ rfl⟩
def eS:V->Bool
 | .non=>true
 | .bl _=>true
 | .int _=>true
 | .str _=>true
 | _=>false
def eqV:V->V->Bool
 | .non,.non=>true
 | .bl a,.bl b=>a==b
 | .bl a,.int b=>(if a then 1 else 0)==b
 | .int a,.bl b=>a==(if b then 1 else 0)
 | .int a,.int b=>a==b
 | .str a,.str b=>a==b
 | _,_=>false
theorem Fl {A:Around}{s:Shared}{y x:V}{u v:Value}(ry:bH y u)(rx:bH x v)(fy:eS y=true)(fx:eS x=true):SeqAt.EqAt A s u v (eqV y x):=by
 cases y with
 | non =>
  cases ry
  cases x with
  | non=>cases rx;exact SeqAt.EqAt.same _
  | bl b=>cases rx;exact SeqAt.EqAt.none_bool b
  | int b=>obtain ⟨t,rfl⟩:=rx;exact SeqAt.EqAt.none_int b t
  | str b=>obtain ⟨t,rfl⟩:=rx;exact SeqAt.EqAt.none_str b t
  | _=>exact absurd (show false=true from fx) Bool.false_ne_true
 | bl a =>
  cases ry
  cases x with
  | non=>cases rx;exact SeqAt.EqAt.bool_none a
  | bl b=>cases rx;exact SeqAt.EqAt.bool_bool a b
  | int b=>obtain ⟨t,rfl⟩:=rx;exact SeqAt.EqAt.bool_int a b t
  | str b=>obtain ⟨t,rfl⟩:=rx;exact SeqAt.EqAt.bool_str a b t
  | _=>exact absurd (show false=true from fx) Bool.false_ne_true
 | int a =>
  obtain ⟨t',rfl⟩:=ry
  cases x with
  | non=>cases rx;exact SeqAt.EqAt.int_none a t'
  | bl b=>cases rx;exact SeqAt.EqAt.int_bool a t' b
  | int b=>obtain ⟨t,rfl⟩:=rx;exact SeqAt.EqAt.int_int a t' b t
  | str b=>obtain ⟨t,rfl⟩:=rx;exact SeqAt.EqAt.int_str a t' b t
  | _=>exact absurd (show false=true from fx) Bool.false_ne_true
 | str a =>
  obtain ⟨t',rfl⟩:=ry
  cases x with
  | non=>cases rx;exact SeqAt.EqAt.str_none a t'
  | bl b=>cases rx;exact SeqAt.EqAt.str_bool a t' b
  | int b=>obtain ⟨t,rfl⟩:=rx;exact SeqAt.EqAt.str_int a t' b t
  | str b=>obtain ⟨t,rfl⟩:=rx;exact SeqAt.EqAt.str_str a t' b t
  | _=>exact absurd (show false=true from fx) Bool.false_ne_true
 | _=>exact absurd (show false=true from fy) Bool.false_ne_true
def eqU (x:V)(u:Value):Bool:=match u with
 | .none=>eqV .non x
 | .bool b=>eqV (.bl b) x
 | .int i _=>eqV (.int i) x
 | .str z _=>eqV (.str z) x
 | _=>false
theorem tM {x y:V}{u:Value}(r:bH y u)(f:eS y=true):eqU x u=eqV y x:=by
 cases y with
 | non=>cases r;rfl
 | bl b=>cases r;rfl
 | int i=>obtain ⟨t,rfl⟩:=r;rfl
 | str z=>obtain ⟨t,rfl⟩:=r;rfl
 | _=>exact absurd (show false=true from f) Bool.false_ne_true
theorem mC {x:V}:∀ {xs:List V} {us:List Value},bR xs us->xs.all eS=true->us.any (eqU x)=xs.any fun y=>eqV y x
 | _,_,.nil,_=>rfl
 | y::xs,u::us,.cons r t,f=>by
  rw [List.all_cons,Bool.and_eq_true] at f
  rw [List.any_cons,List.any_cons,tM r f.1,mC t f.2]
theorem gB {A:Around}{s:Shared}{x:V}{v:Value}(rx:bH x v)(fx:eS x=true):∀ {xs:List V} {us:List Value},bR xs us->xs.all eS=true->∀ u∈us,SeqAt.EqAt A s u v (eqU x u)
 | _,_,.nil,_=>fun u hu=>by cases hu
 | y::xs,u::us,.cons r t,f=>fun u' hu=>by
  rw [List.all_cons,Bool.and_eq_true] at f
  rcases List.mem_cons.mp hu with rfl | hu
  ·rw [tM r f.1];exact Fl r rx f.1 fx
  ·exact gB rx fx t f.2 u' hu
def inV (x:V)(xs:List V):Bool:=xs.any fun y=>eqV y x
def rIn (K:PySem.W.Frag)(neg:Bool):R2:=fun x y H Q=>∃ p xs,y = .ref p∧(SqL K H p xs∨SqT K H p xs)∧eS x=true∧xs.all eS=true∧Q (.bl (if neg then !inV x xs else inV x xs)) H
theorem Cq:OpR X (compareOp .In) (rIn X.K false):=by
 intro pins s σ H x y v u Q I rx ry h
 obtain ⟨p,xs,rfl,hq,fx,fs,q⟩:=h
 cases ry
 rcases hq with hq | hq
 ·obtain ⟨its,r,pl,hz⟩:=I.list hq
  refine SeqAt.in_listAt (eqU x) pl.isList (fun w hw=>gB rx fx r fs w (by simpa using hw)) ⟨.bl _,H,I,rfl,?_⟩
  rw [show its.toArray.any (eqU x)=its.any (eqU x) by simp,mC r fs]
  exact q
 ·obtain ⟨its,r,pl,hz⟩:=I.tuple hq
  refine SeqAt.in_tupleAt (eqU x) pl (fun w hw=>gB rx fx r fs w (by simpa using hw)) ⟨.bl _,H,I,rfl,?_⟩
  rw [show its.toArray.any (eqU x)=its.any (eqU x) by simp,mC r fs]
  exact q
theorem iQ:OpR X (compareOp .NotIn) (rIn X.K true):=by
 intro pins s σ H x y v u Q I rx ry h
 obtain ⟨p,xs,rfl,hq,fx,fs,q⟩:=h
 cases ry
 rcases hq with hq | hq
 ·obtain ⟨its,r,pl,hz⟩:=I.list hq
  refine SeqAt.notIn_listAt (eqU x) pl.isList (fun w hw=>gB rx fx r fs w (by simpa using hw)) ⟨.bl _,H,I,rfl,?_⟩
  rw [show its.toArray.any (eqU x)=its.any (eqU x) by simp,mC r fs]
  exact q
 ·obtain ⟨its,r,pl,hz⟩:=I.tuple hq
  refine SeqAt.notIn_tupleAt (eqU x) pl (fun w hw=>gB rx fx r fs w (by simpa using hw)) ⟨.bl _,H,I,rfl,?_⟩
  rw [show its.toArray.any (eqU x)=its.any (eqU x) by simp,mC r fs]
  exact q
theorem aV:eO X (.builtin "len") (fun xs H Q=>∃ p ys,xs=[.ref p]∧(SqL X.K H p ys∨SqT X.K H p ys)∧Q (.int ys.length) H):=by
 intro pins s σ H xs us Q I r h
 obtain ⟨p,ys,rfl,hq,q⟩:=h
 obtain ⟨u,rfl,rx⟩:=fW r
 cases rx
 have hn:=qA
 rcases hq with hq | hq
 ·obtain ⟨its,r',pl,hz⟩:=I.list hq
  have hlen:=r'.length
  exact Calls.call_len_list pl.isList (by simp only [List.size_toArray] <;> omega) ⟨.int ys.length,H,I.tok _,⟨s.toks+1,by rw [List.size_toArray,hlen]⟩,q⟩
 ·obtain ⟨its,r',pl,hz⟩:=I.tuple hq
  have hlen:=r'.length
  exact len_tuple pl (by simp only [List.size_toArray] <;> omega) ⟨.int ys.length,H,I.tok _,⟨s.toks+1,by rw [List.size_toArray,hlen]⟩,q⟩
theorem uH:eO X (.builtin "len") (fun xs H Q=>∃ z,xs=[.str z]∧z.length<=sizeLine∧Q (.int z.length) H):=by
 intro pins s σ H xs us Q I r h
 obtain ⟨z,rfl,hz,q⟩:=h
 obtain ⟨u,rfl,t,rfl⟩:=fW r
 have hn:=qA
 exact len_str (by omega) ⟨.int z.length,H,I.tok _,⟨_,rfl⟩,q⟩
theorem uJ:eO X (.type "list") (fun xs H Q=>∃ p ys,xs=[.ref p]∧(SqL X.K H p ys∨SqT X.K H p ys)∧∀ l,H l=none->Q (.ref l) (upd H l (.lst ys))):=by
 intro pins s σ H xs us Q I r h
 obtain ⟨p,ys,rfl,hq,q⟩:=h
 obtain ⟨u,rfl,rx⟩:=fW r
 cases rx
 have fin:∀ (its:List Value),bR ys its->ys.length<=sizeLine->∀ (h':Heap) (c':Nat),(∀ b o',s.heap.get? b=some o'->h'.get? b=some o') ->
   h'.get? s.heap.objs.size=some { cls:=.type "list",dict:=none,data:=.seq its.toArray c',slots:=#[] }->EP X pins σ Q (.ref s.heap.objs.size) { s with heap:=h' }:=fun its r' hz h' c' kp e =>
  ⟨.ref s.heap.objs.size,_,I.laid (t':=s.toks) kp (Nat.le_refl _) (show cY X.prog X.w _ h' _ (.lst ys) from ⟨hz,its,c',r',e⟩),rfl,q _ (I.hok.fresh (Nat.le_refl _))⟩
 rcases hq with hq | hq
 ·obtain ⟨its,r',pl,hz⟩:=I.list hq
  have hlen:=r'.length
  obtain ⟨o,ho,hc,n,hd⟩:=pl.isList
  exact call_list_seq p (.inl rfl) ho hc hd (fun h' c' kp e=>fin its r' hz h' c' kp e) (by simp only [List.size_toArray] <;> omega)
 ·obtain ⟨its,r',pl,hz⟩:=I.tuple hq
  have hlen:=r'.length
  obtain ⟨o,ho,hc,n,hd⟩:=pl
  exact call_list_seq p (.inr rfl) ho hc hd (fun h' c' kp e=>fin its r' hz h' c' kp e) (by simp only [List.size_toArray] <;> omega)
theorem lA:eO X (.type "tuple") (fun xs H Q=>∃ p ys,xs=[.ref p]∧((SqL X.K H p ys∧∀ l,H l=none->Q (.ref l) (upd H l (.tup ys)))∨(SqT X.K H p ys∧Q (.ref p) H))):=by
 intro pins s σ H xs us Q I r h
 obtain ⟨p,ys,rfl,h⟩:=h
 obtain ⟨u,rfl,rx⟩:=fW r
 cases rx
 rcases h with ⟨hq,q⟩ | ⟨hq,q⟩
 ·obtain ⟨its,r',pl,hz⟩:=I.list hq
  have hlen:=r'.length
  refine call_tuple_list pl.isList (fun h' kp=>?_) (by simp only [List.size_toArray] <;> omega)
  have I1:Inv X pins σ H { s with heap:=h' }:=I.kept (t':=s.toks) kp
  have I2:Inv X pins σ (upd H h'.objs.size (.tup ys)) { s with heap:=h'.push { cls:=.type "tuple",data:=.seq its.toArray } } :=
   I1.laid (t':=s.toks) (fun b o e=>Heap.get?_push_of_some _ e) (Nat.le_refl _) (show cY X.prog X.w _ _ _ (.tup ys) from ⟨hz,its,r',IsTup.new _ _⟩)
  exact ⟨.ref h'.objs.size,_,I2,rfl,q _ (I1.hok.fresh (Nat.le_refl _))⟩
 ·obtain ⟨its,r',pl,hz⟩:=I.tuple hq
  exact call_tuple_same pl ⟨.ref p,H,I,rfl,q⟩
def tyV (K:PySem.W.Frag)(T:String)(x:V)(H:Hp):Prop:=match x with
 | .str _=>T = "str"
 | .int _=>T = "int"
 | .ref p=>(T = "list" ∧ ∃ xs,SqL K H p xs)∨(T = "tuple" ∧ ∃ o,K.lookup p=some o∧o.cls = .type "tuple" ∧ o.dict=none) ∨
  (T = "dict" ∧ ((∃ kvs,H p=some (.dK kvs))∨∃ kvs,H p=some (.dT kvs)))∨(T = "set" ∧ ∃ S n,H p=some (.set S n))
 | _=>False
theorem Gc {pins:List (Addr×Obj)}{σ:St}{H:Hp}{s:Shared}{T:String}{x:V}{v:Value}(I:Inv X pins σ H s)(r:bH x v)(ty:tyV X.K T x H) :
  s.TypeIs v T∧∀ a,v = .ref a->∃ ob,s.heap.get? a=some ob∧ob.dict=none:=by
 cases x with
 | str z =>
  obtain ⟨t,rfl⟩:=r
  cases (show T = "str" from ty)
  exact ⟨typeIs_str s z t,fun _ e=>nomatch e⟩
 | int i =>
  obtain ⟨t,rfl⟩:=r
  cases (show T = "int" from ty)
  exact ⟨typeIs_int s i t,fun _ e=>nomatch e⟩
 | ref p =>
  cases r
  rcases ty with ⟨rfl,xs,hq⟩ | ⟨rfl,o,hk,hc,hd⟩ | ⟨rfl,hk⟩ | ⟨rfl,S,n,hk⟩
  ·obtain ⟨its,_,pl,_⟩:=I.list hq
   refine ⟨pl.isList.typeIs,fun a e=>?_⟩
   cases e
   obtain ⟨o,n,e,c,hd,_⟩:=pl
   exact ⟨o,e,hd⟩
  ·refine ⟨⟨o,I.kIn p o hk,hc⟩,fun a e=>?_⟩
   cases e
   exact ⟨o,I.kIn _ o hk,hd⟩
  ·have z:∃ o,s.heap.get? p=some o∧o.ExactDict:=by
    rcases hk with ⟨kvs,hk⟩ | ⟨kvs,hk⟩
    ·obtain ⟨_,_,_,_,o,_,_,e,ex,_⟩:=I.hok p _ hk
     exact ⟨o,e,ex⟩
    ·obtain ⟨_,_,_,_,o,_,_,e,ex,_⟩:=I.hok p _ hk
     exact ⟨o,e,ex⟩
   obtain ⟨o,e,ex⟩:=z
   refine ⟨⟨o,e,ex.1⟩,fun a e2=>?_⟩
   cases e2
   exact ⟨o,e,ex.2.1⟩
  ·obtain ⟨o,_,_,_,e,ex,_⟩:=I.hok p _ hk
   refine ⟨⟨o,e,ex.1⟩,fun a e2=>?_⟩
   cases e2
   exact ⟨o,e,ex.2.1⟩
 | _=>exact False.elim ty
def Qx (K:PySem.W.Frag)(T:String)(r:V->List V->Hp->VK->Prop)(to:TE):TE:=fun σ H Q=>to σ H fun x H1=>tyV K T x H1∧r x [] H1 Q
def tBM (K:PySem.W.Frag)(T:String)(r:V->List V->Hp->VK->Prop)(to:TE)(t:TA):TE:=fun σ H Q=>to σ H fun x H1=>tyV K T x H1∧t σ H1 fun xs H2=>r x xs H2 Q
variable {o e:Expr}{es:List Expr}{to:TE}{t:TA}{name:Str}{apos cpos:Pos}{T id:String}{r:V->List V->Hp->VK->Prop}
theorem Nh (pa:PlainAttrs T)(slot:Slot T name id)(hty:typeOf (.builtin id)=pure (.type "method_descriptor"))(hm:MtR X id r)(ho:PE X o to)
  (hbase:attributeBase o name X.env (eval o X.env)=eval o X.env:=by rfl) (hline:(apos.endLine==cpos.line)=true:=by rfl):PE X (.Call (.Attribute o name apos) [] [] cpos) (Qx X.K T r to):=by
 intro pins s σ H Q I h
 refine wpAny_Call_method0_late hbase hline (thn (ho pins s σ H _ I h) fun v s1 ⟨x,H1,I1,r1,ty,q1⟩=>?_)
 obtain ⟨h1,h2⟩:=Gc I1 r1 ty
 exact ⟨T,id,pa,slot,hty,h1,h2,Calls.callWith_builtin rfl (PySem.evalArgs_none (hm pins s1 σ H1 x [] v [] Q I1 r1 .nil q1))⟩
theorem kB (pa:PlainAttrs T)(slot:Slot T name id)(hty:typeOf (.builtin id)=pure (.type "method_descriptor"))(hm:MtR X id r)(ho:PE X o to)(ha:PA X (e::es) t)
  (hbase:attributeBase o name X.env (eval o X.env)=eval o X.env:=by rfl)
  (hfew:((backTo cpos (starEach (e::es) X.env)).all (fun x=>!x.1)&&(backToKw cpos (keywordEach [] X.env)).all (fun x=>x.1.isSome)
   && decide ((e::es).length+([]:List Keyword).length+(if ([]:List Keyword).isEmpty then 0 else 1)<30))=true:=by rfl)
  (hline:(apos.endLine==cpos.line)=true:=by rfl) (hs:starEach (e::es) X.env=(false,eval e X.env)::starEach es X.env:=by rfl) (hplain:(backTo cpos (starEach es X.env)).any (·.1)=false:=by rfl) :
  PE X (.Call (.Attribute o name apos) (e::es) [] cpos) (tBM X.K T r to t):=by
 intro pins s σ H Q I h
 refine wpAny_Call_method_late hbase hfew hline rfl (thn (ho pins s σ H _ I h) fun v s1 ⟨x,H1,I1,r1,ty,q1⟩=>?_)
 obtain ⟨h1,h2⟩:=Gc I1 r1 ty
 refine ⟨T,id,pa,slot,hty,h1,h2,?_⟩
 have hA:=ha cpos pins s1 σ H1 _ I1 q1
 rw [hs] at hA ⊢
 refine Calls.callWith_builtin (by show (false||(backTo cpos (starEach es X.env)).any (·.1))=false;rw [hplain] <;> rfl) (Calls.evalArgs_plain ?_)
 exact thn hA fun us s2 ⟨vs,H2,I2,r2,q2⟩=>hm pins s2 σ H2 x vs v us Q I2 r1 r2 q2
end
end L2
namespace L2
open PySem PySem.Spec PyProof.Rows
def MtM (X:Cx)(id:String)(r:V->List V->Hp->VK->Prop):Prop :=
 ∀ (pins:List (Addr×Obj)) (s:Shared) (σ:St) (H:Hp) (x:V) (xs:List V) (v:Value) (us:List Value) (Q:VK),Inv X pins σ H s->bH x v->bR xs us->r x xs H Q ->
  wpAny (model X.prog X.w) X.A (call (.builtin id) (v::us)) (EP X pins σ Q) X.xe s
theorem bR.one:∀ {x:V} {us:List Value},bR [x] us->∃ u,us=[u]∧bH x u
 | _,_,.cons r .nil=>⟨_,rfl,r⟩
theorem bR.zero:∀ {us:List Value},bR [] us->us=[]
 | _,.nil=>rfl
theorem bR.dropLast {xs:List V}{us:List Value}(h:bR xs us):bR xs.dropLast us.dropLast:=by
 induction h with
 | nil=>exact .nil
 | cons r t ih =>
  cases t with
  | nil=>exact .nil
  | cons q t'=>exact .cons r ih
theorem xX {α:Type}(l:List α):l.eraseIdx (l.length-1)=l.dropLast:=by
 induction l with
 | nil=>rfl
 | cons a r ih =>
  cases r with
  | nil=>rfl
  | cons b r =>
   have e:(a::b::r).length-1=((b::r).length-1)+1:=by
    have h1:(a::b::r).length=r.length+2:=rfl
    have h2:(b::r).length=r.length+1:=rfl
    omega
   rw [e,List.eraseIdx_cons_succ,ih]
   all_goals rfl
section
variable {X:Cx}{pins:List (Addr×Obj)}{σ:St}{H:Hp}{s:Shared}{l b:Addr}{xs ys zs:List V}
theorem Inv.lset {its its':List Value}{n:Nat}{f:Array Value->Array Value}{t':Nat}(I:Inv X pins σ H s)(hH:H l=some (.lst xs))
  (e:s.heap.get? l=some { cls:=.type "list",data:=.seq its.toArray n }) (hf:f its.toArray=its'.toArray) (hv:bR ys its') (hz:ys.length<=sizeLine) :
  Inv X pins σ (upd H l (.lst ys)) { s with heap:=s.heap.update l (Obj.mapSeq f),toks:=t' }:=by
 have q:=PySem.IsL.update e f
 rw [hf] at q
 refine I.write (x:=l) (e:=l) (by rw [hH];exact trivial) (.inl rfl) (fun b' u hb hu=>(Heap.get?_update_other s.heap (Obj.mapSeq f) (Ne.symm hb)).trans hu) ⟨_,q⟩ ?_
 exact ⟨hz,its',_,hv,q⟩
theorem Inv.lnew {its:List Value}{t':Nat}(I:Inv X pins σ H s)(hv:bR ys its)(hz:ys.length<=sizeLine) :
  Inv X pins σ (upd H s.heap.objs.size (.lst ys)) { s with heap:=s.heap.push { cls:=.type "list",data:=.seq its.toArray },toks:=t' } :=
 I.laid (fun _ _ q=>Heap.get?_push_of_some _ q) (Nat.le_refl _) ⟨hz,its,0,hv,Heap.get?_push_size _ rfl⟩
theorem Inv.fresh (I:Inv X pins σ H s):H s.heap.objs.size=none:=I.hok.fresh (Nat.le_refl _)
theorem Inv.lstM (I:Inv X pins σ H s)(hH:H l=some (.lst xs)):xs.length<=sizeLine∧∃ (its:List Value) (n:Nat),bR xs its∧xs.length=its.length∧s.heap.get? l=some { cls:=.type "list",data:=.seq its.toArray n }:=by
 obtain ⟨z,its,n,r,e⟩:=I.hok l _ hH
 exact ⟨z,its,n,r,r.length,e⟩
theorem Hf {n:Nat}(h:n<=sizeLine):Builtin.List.listTooLong n=false:=by
 unfold Builtin.List.listTooLong
 exact decide_eq_false (by omega)
end
section
variable {X:Cx}
def Jw:V->List V->Hp->VK->Prop:=fun x vs H Q=>∃ l xs y,x = .ref l∧vs=[y]∧H l=some (.lst xs)∧xs.length<sizeLine∧Q .non (upd H l (.lst (xs++[y])))
theorem eM:MtM X "list.append" Jw:=by
 intro pins s σ H x vs v us Q I rx rv h
 obtain ⟨l,xs,y,rfl,rfl,hH,hz,q⟩:=h
 cases rx
 obtain ⟨u,rfl,ru⟩:=rv.one
 obtain ⟨z,its,n,r,hl,e⟩:=I.lstM hH
 refine call_meets F.slot_list_append ⟨_,e,rfl⟩ F.entry_list_append (F.args_list_append_2 _ _) (PySem.list_append l its.toArray n u (by rw [List.size_toArray];omega)) ⟨e,?_⟩
 refine ⟨.non,_,I.lset (its':=its++[u]) hH e (by simp) (r.append (.cons ru .nil)) ?_,rfl,q⟩
 rw [List.length_append,List.length_singleton]
 omega
def Jo:V->List V->Hp->VK->Prop:=fun x vs H Q=>∃ l b xs zs,x = .ref l∧vs=[.ref b]∧H l=some (.lst xs)∧H b=some (.lst zs)∧xs.length+zs.length<=sizeLine∧Q .non (upd H l (.lst (xs++zs)))
theorem kO:MtM X "list.extend" Jo:=by
 intro pins s σ H x vs v us Q I rx rv h
 obtain ⟨l,b,xs,zs,rfl,rfl,hH,hB,hz,q⟩:=h
 cases rx
 obtain ⟨u,rfl,ru⟩:=rv.one
 cases ru
 obtain ⟨z,its,n,r,hl,e⟩:=I.lstM hH
 obtain ⟨z2,its2,n2,r2,hl2,e2⟩:=I.lstM hB
 have hsz:its.toArray.size+its2.toArray.size<=sizeLine:=by rw [List.size_toArray,List.size_toArray];omega
 have hlong:¬ (!its.toArray.isEmpty&&Builtin.List.listTooLong (its.toArray.size+its2.toArray.size))=true:=by
  rw [Hf hsz,Bool.and_false]
  exact Bool.false_ne_true
 refine call_meets F.slot_list_extend ⟨_,e,rfl⟩ F.entry_list_extend (F.args_list_extend_2 _ _)
  (AutoSeq1.list_extend_list_list_0 l its.toArray n b its2.toArray n2 hlong (by rw [List.size_toArray];omega) (by omega)) ⟨e,e2,?_⟩
 refine ⟨.non,_,I.lset (its':=its++its2) hH e (by simp) (r.append r2) ?_,rfl,q⟩
 rw [List.length_append]
 omega
def Qp:V->List V->Hp->VK->Prop:=fun x vs H Q=>∃ l xs y,x = .ref l∧vs=[]∧H l=some (.lst xs)∧xs[xs.length-1]?=some y∧Q y (upd H l (.lst xs.dropLast))
theorem Ni:MtM X "list.pop" Qp:=by
 intro pins s σ H x vs v us Q I rx rv h
 obtain ⟨l,xs,y,rfl,rfl,hH,hy,q⟩:=h
 cases rx
 have hus:=rv.zero
 subst hus
 obtain ⟨z,its,n,r,hl,e⟩:=I.lstM hH
 obtain ⟨u,hu,ru⟩:=r.get hy
 have hy':its.toArray[its.toArray.size-1]?=some u:=by
  show its.toArray[its.length-1]?=some u
  rw [<- Array.getElem?_toList,<- hl]
  exact hu
 refine call_meets F.slot_list_pop ⟨_,e,rfl⟩ F.entry_list_pop (F.args_list_pop_1 _) (MeetsSeq.list_pop_last l its.toArray n u hy' (by rw [List.size_toArray];omega)) ⟨e,?_⟩
 refine ⟨y,_,I.lset (its':=its.dropLast) hH e ?_ r.dropLast ?_,ru,q⟩
 ·show its.toArray.eraseIdxIfInBounds (its.toArray.size-1)=its.dropLast.toArray
  rw [List.size_toArray,List.eraseIdxIfInBounds_toArray,xX]
 ·rw [List.length_dropLast]
  omega
end
section
variable {prog:Program}{w:World}{A:Around}{E:Value->Shared->Prop}{s:Shared}
end
section
variable {X:Cx}
end
end L2
namespace Att
open PySem PySem.W PySem.Calls PyProof.Rows
theorem oJ {P:Params}{h:Heap}:∀ (ns:List Int) (vs:List Value),WellAll P h vs (ns.map WData.int)->IntsAre vs ns:=by
 intro ns
 induction ns with
 | nil =>
  intro vs w
  rw [List.map_nil] at w
  cases w
  exact .nil
 | cons n ns ih =>
  intro vs w
  rw [List.map_cons] at w
  cases w with
  | cons a b =>
   cases a
   exact .cons _ _ (ih _ b)
theorem Cp {l:OpenLaw}{n:Nat}(hn:l.most=some n){P:Params}{h:Heap}{args:List WData}{vals:List Value}
  (hpre:l.row.toRowW.claim.pre args=true) (hwl:WellAll P h vals args) :
  ∃ a vs ns,vals=[Value.ref a]∧args=[WData.list (ns.map WData.int)]∧h.get? a=some { cls:=.type "list",data:=.seq vs.toArray }∧IntsAre vs ns∧ns.length<=n:=by
 have hsh:WShape.hasAll [] args [.list .int]=true:=(pre_splitW hpre).1
 have hc:l.pre.holds [] { args:=args }=true:=(pre_splitW hpre).2
 obtain ⟨d,r,rfl,h1,h2⟩:=hasAllW_cons hsh
 obtain rfl:=hasAllW_nil h2
 obtain ⟨xs,rfl,h3⟩:=hasW_list h1
 obtain ⟨ns,rfl⟩:=items_int h3
 have hlen:ns.length<=n:=by
  unfold OpenLaw.pre at hc
  have h4:(WTm.not (.lt (.lit (.int (n:Int))) (.len (.arg 0)))).holds [] { args:=[.list (ns.map .int)] }=true:=by
   have h4:=(holds_andW hc).1
   rw [hn] at h4
   exact h4
  have h5:=condW_of h4 (w_not (w_lt w_lit (w_len_list (w_arg rfl))))
  rw [List.length_map] at h5
  refine Nat.le_of_not_lt fun q=>?_
  have q':(n:Int)<((ns.length:Nat):Int):=by omega
  first
   | (rw [decide_eq_true q'] at h5;exact absurd h5 (by decide))
   | (simp at h5;omega)
 cases hwl with
 | cons w1 w2 =>
  cases w2
  cases w1 with
  | list ho hall=>exact ⟨_,_,ns,rfl,rfl,ho,oJ ns _ hall,hlen⟩
theorem Cb (l:OpenLaw)(args:List WData):l.row.toRowW.claim.post args (.bool true) args=true :=
 postW_of (r:=l.row.toRowW) (X:=(true==true))
  (show WShape.has [] (.bool true) .bool=true by first | rfl | decide | simp [WShape.has,WShape.arms,WShape.armsAll])
  (show (WTm.eq .res (.lit (.bool true))).value [] { args:=args,res:=some (.bool true),after:=args }=some (.bool (true==true)) from w_eq_bool (w_res rfl) w_lit) rfl
theorem vV {l:OpenLaw}{n:Nat}{q:Program}{loose:List Str}{XP:(Str->Option Value)->Heap->Prop}{YP:World->Heap->Prop}{d:DefRec}
  (hn:l.most=some n) (hdf:d.params.defaults=[])
  (call:∀ (w:World) (s₀ s₁:Shared) (mg mb:Str->Option Value) (fa:Addr) (o:Obj) (pm cd doc:Value) (a:Addr) (vs:List Value) (ns:List Int),
   Ground q loose [] XP w s₀ mg mb s₁.heap->YP w s₁.heap ->
   s₁.heap.get? fa=some o->o.data = .func (docDef d.name d.params d.body d.scope pm cd doc)->s₁.heap.CodeRec cd d.name->mg d.name=some (.ref fa) ->
   s₁.heap.get? a=some { cls:=.type "list",data:=.seq vs.toArray }->IntsAre vs ns->ns.length<=n->s₁.gens = #[] ->
   codeAny (model l.prog w) callerA (.call (.ref fa) ⟨[.ref a],[]⟩) (fun r s'=>r = .ok (.ret (.bool true))∧OldK s₁.heap s'.heap∧s'.os=s₁.os∧AllBare s'.gens) s₁) :
  WalkO q loose XP YP l.row.toRowW d [] (fun f vs=>PySem.call f vs):=by
 intro w s₀ s₁ mg mb G Y fa o pm cd doc dV kV ho hd hcd hD hmg hg args vals as hpre hlay hrd hwl hlo
 obtain rfl:dV = .none:=Dflts.none hD hdf
 obtain rfl:kV = .none:=Dflts.noKw hD
 obtain ⟨a,vs,ns,rfl,rfl,hobj,hints,hlen⟩:=Cp hn hpre hwl
 refine enter_call (codeAny_mono (call w s₀ s₁ mg mb fa o pm cd doc a vs ns G Y ho (fd_plain hd) hcd hmg hobj hints hlen hg) fun r s' hq=>?_)
 obtain ⟨rfl,h2,h3,h4⟩:=hq
 exact ⟨.inl ⟨.bool true,.bool true,[],rfl,fun _=>rfl,.bool true,Cb l _,fun _=>⟨List.Pairwise.nil,fun _ hm=>(nomatch hm)⟩⟩,h2,h3,h4⟩
section
variable {prog:Program}{w:World}{A:Around}{E:Value->Shared->Prop}{s:Shared}{K:Frag}
end
end Att
namespace L2
open PySem PySem.Spec PyProof.Rows
theorem sP:∀ {vs:List Value} {ns:List Int},IntsAre vs ns->bR (ns.map V.int) vs
 | _,_,.nil=>.nil
 | _,_,.cons n t h=>.cons ⟨t,rfl⟩ (sP h)
def Ll (H:Hp):Prop:=∀ b,H b=none∨∃ o xs,H b=some (.frz o (.lst xs))
theorem Fc {P:Program}{w:World}{K:PySem.W.Frag}{mg mb:Str->Option Value}{CX:CXT}{k:Nat}{fa a:Addr}{fd:FuncData}{x:Str}{sp:Sp}{s₁:Shared}{vs:List Value}{ns:List Int}
  (KX:K.In s₁.heap) (hns:s₁.heap.Ns mainGlobals mg) (hb:s₁.heap.Ns builtinsNs mb) (hbb:∀ x:Str,x ≠ "__name__" -> mb x=bootBuiltins x) (hlim:s₁.heap.NoLimit) (hg:s₁.gens = #[])
  (ha:s₁.heap.get? a=some { cls:=.type "list",data:=.seq vs.toArray }) (hi:IntsAre vs ns) (hl:ns.length<=sizeLine) (hr:fI k callerA)
  (F:∀ base:Heap,K.In base->base.Ns mainGlobals mg->cD P w K mg base CX k fa fd [x] sp) (hbind:∀ (s:Shared) (u:Value),BindsTo s fd ⟨[u],[]⟩ [(x,u)])
  (hsp:∀ H:Hp,Ll H->SqL K H a (ns.map V.int)->sp [.ref a] H (fun v _=>v = .bl true) fun _ _ _=>False)
  (hCX:∀ H e s',CX [] H s₁ (fun _ _ _=>False) e s'->False) :
  codeAny (model P w) callerA (.call (.ref fa) ⟨[.ref a],[]⟩) (fun r s'=>r = .ok (.ret (.bool true))∧OldK s₁.heap s'.heap∧s'.os=s₁.os∧AllBare s'.gens) s₁:=by
 have rv:=sP hi
 have lenV:=hi.length
 have core:∀ H:Hp,Ll H->SqL K H a (ns.map V.int)->HOk P w H s₁.heap->(∀ b,H b≠none->b=a)->(H a≠none->K.lookup a=none) ->
   codeAny (model P w) callerA (.call (.ref fa) ⟨[.ref a],[]⟩) (fun r s'=>r = .ok (.ret (.bool true))∧OldK s₁.heap s'.heap∧s'.os=s₁.os∧AllBare s'.gens) s₁:=by
  intro H hO hS hok hA hK
  have base_of:∀ {b:Addr} {o:Obj},s₁.heap.get? b=some o->H b=none->(tX s₁.heap H).get? b=some o:=fun e n=>Gp e n
  have noA:∀ {b:Addr} {o:Obj} {es:Array DictEntry} {ep:Nat},s₁.heap.get? b=some o->o.data = .dict es ep->H b=none:=fun {b o es ep} e d=>by
   cases q:H b with
   | none=>rfl
   | some u =>
    have e':b=a:=hA b (by rw [q];simp)
    subst e'
    rw [ha] at e;cases e
    have d':Data.seq vs.toArray _=Data.dict es ep:=d
    cases d'
  have nsK:∀ {b:Addr} {m:Str->Option Value},s₁.heap.Ns b m->(tX s₁.heap H).Ns b m:=fun {b m} ⟨o,es,ep,e,d,r⟩=>⟨o,es,ep,base_of e (noA e d),d,r⟩
  have hKb:K.In (tX s₁.heap H):=fun b o e=>base_of (KX b o e) (by
   cases q:H b with
   | none=>rfl
   | some u =>
    have e':b=a:=hA b (by rw [q];simp)
    subst e'
    rw [hK (by rw [q];simp)] at e;cases e)
  have hM:Mod K mg (tX s₁.heap H):=⟨hKb,nsK hns,⟨mb,nsK hb,hbb⟩,let ⟨mc,h1,h2⟩:=hlim;⟨mc,nsK h1,h2⟩⟩
  have e0:xO P w K mg (tX s₁.heap H) callerA [] s₁ H:=⟨rfl,hM,fun b o e=>Iq e,Nat.le_of_eq (Db _ _),trivial,fun b hb=>absurd (show b∈([]:List Addr) from hb) (by simp),hok,.of_eq hg⟩
  refine codeAny_mono ((F _ hKb (nsK hns)).run callerA [] s₁ H ⟨[.ref a],[]⟩ [.ref a] [.ref a] _ _ hr e0 (hbind s₁ (.ref a)) (.cons rfl .nil) (hsp H hO hS)) fun r s' h=>?_
  cases r with
  | error e=>exact (hCX H e s' h).elim
  | ok fl =>
   cases fl with
   | next=>exact False.elim h
   | brk=>exact False.elim h
   | cont=>exact False.elim h
   | ret u =>
    obtain ⟨v,H',os,bare,un,hok',r',q⟩:=h
    have q':v = .bl true:=q
    subst q'
    obtain rfl:u=Value.bool true:=r'
    refine ⟨rfl,OldK.of_keep fun b o e=>?_,os,bare⟩
    cases q:H b with
    | none=>exact un.keep b o e q (by intro z;exact absurd (show b∈([]:List Addr) from z) (by simp)) (by simp)
    | some u =>
     rcases hO b with z | ⟨ob,xs,z⟩
     ·rw [q] at z;cases z
     ·have z2:=un.frzs b ob _ z
      obtain ⟨e1,_⟩:=hok b _ z
      obtain ⟨e2,_⟩:=hok' b _ z2
      rw [e] at e1;cases e1
      exact e2
 cases hk:K.lookup a with
 | some o =>
  have e:=KX a o hk
  rw [ha] at e
  cases e
  refine core (fun _=>none) (fun _=>.inl rfl) (.inr ⟨_,vs.toArray,_,hk,rfl,rfl,rfl,by rw [List.size_toArray,lenV];exact hl,by simpa using rv⟩) (fun b u z=>by have z':(none:Option HO)=some u:=z;cases z') (fun b z=>absurd rfl z) fun z=>absurd rfl z
 | none =>
  refine core (fun b=>if b=a then some (.frz { cls:=.type "list",data:=.seq vs.toArray } (.lst (ns.map V.int))) else none) (fun b=>?_) (.inl (.inr ⟨{ cls:=.type "list",data:=.seq vs.toArray },if_pos rfl⟩)) (fun b u z=>?_) (fun b z=>?_) fun _=>hk
  ·by_cases hb:b=a
   ·exact .inr ⟨_,_,if_pos hb⟩
   ·exact .inl (if_neg hb)
  ·by_cases hb:b=a
   ·have z':=(if_pos hb).symm.trans z
    cases z'
    subst hb
    exact ⟨ha,by rw [List.length_map];exact hl,vs,_,rv,ha⟩
   ·have z':=(if_neg hb).symm.trans z
    cases z'
  ·by_cases hb:b=a
   ·exact hb
   ·exact absurd (if_neg hb) z
end L2
namespace L2
open PySem PySem.Spec PyProof.Rows
theorem Jv {l:PySem.W.OpenLaw}{n k:Nat}{q:Program}{loose:List Str}{XP:(Str->Option Value)->Heap->Prop}{YP:World->Heap->Prop}{d:DefRec}{K:Params->PySem.W.Frag}{CX:World->CXT}{sp:World->Sp}{x:Str}
  (hn:l.most=some n) (hn2:n<=sizeLine) (hdf:d.params.defaults=[]) (hr:fI k callerA)
  (hY:∀ (w:World) (h:Heap),YP w h->(K w.params).In h)
  (F:∀ (w:World) (mg:Str->Option Value) (fa:Addr) (h:Heap),(K w.params).In h->h.Ns mainGlobals mg->mg d.name=some (.ref fa) ->
   ∃ fd:FuncData,(∀ (s:Shared) (u:Value),BindsTo s fd ⟨[u],[]⟩ [(x,u)]) ∧
    ∀ base:Heap,(K w.params).In base->base.Ns mainGlobals mg->cD l.prog w (K w.params) mg base (CX w) k fa fd [x] (sp w))
  (hsp:∀ (w:World) (H:Hp) (a:Addr) (ns:List Int),ns.length<=n->Ll H->SqL (K w.params) H a (ns.map V.int)->sp w [.ref a] H (fun v _=>v = .bl true) fun _ _ _=>False)
  (hCX:∀ (w:World) (H:Hp) (s:Shared) (e:Value) (s':Shared),CX w [] H s (fun _ _ _=>False) e s'->False) :
  PySem.W.WalkO q loose XP YP l.row.toRowW d [] (fun f vs=>PySem.call f vs):=by
 refine Att.vV hn hdf fun w s₀ s₁ mg mb fa o pm cd doc a vs ns G Y ho hd hcd hmg hobj hints hlen hg=>?_
 have KX:=hY w _ Y
 obtain ⟨fd,hb,hF⟩:=F w mg fa _ KX G.T.g hmg
 exact Fc KX G.T.g G.T.b G.T.builtins G.T.nolimit hg hobj hints (Nat.le_trans hlen hn2) hr hF hb (fun H hO hS=>hsp w H a ns hlen hO hS) fun H e s'=>hCX w H s₁ e s'
end L2
namespace L2
open PySem PySem.Spec PyProof.Rows
def Ka (s:Stmt)(j:Nat):Stmt:=match s with
 | .ClassDef _ _ _ body _ _ _ _ _ _ _=>body.getD j (.Pass ⟨0,0,0,0⟩)
 | _=>.Pass ⟨0,0,0,0⟩
def fX (s:Stmt):Arguments:=match s with
 | .FunctionDef _ a _ _ _ _ _ _ _ _=>a
 | _=>{ posonlyargs:=[],args:=[],vararg:=none,kwonlyargs:=[],kw_defaults:=[],kwarg:=none,defaults:=[] }
def eR (s:Stmt):List Stmt:=match s with
 | .FunctionDef _ _ b _ _ _ _ _ _ _=>b
 | _=>[]
def aJ (s:Stmt):Scope:=match s with
 | .FunctionDef _ _ _ _ _ _ sc _ _ _=>sc
 | _=>{ kind:=.function,names:=[],isGenerator:=false,isCoroutine:=false }
abbrev E0:XK:=fun _ _ _=>False
set_option genInjectivity false in
structure Fun (K:PySem.W.Frag)(x qual:Str)(st:Stmt)(f:Addr)(fd:FuncData):Prop where
 ex:∃ (oc:Value) (od:Option Addr) (kV doc pm:Value) (an:Option Addr) (cdv ct:Value) (osl:Array (Option Value)),
  fd=PySem.W.fnOf x qual (fX st) (eR st) (aJ st) .none kV doc pm an cdv ct∧K.lookup f=some ⟨oc,od,.func fd,osl⟩∧PySem.W.codeIn K cdv qual=true
 kp:PySem.W.keepIn K (.ref f)=true
section
variable {P:Program}{w:World}{K:PySem.W.Frag}{mg:Str->Option Value}{base:Heap}
theorem Fun.binds {x qual:Str}{st:Stmt}{f:Addr}{fd:FuncData}{ps:List Str}(F:Fun K x qual st f fd)
  (h:∀ (kV doc pm:Value) (an:Option Addr) (cdv ct:Value) (us:List Value),us.length=ps.length->bindArgs (PySem.W.fnOf x qual (fX st) (eR st) (aJ st) .none kV doc pm an cdv ct) ⟨us,[]⟩=pure (ps.zip us)):lD K fd ps []:=by
 obtain ⟨oc,od,kV,doc,pm,an,cdv,ct,osl,rfl,lk,hcd⟩:=F.ex
 exact .all (h kV doc pm an cdv ct)
theorem zB {x qual:Str}{st:Stmt}{f:Addr}{oc:Value}{od an:Option Addr}{osl:Array (Option Value)}{kV doc pm cdv ct:Value}(l:K.lookup f=some ⟨oc,od,.func (PySem.W.fnOf x qual (fX st) (eR st) (aJ st) .none kV doc pm an cdv ct),osl⟩)
 (c:PySem.W.codeIn K cdv qual=true) (k:PySem.W.keepIn K (.ref f)=true):Fun K x qual st f (PySem.W.fnOf x qual (fX st) (eR st) (aJ st) .none kV doc pm an cdv ct):=⟨⟨oc,od,kV,doc,pm,an,cdv,ct,osl,rfl,l,c⟩,k⟩
end
theorem jH {A:Around}{k:Nat}(hr:fI k A):A.units+1<cLine:=Nat.lt_of_le_of_lt (Nat.add_le_add_left (by decide:1<=64) _) hr.units
section
variable {X:Cx}
theorem pv (i:Nat){x:Str}{pos:Pos}(hN:X.N[i]?=some x:=by rfl)(hv:Vis X.env.scope x:=by first | exact Or.inl rfl | exact Or.inr (Or.inl rfl) | exact Or.inr (Or.inr rfl))(hd:(x==("__debug__" : Str))=false:=by decide)
 (hcd:(x==("__classdict__" : Str))=false:=by decide):PE X (.Name x pos) (Ow i):=Mb hN hv hd hcd
end
theorem Bw {A B:Prop}(h:B):if false=true then A else B:=by
 rw [if_neg Bool.false_ne_true]
 exact h
theorem Cr {A B:Prop}(h:A):if true=true then A else B:=by
 rw [if_pos rfl]
 exact h
theorem eP {c A B:Prop}[Decidable c](h1:c->A)(h2:¬ c->B):if c then A else B:=by
 by_cases h:c
 ·rw [if_pos h]
  exact h1 h
 ·rw [if_neg h]
  exact h2 h
theorem Kk {c A B:Prop}[Decidable c](hc:c)(h:B):if (!decide c)=true then A else B:=by
 rw [decide_eq_true hc]
 exact Bw h
def aM (H H':Hp):Prop:=∀ b o,H b=some o->H' b=some o
theorem aM.refl (H:Hp):aM H H:=fun _ _ h=>h
theorem aM.trans {H H1 H2:Hp}(a:aM H H1)(b:aM H1 H2):aM H H2:=fun c o h=>b c o (a c o h)
theorem aM.seq {K:PySem.W.Frag}{H H':Hp}{a:Addr}{xs:List V}(e:aM H H')(h:SqL K H a xs):SqL K H' a xs:=by
 rcases h with (h | ⟨o,h⟩) | h
 ·exact .inl (.inl (e _ _ h))
 ·exact .inl (.inr ⟨o,e _ _ h⟩)
 ·exact .inr h
end L2
namespace Wd
abbrev W:=List Nat
theorem Qn {a b c:W}(h:¬ b<a)(h':¬ c<b):¬ c<a:=fun hc=>List.not_lt.mpr (List.le_trans (List.not_lt.mp h) (List.not_lt.mp h')) hc
def rot (k:Nat)(w:W):W:=w.drop k++w.take k
def uR (w:W):Nat->W
 | 0=>w
 | n+1=>if rot (n+1) w<uR w n then rot (n+1) w else uR w n
def kY (w:W):W:=uR w (w.length-1)
end Wd
namespace Wd
end Wd
namespace Wd
def rep (n:Nat)(l:W):W:=(List.replicate n l).flatten
theorem pJ (n:Nat)(l:W):rep (n+1) l=l++rep n l:=by unfold rep;rw [List.replicate_succ,List.flatten_cons]
theorem wH (l:W):rep 0 l=[]:=rfl
theorem Jt (l:W):rep 1 l=l:=by rw [pJ,wH,List.append_nil]
theorem zO (n:Nat)(l:W):(rep n l).length=n*l.length:=by
 induction n with
 | zero=>rw [wH,Nat.zero_mul];rfl
 | succ n ih=>rw [pJ,List.length_append,ih,Nat.succ_mul,Nat.add_comm]
end Wd
namespace Wd
end Wd
namespace Wd
end Wd
namespace Dt
abbrev Mx:=Nat->Nat->Int
def cS:Nat->(Nat->Int)->Int
 | 0,_=>0
 | n+1,f=>cS n f+f n
def sk (j k:Nat):Nat:=if k<j then k else k+1
def sg (j:Nat):Int:=if j % 2=0 then 1 else -1
def det:Nat->Mx->Int
 | 0,_=>1
 | n+1,A=>cS (n+1) fun j=>sg j*(A 0 j*det n fun i k=>A (i+1) (sk j k))
section
variable {n N p q i j k l:Nat}{A B:Mx}{f g:Nat->Int}{c m:Int}
theorem eE:∀ {n:Nat},(∀ j,j<n->f j=g j)->cS n f=cS n g
 | 0,_=>rfl
 | n+1,h=>by
  show cS n f+f n=cS n g+g n
  rw [eE (n:=n) fun j hj=>h j (by omega),h n (by omega)]
theorem lV:∀ {n:Nat},cS n (fun j=>f j+c*g j)=cS n f+c*cS n g
 | 0=>by show (0:Int)=0+c*0;omega
 | n+1=>by
  show cS n (fun j=>f j+c*g j)+(f n+c*g n)=(cS n f+f n)+c*(cS n g+g n)
  rw [lV (n:=n),Int.mul_add]
  omega
theorem jQ:∀ {n:Nat},(∀ j,j<n->f j=0)->cS n f=0
 | 0,_=>rfl
 | n+1,h=>by
  show cS n f+f n=0
  rw [jQ (n:=n) fun j hj=>h j (by omega),h n (by omega)]
  rfl
theorem Ap {n:Nat}:cS n (fun j=>c*g j)=c*cS n g:=by
 have h:=lV (n:=n) (f:=fun _=>0) (c:=c) (g:=g)
 rw [jQ (fun _ _=>rfl)] at h
 rw [eE (g:=fun j=>0+c*g j) fun j _=>by omega,h]
 omega
theorem rT:∀ {n:Nat},(∀ j,0<j->j<n+1->f j=0)->cS (n+1) f=f 0
 | 0,_=>by show (0:Int)+f 0=f 0;omega
 | n+1,h=>by
  show cS (n+1) f+f (n+1)=f 0
  rw [rT (n:=n) fun j h0 hj=>h j h0 (by omega),h (n+1) (by omega) (by omega)]
  omega
theorem Fe (h:k<n):sk j k<n+1:=by unfold sk;split <;> omega
theorem bQ:∀ {n:Nat} {A B:Mx},(∀ i k,i<n->k<n->A i k=B i k)->det n A=det n B
 | 0,_,_,_=>rfl
 | n+1,A,B,h=>by
  refine eE fun j hj=>?_
  rw [h 0 j (by omega) hj,bQ (n:=n) fun i k hi hk=>h (i+1) (sk j k) (by omega) (Fe hk)]
def bX (A:Mx)(i:Nat)(u:Nat->Int):Mx:=fun a k=>if a=i then u k else A a k
theorem kP {u:Nat->Int}:bX A i u i=u:=by
 funext k
 exact if_pos rfl
theorem iN {u:Nat->Int}{a:Nat}(h:a≠i):bX A i u a=A a:=by
 funext k
 exact if_neg h
theorem xZ {u:Nat->Int}:(fun a k=>bX A (i+1) u (a+1) (sk j k))=bX (fun a k=>A (a+1) (sk j k)) i fun k=>u (sk j k):=by
 funext a k
 unfold bX
 by_cases h:a=i
 ·rw [if_pos h,if_pos (by omega)]
 ·rw [if_neg h,if_neg (by omega)]
theorem mH:∀ {n:Nat} {A:Mx} {i:Nat} {u v:Nat->Int},i<n->det n (bX A i fun k=>u k+c*v k)=det n (bX A i u)+c*det n (bX A i v)
 | n+1,A,0,u,v,_=>by
  have e:∀ w:Nat->Int,det (n+1) (bX A 0 w)=cS (n+1) fun j=>sg j*(w j*det n fun i k=>A (i+1) (sk j k)):=fun w=>by
   refine eE fun j _=>?_
   rw [kP,bQ (n:=n) (A:=fun i k=>bX A 0 w (i+1) (sk j k)) (B:=fun i k=>A (i+1) (sk j k)) fun a k _ _=>by rw [iN (by omega)]]
  rw [e,e,e,<- lV]
  refine eE fun j _=>?_
  rw [Int.add_mul,Int.mul_add]
  congr 1
  rw [Int.mul_assoc c,<- Int.mul_assoc (sg j) c,Int.mul_comm (sg j) c,Int.mul_assoc c]
 | n+1,A,i+1,u,v,h=>by
  have e:∀ w:Nat->Int,det (n+1) (bX A (i+1) w)=cS (n+1) fun j=>sg j*(A 0 j*det n (bX (fun a k=>A (a+1) (sk j k)) i fun k=>w (sk j k))):=fun w=>by
   refine eE fun j _=>?_
   rw [xZ,iN (by omega)]
  rw [e,e,e,<- lV]
  refine eE fun j _=>?_
  rw [mH (n:=n) (i:=i) (u:=fun k=>u (sk j k)) (v:=fun k=>v (sk j k)) (by omega),Int.mul_add,Int.mul_add]
  congr 1
  rw [<- Int.mul_assoc (A 0 j) c,Int.mul_comm (A 0 j) c,Int.mul_assoc c,<- Int.mul_assoc (sg j) c,Int.mul_comm (sg j) c,Int.mul_assoc c]
theorem Ag:sg (j+1) = - sg j:=by
 unfold sg
 by_cases h:j % 2=0
 ·rw [if_pos h,if_neg (by omega)]
 ·rw [if_neg h,if_pos (by omega)];rfl
theorem Og:sg j*sg j=1:=by
 unfold sg
 split <;> rfl
theorem dbl {F:Nat->Nat->Int}:∀ {N:Nat},(∀ j l,l<j->j<=N->F j l+F l (j-1)=0)->cS (N+1) (fun j=>cS N (F j))=0
 | 0,_=>rfl
 | N+1,h=>by
  have ih:=dbl (N:=N) fun j l hl hj=>h j l hl (by omega)
  have e1:cS (N+1) (fun j=>cS (N+1) (F j))=cS (N+1) (fun j=>cS N (F j)+1*F j N):=eE fun j _=>by
   show cS N (F j)+F j N=_
   omega
  have e2:cS (N+1) (fun l=>F l N+1*F (N+1) l)=0:=jQ fun l hl=>by
   have:=h (N+1) l (by omega) (by omega)
   rw [Nat.add_sub_cancel] at this
   omega
  rw [lV] at e1 e2
  show cS (N+1) (fun j=>cS (N+1) (F j))+cS (N+1) (F (N+1))=0
  have e3:cS (N+1) (F (N+1))=cS (N+1) fun l=>F (N+1) l:=rfl
  rw [e1,ih]
  omega
theorem Nq (h:l<j):sk j (sk l k)=sk l (sk (j-1) k):=by
 have a:∀ x y:Nat,sk x y=if y<x then y else y+1:=fun _ _=>rfl
 by_cases h1:k<l
 ·rw [a l k,if_pos h1,a j k,if_pos (by omega),a (j-1) k,if_pos (by omega),a l k,if_pos h1]
 ·rw [a l k,if_neg h1]
  by_cases h2:k+1<j
  ·rw [a j,if_pos h2,a (j-1) k,if_pos (by omega),a l k,if_neg h1]
  ·rw [a j,if_neg h2,a (j-1) k,if_neg (by omega),a l,if_neg (by omega)]
theorem Ql (h:∀ k,k<n+2->A 0 k=A 1 k):det (n+2) A=0:=by
 have e:det (n+2) A=cS (n+2) fun j=>cS (n+1) fun l=>sg j*(A 0 j*(sg l*(A 1 (sk j l)*det n fun i k=>A (i+2) (sk j (sk l k))))):=by
  refine eE fun j _=>?_
  show sg j*(A 0 j*cS (n+1) fun l=>sg l*(A 1 (sk j l)*det n fun i k=>A (i+2) (sk j (sk l k))))=_
  rw [<- Ap,<- Ap]
 rw [e]
 refine dbl fun j l hl hj=>?_
 have s1:sk j l=l:=by unfold sk;rw [if_pos hl]
 have s2:sk l (j-1)=j:=by unfold sk;rw [if_neg (by omega)];omega
 have s3:(fun i k=>A (i+2) (sk l (sk (j-1) k)))=fun i k=>A (i+2) (sk j (sk l k)):=by
  funext i k
  rw [Nq hl]
 rw [s1,s2,s3,<- h j (by omega),<- h l (by omega)]
 have s4:sg j = - sg (j-1):=by rw [<- Ag,Nat.sub_add_cancel (by omega)]
 rw [s4]
 generalize det n (fun i k=>A (i+2) (sk j (sk l k)))=d
 grind
theorem alt:∀ {n i:Nat} {A:Mx},i+1<n->(∀ k,k<n->A i k=A (i+1) k)->det n A=0
 | n+2,0,A,_,h=>Ql h
 | n+1,i+1,A,hi,h=>by
  refine jQ fun j _=>?_
  rw [alt (n:=n) (i:=i) (A:=fun a k=>A (a+1) (sk j k)) (by omega) fun k hk=>h (sk j k) (Fe hk),Int.mul_zero,Int.mul_zero]
def tr (p i:Nat):Nat:=if i=p then p+1 else if i=p+1 then p else i
theorem mS {u v:Nat->Int}(h:i≠j):bX (bX A i u) j v=bX (bX A j v) i u:=by
 funext a k
 unfold bX
 by_cases h1:a=i
 ·rw [if_neg (by omega),if_pos h1,if_pos h1]
 ·by_cases h2:a=j
  ·rw [if_pos h2,if_neg h1,if_pos h2]
  ·rw [if_neg h2,if_neg h1,if_neg h1,if_neg h2]
theorem vH {u v:Nat->Int}(h:i<n):det n (bX A i fun k=>u k+v k)=det n (bX A i u)+det n (bX A i v):=by
 have:=mH (c:=1) (A:=A) (u:=u) (v:=v) h
 rw [Int.one_mul] at this
 rw [<- this]
 congr 2
 funext k
 omega
theorem hV (u:Nat->Int)(h:∀ k,u k=A i k):det n (bX A i u)=det n A:=bQ fun a k _ _=>by
 unfold bX
 by_cases e:a=i
 ·rw [if_pos e,h,e]
 ·rw [if_neg e]
theorem swap (h:p+1<n):det n (fun i k=>A (tr p i) k) = - det n A:=by
 have D:∀ x y:Nat->Int,∃ d,det n (bX (bX A p x) (p+1) y)=d:=fun _ _=>⟨_,rfl⟩
 have z:∀ w:Nat->Int,det n (bX (bX A p w) (p+1) w)=0:=fun w=>alt h fun k _=>by rw [iN (by omega),kP,kP]
 have l2:∀ x y y':Nat->Int,det n (bX (bX A p x) (p+1) fun k=>y k+y' k)=det n (bX (bX A p x) (p+1) y)+det n (bX (bX A p x) (p+1) y'):=fun x y y'=>vH h
 have l1:∀ x x' y:Nat->Int,det n (bX (bX A p fun k=>x k+x' k) (p+1) y)=det n (bX (bX A p x) (p+1) y)+det n (bX (bX A p x') (p+1) y):=fun x x' y=>by
  rw [mS (by omega),mS (u:=x) (by omega),mS (u:=x') (by omega)]
  exact vH (by omega)
 have e0:=z fun k=>A p k+A (p+1) k
 rw [l2,l1,l1,z,z] at e0
 have e1:det n (bX (bX A p (A p)) (p+1) (A (p+1)))=det n A:=by
  rw [hV _ (fun k=>by rw [iN (by omega)]),hV _ (fun k=>rfl)]
 have e2:det n (bX (bX A p (A (p+1))) (p+1) (A p))=det n fun i k=>A (tr p i) k:=by
  refine bQ fun a k _ _=>?_
  unfold bX tr
  by_cases h1:a=p+1
  ·rw [if_pos h1,if_neg (by omega),if_pos h1]
  ·rw [if_neg h1]
   by_cases h2:a=p
   ·rw [if_pos h2,if_pos h2]
   ·rw [if_neg h2,if_neg h2,if_neg h1]
 rw [e1,e2] at e0
 omega
theorem oN:∀ (d:Nat) {i:Nat} {A:Mx},i+1+d<n->(∀ k,k<n->A i k=A (i+1+d) k)->det n A=0
 | 0,i,A,hi,h=>alt hi h
 | d+1,i,A,hi,h=>by
  have h2:=oN d (i:=i) (A:=fun a k=>A (tr (i+1+d) a) k) (by omega) fun k hk=>by
   show A (tr (i+1+d) i) k=A (tr (i+1+d) (i+1+d)) k
   unfold tr
   rw [if_neg (by omega),if_neg (by omega),if_pos rfl]
   exact h k hk
  rw [swap (by omega)] at h2
  omega
theorem Lp {t:Int}(h0:0<i)(h:i<n):det n (bX A i fun k=>A i k-t*A 0 k)=det n A:=by
 have e:=mH (c:=-t) (A:=A) (u:=A i) (v:=A 0) h
 rw [hV (A i) fun _=>rfl,oN (i-1) (i:=0) (A:=bX A i (A 0)) (by omega) fun k _=>?_,Int.mul_zero,Int.add_zero] at e
 ·rw [<- e]
  congr 2
  funext k
  rw [Int.neg_mul]
  omega
 ·rw [iN (by omega),show 0+1+(i-1)=i by omega,kP]
theorem Ei {t:Nat->Int}:∀ {m:Nat},m<=n->det n (fun i k=>if 0<i∧i<m then A i k-t i*A 0 k else A i k)=det n A
 | 0,_=>bQ fun i k _ _=>if_neg (by omega)
 | m+1,hm=>by
  rw [<- Ei (m:=m) (by omega)]
  by_cases h0:m=0
  ·subst h0
   exact bQ fun i k _ _=>by rw [if_neg (by omega),if_neg (by omega)]
  ·rw [<- Lp (A:=fun i k=>if 0<i∧i<m then A i k-t i*A 0 k else A i k) (i:=m) (t:=t m) (by omega) (by omega)]
   refine bQ fun i k _ _=>?_
   unfold bX
   dsimp only
   by_cases h1:i=m
   ·subst h1
    rw [if_pos rfl,if_pos (by omega),if_neg (by omega),if_neg (by omega)]
   ·rw [if_neg h1]
    by_cases h2:0<i∧i<m
    ·rw [if_pos h2,if_pos (by omega)]
    ·rw [if_neg h2,if_neg (by omega)]
theorem Le:∀ {n:Nat} {A:Mx},(∀ i,i<n+1->A i 0=0)->det (n+1) A=0
 | n,A,h=>by
  refine jQ fun j hj=>?_
  cases j with
  | zero=>rw [h 0 (by omega),Int.zero_mul,Int.mul_zero]
  | succ j =>
   cases n with
   | zero=>omega
   | succ n=>rw [Le (n:=n) (A:=fun i k=>A (i+1) (sk (j+1) k)) fun i hi=>h (i+1) (by omega),Int.mul_zero,Int.mul_zero]
theorem Nl (h:∀ i,i<n->A (i+1) 0=0):det (n+1) A=A 0 0*det n fun i k=>A (i+1) (k+1):=by
 show cS (n+1) _=_
 rw [rT fun j h0 hj=>?_]
 ·show sg 0*(A 0 0*det n fun i k=>A (i+1) (sk 0 k))=_
  rw [show sg 0=1 from rfl,Int.one_mul]
  rfl
 ·cases n with
  | zero=>omega
  | succ n =>
   rw [Le (A:=fun i k=>A (i+1) (sk j k)) fun i hi=>by
    show A (i+1) (sk j 0)=0
    rw [show sk j 0=0 by unfold sk;rw [if_pos h0]]
    exact h i hi,Int.mul_zero,Int.mul_zero]
def Cg (m a b:Int):Prop:=m∣a-b
theorem Cg.refl (a:Int):Cg m a a:=by unfold Cg;rw [Int.sub_self];exact Int.dvd_zero m
theorem Cg.symm {a b:Int}(h:Cg m a b):Cg m b a:=by
 unfold Cg at *
 rw [<- Int.neg_sub]
 exact Int.dvd_neg.mpr h
theorem Cg.trans {a b d:Int}(h:Cg m a b)(g:Cg m b d):Cg m a d:=by
 unfold Cg at *
 rw [show a-d=(a-b)+(b-d) by omega]
 exact Int.dvd_add h g
theorem Cg.add {a b a' b':Int}(h:Cg m a b)(g:Cg m a' b'):Cg m (a+a') (b+b'):=by
 unfold Cg at *
 rw [show a+a'-(b+b')=(a-b)+(a'-b') by omega]
 exact Int.dvd_add h g
theorem Cg.mul {a b a' b':Int}(h:Cg m a b)(g:Cg m a' b'):Cg m (a*a') (b*b'):=by
 unfold Cg at *
 rw [show a*a'-b*b'=(a-b)*a'+b*(a'-b') by rw [Int.sub_mul,Int.mul_sub];omega]
 exact Int.dvd_add (Int.dvd_mul_of_dvd_left h) (Int.dvd_mul_of_dvd_right g)
theorem Cg.sub {a b a' b':Int}(h:Cg m a b)(g:Cg m a' b'):Cg m (a-a') (b-b'):=by
 unfold Cg at *
 rw [show a-a'-(b-b')=(a-b)-(a'-b') by omega]
 exact Int.dvd_sub h g
theorem Cg.neg {a b:Int}(h:Cg m a b):Cg m (-a) (-b):=by
 have:=(Cg.refl (m:=m) 0).sub h
 rwa [Int.zero_sub,Int.zero_sub] at this
theorem nF (a:Int):Cg m (a % m) a:=by
 unfold Cg
 rw [Int.emod_def]
 rw [show a-m*(a/m)-a = -(m*(a/m)) by omega]
 exact Int.dvd_neg.mpr (Int.dvd_mul_right ..)
theorem Fs:∀ {n:Nat},(∀ j,j<n->Cg m (f j) (g j))->Cg m (cS n f) (cS n g)
 | 0,_=>Cg.refl _
 | n+1,h=>(Fs (n:=n) fun j hj=>h j (by omega)).add (h n (by omega))
theorem vD:∀ {n:Nat} {A B:Mx},(∀ i k,i<n->k<n->Cg m (A i k) (B i k))->Cg m (det n A) (det n B)
 | 0,_,_,_=>Cg.refl _
 | n+1,A,B,h=>Fs fun j hj=>(Cg.refl _).mul ((h 0 j (by omega) hj).mul (vD fun i k hi hk=>h (i+1) (sk j k) (by omega) (Fe hk)))
theorem Ge {t:Nat->Int}(h:∀ i,i<n->m∣A (i+1) 0-t i*A 0 0):Cg m (det (n+1) A) (A 0 0*det n fun i k=>A (i+1) (k+1)-t i*A 0 (k+1)):=by
 rw [<- Ei (n:=n+1) (A:=A) (t:=fun i=>t (i-1)) (m:=n+1) (Nat.le_refl _)]
 refine (vD (B:=fun i k=>if i=0 then A 0 k else if k=0 then 0 else A i k-t (i-1)*A 0 k) fun i k hi hk=>?_).trans ?_
 ·by_cases h0:i=0
  ·subst h0
   rw [if_neg (by omega),if_pos rfl]
   exact Cg.refl _
  ·rw [if_pos (by omega),if_neg h0]
   by_cases hk0:k=0
   ·subst hk0
    rw [if_pos rfl]
    have:=h (i-1) (by omega)
    rw [show i-1+1=i by omega] at this
    unfold Cg
    rw [Int.sub_zero]
    exact this
   ·rw [if_neg hk0]
    exact Cg.refl _
 ·rw [Nl fun i _=>by rw [if_neg (by omega),if_pos rfl]]
  rw [if_pos rfl]
  have e:det n (fun i k=>if i+1=0 then A 0 (k+1) else if k+1=0 then 0 else A (i+1) (k+1)-t (i+1-1)*A 0 (k+1))=det n fun i k=>A (i+1) (k+1)-t i*A 0 (k+1):=bQ fun i k _ _=>by rw [if_neg (by omega),if_neg (by omega)];rfl
  rw [e]
  exact Cg.refl _
def mv (p:Nat)(A:Mx):Mx:=fun i k=>if i=0 then A p k else if i<=p then A (i-1) k else A i k
theorem Fb:∀ {p:Nat} {A:Mx},p<n->det n (mv p A)=sg p*det n A
 | 0,A,h=>by
  rw [show sg 0=1 from rfl,Int.one_mul]
  exact bQ fun i k _ _=>by
   unfold mv
   by_cases h0:i=0
   ·rw [if_pos h0,h0]
   ·rw [if_neg h0,if_neg (by omega)]
 | p+1,A,h=>by
  have ih:=Fb (p:=p) (A:=fun i k=>A (tr p i) k) (by omega)
  rw [swap h] at ih
  rw [Ag,Int.neg_mul,<- Int.mul_neg,<- ih]
  refine bQ fun i k _ _=>?_
  unfold mv tr
  dsimp only
  by_cases h0:i=0
  ·rw [if_pos h0,if_pos h0,if_pos rfl]
  ·rw [if_neg h0,if_neg h0]
   by_cases h1:i<=p
   ·rw [if_pos (by omega),if_pos h1,if_neg (by omega),if_neg (by omega)]
   ·by_cases h2:i=p+1
    ·subst h2
     rw [if_pos (by omega),if_neg (by omega),if_neg (by omega),if_pos rfl]
     rfl
    ·rw [if_neg (by omega),if_neg h1,if_neg (by omega),if_neg h2]
end
end Dt
namespace Dt
def sN:Nat->(Nat->Nat)->Nat
 | 0,_=>0
 | n+1,f=>sN n f+f n
def pN:Nat->(Nat->Nat)->Nat
 | 0,_=>1
 | n+1,f=>f 0*pN n fun i=>f (i+1)
section
variable {n N p q i j k l:Nat}{A B:Mx}{f g:Nat->Nat}{c m:Int}
theorem Fm:∀ {n:Nat},(∀ j,j<n->f j<=g j)->sN n f<=sN n g
 | 0,_=>Nat.le_refl _
 | n+1,h=>Nat.add_le_add (Fm fun j hj=>h j (by omega)) (h n (by omega))
theorem xM {c:Nat}:∀ {n:Nat},sN n (fun j=>f j*c)=sN n f*c
 | 0=>by show 0=0*c;omega
 | n+1=>by
  show sN n (fun j=>f j*c)+f n*c=(sN n f+f n)*c
  rw [xM (n:=n),Nat.add_mul]
theorem Kl:∀ {n:Nat} {f g:Nat->Nat},(∀ j,j<n->f j<=g j)->pN n f<=pN n g
 | 0,_,_,_=>Nat.le_refl _
 | n+1,f,g,h=>Nat.mul_le_mul (h 0 (by omega)) (Kl fun j hj=>h (j+1) (by omega))
theorem Aw {f:Nat->Int}:∀ {n:Nat},(cS n f).natAbs<=sN n fun j=>(f j).natAbs
 | 0=>Nat.le_refl _
 | n+1=>by
  have:=Aw (f:=f) (n:=n)
  have h2:=Int.natAbs_add_le (cS n f) (f n)
  show (cS n f+f n).natAbs<=sN n (fun j=>(f j).natAbs)+(f n).natAbs
  omega
theorem Ki {f:Nat->Nat}{j:Nat}:∀ {n:Nat},sN n (fun k=>f (sk j k))<=sN (n+1) f
 | 0=>Nat.zero_le _
 | n+1=>by
  show sN n (fun k=>f (sk j k))+f (sk j n)<=sN (n+1) f+f (n+1)
  by_cases h:n<j
  ·have e:∀ m,m<=n+1->sN m (fun k=>f (sk j k))=sN m f:=fun m=>by
    induction m with
    | zero=>intro _;rfl
    | succ m ih =>
     intro hm
     show sN m (fun k=>f (sk j k))+f (sk j m)=sN m f+f m
     rw [ih (by omega),show sk j m=m by unfold sk;rw [if_pos (by omega)]]
   have:=e (n+1) (Nat.le_refl _)
   have e2:sN (n+1) (fun k=>f (sk j k))=sN n (fun k=>f (sk j k))+f (sk j n):=rfl
   omega
  ·have:=Ki (j:=j) (f:=f) (n:=n)
   rw [show sk j n=n+1 by unfold sk;rw [if_neg h]]
   omega
theorem Mt:(sg j).natAbs=1:=by unfold sg;split <;> rfl
theorem sW:∀ {n:Nat} {A:Mx},(det n A).natAbs<=pN n fun i=>sN n fun k=>(A i k).natAbs
 | 0,_=>Nat.le_refl _
 | n+1,A=>by
  refine Nat.le_trans Aw ?_
  show _<=sN (n+1) (fun k=>(A 0 k).natAbs)*pN n fun i=>sN (n+1) fun k=>(A (i+1) k).natAbs
  rw [<- xM]
  refine Fm fun j _=>?_
  rw [Int.natAbs_mul,Int.natAbs_mul,Mt,Nat.one_mul]
  exact Nat.mul_le_mul_left _ (Nat.le_trans sW (Kl fun i _=>Ki (f:=fun k=>(A (i+1) k).natAbs)))
def ent (M:List (List Int)):Mx:=fun i k=>(M.getD i []).getD k 0
theorem tH {α:Type}{M:List α}{d:α}(i:Nat):(M.eraseIdx p).getD i d=M.getD (if i<p then i else i+1) d:=by
 rw [List.getD_eq_getElem?_getD,List.getD_eq_getElem?_getD,List.getElem?_eraseIdx]
 split <;> rfl
theorem Js {M:List (List Int)}{u:List Int->List Int}(h:i<M.length):(M.map u).getD i []=u (M.getD i []):=by
 rw [List.getD_eq_getElem?_getD,List.getD_eq_getElem?_getD,List.getElem?_map,List.getElem?_eq_getElem h]
 rfl
theorem elim {M:List (List Int)}{top:List Int}{back:Int}{t:List Int->Int}{low:List Int->List Int}(hp:p<n+1)(hM:M.length=n+1)(htop:∀ k,k<n+1->Cg m (top.getD k 0) ((M.getD p []).getD k 0))(hb:Cg m (top.getD 0 0*back) 1)
  (ht:∀ r∈M,Cg m (t r) (r.getD 0 0*back)) (hlow:∀ r∈M,∀ k,k<n->(low r).getD k 0=r.getD (k+1) 0-t r*top.getD (k+1) 0):Cg m (det (n+1) (ent M)) (sg p*(top.getD 0 0*det n (ent ((M.eraseIdx p).map low)))):=by
 have e1:det (n+1) (ent M)=sg p*det (n+1) (mv p (ent M)):=by
  rw [Fb hp,<- Int.mul_assoc,Og,Int.one_mul]
 have mem:∀ i,i<n->(M.eraseIdx p).getD i []∈M:=fun i hi=>by
  rw [tH]
  split
  ·rw [List.getD_eq_getElem?_getD,List.getElem?_eq_getElem (by omega)]
   exact List.getElem_mem _
  ·rw [List.getD_eq_getElem?_getD,List.getElem?_eq_getElem (by omega)]
   exact List.getElem_mem _
 have row:∀ i k,i<n->mv p (ent M) (i+1) k=((M.eraseIdx p).getD i []).getD k 0:=fun i k hi=>by
  unfold mv ent
  rw [if_neg (by omega),tH]
  by_cases h:i<p
  ·rw [if_pos (by omega),if_pos h]
   rfl
  ·rw [if_neg (by omega),if_neg h]
 rw [e1]
 refine (Cg.refl _).mul ?_
 refine (vD (B:=fun i k=>if i=0 then top.getD k 0 else mv p (ent M) i k) fun i k hi hk=>?_).trans ?_
 ·by_cases h0:i=0
  ·subst h0
   rw [if_pos rfl]
   exact (htop k hk).symm
  ·rw [if_neg h0]
   exact Cg.refl _
 ·refine (Ge (t:=fun i=>t ((M.eraseIdx p).getD i [])) fun i hi=>?_).trans ?_
  ·rw [if_neg (by omega),if_pos rfl,row i 0 hi]
   have h1:=ht _ (mem i hi)
   have h2:=(h1.mul (Cg.refl (top.getD 0 0))).trans (b:=((M.eraseIdx p).getD i []).getD 0 0*back*top.getD 0 0) (d:=((M.eraseIdx p).getD i []).getD 0 0*1) (by
    rw [Int.mul_assoc,Int.mul_comm back]
    exact (Cg.refl _).mul hb)
   rw [Int.mul_one] at h2
   exact h2.symm
  ·rw [if_pos rfl]
   refine (Cg.refl _).mul ?_
   rw [bQ (B:=ent ((M.eraseIdx p).map low)) fun i k hi hk=>?_]
   ·exact Cg.refl _
   ·rw [if_neg (by omega),if_pos rfl,row i (k+1) hi]
    unfold ent
    rw [Js (by rw [List.length_eraseIdx];split <;> omega),hlow _ (mem i hi) k hk]
theorem Pd {M:List (List Int)}(h:∀ r∈M,m∣r.getD 0 0)(hM:M.length=n+1):Cg m (det (n+1) (ent M)) 0:=by
 rw [<- Le (n:=n) (A:=fun i k=>if k=0 then 0 else ent M i k) fun i _=>if_pos rfl]
 refine vD fun i k hi hk=>?_
 by_cases hk0:k=0
 ·subst hk0
  rw [if_pos rfl]
  unfold Cg ent
  rw [Int.sub_zero]
  refine h _ ?_
  rw [List.getD_eq_getElem?_getD,List.getElem?_eq_getElem (by omega)]
  exact List.getElem_mem _
 ·rw [if_neg hk0]
  exact Cg.refl _
theorem Jy:∀ {r:List Int} {n:Nat},r.length=n->(((r.map fun x=>if x<0 then -x else x).sum:Int))=((sN n fun k=>(r.getD k 0).natAbs:Nat):Int):=by
 intro r
 induction r with
 | nil=>intro n h;subst h;rfl
 | cons x r ih =>
  intro n h
  subst h
  have key:∀ (n:Nat) (f:Nat->Nat),sN (n+1) f=f 0+sN n fun k=>f (k+1):=fun n=>by
   induction n with
   | zero=>intro f;show 0+f 0=f 0+0;omega
   | succ n ih2 =>
    intro f
    show sN (n+1) f+f (n+1)=f 0+(sN n (fun k=>f (k+1))+f (n+1))
    rw [ih2]
    omega
  rw [List.map_cons,List.sum_cons,ih rfl,List.length_cons,key]
  show (if x<0 then -x else x)+_=(((x.natAbs+sN r.length fun k=>(r.getD k 0).natAbs:Nat)):Int)
  rw [Int.natCast_add]
  congr 1
  split <;> omega
end
end Dt
namespace Wd
def Mj (t:W)(n i:Nat):W:=(List.range n).map fun k=>t.getD ((i+k) % t.length) 0
def rH (t:W)(n:Nat):List W:=(List.range (t.length+1-n)).map (Mj t n)
end Wd
namespace Wd
theorem vM:∀ {xs ys:List W},xs.Perm ys->xs.Pairwise (fun a b=>¬ b<a)->ys.Pairwise (fun a b=>¬ b<a)->xs=ys:=by
 intro xs ys h h1 h2
 refine List.Perm.eq_of_pairwise ?_ h1 h2 h
 intro a b _ _ z1 z2
 exact Std.Trichotomous.trichotomous a b z2 z1
end Wd
namespace Hg
variable {bg en:List Nat->List Nat}
inductive Rch (bg en:List Nat->List Nat)(ms:List (List Nat))(p:List Nat):List Nat->Prop
 | self:Rch bg en ms p p
 | fw {w:List Nat}:w∈ms->Rch bg en ms p (bg w)->Rch bg en ms p (en w)
 | bw {w:List Nat}:w∈ms->Rch bg en ms p (en w)->Rch bg en ms p (bg w)
def Cl (bg en:List Nat->List Nat)(ls:List (List Nat))(w:List Nat):Prop:=bg w∈ls↔en w∈ls
def Mv (ls:List (List Nat))(t:List Nat):List (List Nat):=if t∈ls then ls else ls++[t]
set_option genInjectivity false in
structure Pass (bg en:List Nat->List Nat)(ms:List (List Nat))(p:List Nat)(fs:List (List Nat))(i:Nat)(ls:List (List Nat)):Prop where
 nd:ls.Nodup
 pre:fs <+: ls
 rch:∀ z∈ls,Rch bg en ms p z
 cl:ls.length=fs.length->∀ w∈ms.take i,Cl bg en fs w
theorem tN {α:Type}[BEq α][LawfulBEq α]:∀ {ls ms:List α},ls.Nodup->(∀ z∈ls,z∈ms)->ls.length<=ms.length
 | [],_,_,_=>Nat.zero_le _
 | a::ls,ms,h,hs=>by
  rw [List.nodup_cons] at h
  have ha:=hs a (List.mem_cons_self ..)
  have ih:=tN (ls:=ls) (ms:=ms.erase a) h.2 fun z hz=>(List.mem_erase_of_ne (fun e:z=a=>h.1 (e▸hz))).mpr (hs z (List.mem_cons_of_mem _ hz))
  have:=List.length_erase_of_mem ha
  have:=List.length_pos_of_mem ha
  rw [List.length_cons]
  omega
end Hg
namespace Dt
def cX (N:Nat):Prop:=1<N∧∀ x,0<x->x<N->Nat.gcd x N=1
section
variable {N F b d e n:Nat}
def pm (N:Nat):Nat->Nat->Nat->Nat
 | 0,_,_=>1 % N
 | f+1,b,e=>if e=0 then 1 % N else if e % 2=1 then b*pm N f (b*b % N) (e/2) % N else pm N f (b*b % N) (e/2)
theorem xF (N b e:Nat):(b*b % N) ^ e % N=b ^ (2*e) % N:=by
 rw [<- Nat.pow_mod,Nat.pow_mul,Nat.pow_two]
theorem An:∀ (f b e:Nat),e<2 ^ f->pm N f b e=b ^ e % N
 | 0,b,e,h=>by
  obtain rfl:e=0:=by simpa using h
  rfl
 | f+1,b,e,h=>by
  unfold pm
  by_cases h0:e=0
  ·rw [if_pos h0,h0,Nat.pow_zero]
  ·rw [if_neg h0]
   have ih:=An f (b*b % N) (e/2) (by rw [Nat.pow_succ] at h;omega)
   by_cases h1:e % 2=1
   ·rw [if_pos h1,ih,Nat.mul_mod,Nat.mod_mod,xF,<- Nat.mul_mod,Nat.mul_comm,<- Nat.pow_succ]
    congr 2
    omega
   ·rw [if_neg h1,ih,xF]
    congr 2
    omega
theorem Id {b d:Nat}(hd:1<d){x y:Nat}(hx:b ^ x % d=1)(hy:b ^ y % d=1):b ^ (y % x) % d=1:=by
 have e:b ^ y=(b ^ x) ^ (y/x)*b ^ (y % x):=by rw [<- Nat.pow_mul,<- Nat.pow_add,Nat.div_add_mod]
 rw [e,Nat.mul_mod,Nat.pow_mod,hx,Nat.one_pow,Nat.mod_eq_of_lt hd,Nat.one_mul,Nat.mod_mod] at hy
 exact hy
theorem Ih {b d:Nat}(hd:1<d):∀ (x y:Nat),b ^ x % d=1->b ^ y % d=1->b ^ (Nat.gcd x y) % d=1:=fun x y=>by
 induction x,y using Nat.gcd.induction with
 | H0 y=>intro _ h;rw [Nat.gcd_zero_left];exact h
 | H1 x y hx ih =>
  intro h1 h2
  rw [Nat.gcd_rec]
  exact ih (Id hd h1 h2) h1
theorem nN (rs:List Nat)(hN:1<N)(hF:N<=F*F)(h1:b ^ F % N=1)(h2:∀ r∈rs,Nat.gcd (b ^ (F/r) % N+(N-1)) N=1)(h3:∀ g,g∣F->g<F->∃ r∈rs,g∣F/r):cX N:=by
 have key:∀ d,d∣N->1<d->F<d:=fun d hdN hd=>by
  have hdF:b ^ F % d=1:=by
   have:=Nat.mod_mod_of_dvd (b ^ F) hdN
   rw [h1,Nat.mod_eq_of_lt hd] at this
   exact this.symm
  have no:∀ e,0<e->e<F->b ^ e % d≠1:=fun e he heF hc=>by
   have hg:=Ih hd e F hc hdF
   have hgF:=Nat.gcd_dvd_right e F
   have hge:Nat.gcd e F<=e:=Nat.gcd_le_left F he
   obtain ⟨r,hr,hgr⟩:=h3 _ hgF (by omega)
   obtain ⟨q,hq⟩:=hgr
   have hFr:b ^ (F/r) % d=1:=by rw [hq,Nat.pow_mul,Nat.pow_mod,hg,Nat.one_pow,Nat.mod_eq_of_lt hd]
   have hdd:d∣b ^ (F/r) % N+(N-1):=by
    have e1:b ^ (F/r) % N % d=1:=by rw [Nat.mod_mod_of_dvd _ hdN];exact hFr
    refine Nat.dvd_of_mod_eq_zero ?_
    have e2:(b ^ (F/r) % N+(N-1)) % d=(1+(N-1)) % d:=by rw [Nat.add_mod,e1,Nat.add_mod_mod]
    rw [e2,show 1+(N-1)=N by omega]
    exact Nat.mod_eq_zero_of_dvd hdN
   have:=Nat.dvd_gcd hdd hdN
   rw [h2 r hr] at this
   have:=Nat.le_of_dvd (by omega) this
   omega
  have inj:((List.range F).map fun i=>b ^ i % d).Nodup:=by
   refine List.pairwise_map.mpr (List.Pairwise.imp_of_mem (fun {i j} hi hj hij he=>?_) List.pairwise_lt_range)
   have hj:j<F:=List.mem_range.mp hj
   refine no (j-i) (by omega) (by omega) ?_
   have a1:b ^ (F-i)*b ^ i % d=1:=by rw [<- Nat.pow_add,Nat.sub_add_cancel (by omega)];exact hdF
   have a2:b ^ (F-i)*b ^ j % d=b ^ (j-i) % d:=by
    rw [<- Nat.pow_add,show F-i+j=F+(j-i) by omega,Nat.pow_add,Nat.mul_mod,hdF,Nat.one_mul,Nat.mod_mod]
   rw [<- a2,Nat.mul_mod,<- he,<- Nat.mul_mod]
   exact a1
  have sub:∀ z∈(List.range F).map (fun i=>b ^ i % d),z∈List.range' 1 (d-1):=fun z hz=>by
   obtain ⟨i,hi,rfl⟩:=List.mem_map.mp hz
   have hi:i<F:=List.mem_range.mp hi
   rw [List.mem_range'_1]
   have hlt:=Nat.mod_lt (b ^ i) (show d>0 by omega)
   have hnz:b ^ i % d≠0:=fun z=>by
    have a1:b ^ (F-i)*b ^ i % d=1:=by rw [<- Nat.pow_add,Nat.sub_add_cancel (by omega)];exact hdF
    rw [Nat.mul_mod,z,Nat.mul_zero,Nat.zero_mod] at a1
    cases a1
   omega
  have:=Hg.tN inj sub
  rw [List.length_map,List.length_range,List.length_range'] at this
  omega
 refine ⟨hN,fun x h0 hx=>?_⟩
 refine Classical.byContradiction fun hg=>?_
 have hgN:=Nat.gcd_dvd_right x N
 have hgx:Nat.gcd x N<=x:=Nat.gcd_le_left N h0
 have hgp:0<Nat.gcd x N:=Nat.gcd_pos_of_pos_left N h0
 obtain ⟨c,hc⟩:=hgN
 have k1:=key _ (Nat.gcd_dvd_right x N) (by omega)
 have hc1:1<c:=by
  rcases Nat.lt_or_ge 1 c with z | z
  ·exact z
  ·have:Nat.gcd x N*c<=Nat.gcd x N*1:=Nat.mul_le_mul_left _ z
   omega
 have k2:=key c ⟨_,by rw [Nat.mul_comm];exact hc⟩ hc1
 have:=Nat.mul_lt_mul'' k1 k2
 omega
theorem Ea {k g:Nat}(h:g∣2 ^ (k+1))(hl:g<2 ^ (k+1)):g∣2 ^ (k+1)/2:=by
 obtain ⟨c,hc⟩:=h
 have hc2:c % 2=0:=by
  refine Classical.byContradiction fun z=>?_
  have hco:Nat.Coprime c 2:=by
   show Nat.gcd c 2=1
   rw [Nat.gcd_comm,Nat.gcd_rec,show c % 2=1 by omega]
   rfl
  have h1:=Nat.Coprime.pow_right (k+1) hco
  have h2:c∣2 ^ (k+1):=⟨g,by rw [hc,Nat.mul_comm]⟩
  have h3:=Nat.Coprime.eq_one_of_dvd h1 h2
  rw [h3,Nat.mul_one] at hc
  omega
 refine ⟨c/2,?_⟩
 rw [hc]
 have:c=2*(c/2):=by omega
 rw [Nat.mul_div_assoc _ (Nat.dvd_of_mod_eq_zero hc2)]
theorem oV (h k:Nat)(hh:h<2 ^ (k+1))(h0:0<h)(hp:pm (h*2 ^ (k+1)+1) (k+1+k+1) 3 (h*2 ^ k)=h*2 ^ (k+1)):cX (h*2 ^ (k+1)+1):=by
 have hpos:0<2 ^ k:=Nat.pow_pos (by decide)
 have hs:2 ^ (k+1)=2*2 ^ k:=by rw [Nat.pow_succ,Nat.mul_comm]
 have hN:1<h*2 ^ (k+1)+1:=by have:=Nat.mul_pos h0 (Nat.pow_pos (n:=k+1) (show 0<2 by decide));omega
 have hlt:h*2 ^ k<2 ^ (k+1+k+1):=by
  have:=Nat.mul_lt_mul_of_lt_of_le hh (Nat.le_refl (2 ^ k)) hpos
  rw [<- Nat.pow_add] at this
  exact Nat.lt_trans this (Nat.pow_lt_pow_right (by decide) (by omega))
 rw [An _ _ _ hlt] at hp
 refine nN (F:=2 ^ (k+1)) (b:=3 ^ h) [2] hN ?_ ?_ ?_ fun g hg hl=>⟨2,by simp,Ea hg hl⟩
 ·have:=Nat.mul_le_mul_right (2 ^ (k+1)) (show h+1<=2 ^ (k+1) from hh)
  rw [Nat.add_mul] at this
  have:=Nat.pow_pos (n:=k+1) (show 0<2 by decide)
  omega
 ·have e3:3 ^ (h*2 ^ (k+1))=3 ^ (h*2 ^ k)*3 ^ (h*2 ^ k):=by
   rw [hs,show h*(2*2 ^ k)=h*2 ^ k*2 by rw [Nat.mul_comm 2,Nat.mul_assoc],Nat.pow_mul,Nat.pow_two]
  rw [<- Nat.pow_mul,e3,Nat.mul_mod,hp]
  have e:∀ x:Nat,0<x->x*x % (x+1)=1:=fun x hx=>by
   rw [show x*x=1+(x+1)*(x-1) by
    have:x*x=(x-1+1)*x:=by rw [Nat.sub_add_cancel hx]
    have h2:(x+1)*(x-1)=x*(x-1)+(x-1):=by rw [Nat.add_mul,Nat.one_mul]
    have h3:x*x=x*(x-1)+x:=by
     have:x*x=x*(x-1+1):=by rw [Nat.sub_add_cancel hx]
     rw [this,Nat.mul_add,Nat.mul_one]
    omega,Nat.add_mul_mod_self_left,Nat.mod_eq_of_lt (by omega)]
  exact e _ (Nat.mul_pos h0 (Nat.pow_pos (by decide)))
 ·intro r hr
  obtain rfl:=List.mem_singleton.mp hr
  rw [<- Nat.pow_mul,hs,Nat.mul_div_cancel_left _ (by decide),<- hs,hp,Nat.add_sub_cancel]
  have e:∀ x:Nat,x % 2=0->Nat.gcd (x+x) (x+1)=1:=fun x hx=>by
   have:Nat.gcd (x+x) (x+1)∣2:=by
    have a1:=Nat.gcd_dvd_left (x+x) (x+1)
    have a2:=Nat.gcd_dvd_right (x+x) (x+1)
    have a3:=Nat.dvd_sub (Nat.dvd_mul_left_of_dvd a2 2) a1
    rw [show 2*(x+1)-(x+x)=2 by omega] at a3
    exact a3
   have hle:=Nat.le_of_dvd (by decide) this
   have hpos:=Nat.gcd_pos_of_pos_right (x+x) (show 0<x+1 by omega)
   rcases Nat.lt_or_ge (Nat.gcd (x+x) (x+1)) 2 with z | z
   ·omega
   ·have e2:Nat.gcd (x+x) (x+1)=2:=by omega
    have a2:=Nat.gcd_dvd_right (x+x) (x+1)
    rw [e2] at a2
    omega
  refine e _ ?_
  rw [hs,<- Nat.mul_assoc,Nat.mul_comm h 2,Nat.mul_assoc]
  exact Nat.mul_mod_right ..
theorem Nu:cX (133*2 ^ 192+1):=oV 133 191 (by decide +kernel) (by decide) (by decide +kernel)
end
end Dt
namespace Dt
section
variable {N F b d e n:Nat}
def yH (N:Nat):Bool:=decide (1<N)&&(List.range N).all fun x=>x==0||Nat.gcd x N==1
theorem Br (h:yH N=true):cX N:=by
 unfold yH at h
 rw [Bool.and_eq_true,decide_eq_true_iff,List.all_eq_true] at h
 refine ⟨h.1,fun x h0 hx=>?_⟩
 have:=h.2 x (List.mem_range.mpr hx)
 rw [Bool.or_eq_true,beq_iff_eq,beq_iff_eq] at this
 omega
theorem cX.cop {r c:Nat}(h:cX r)(hc:¬ r∣c):Nat.Coprime c r:=by
 show Nat.gcd c r=1
 rw [Nat.gcd_comm,Nat.gcd_rec]
 have h1:=h.1
 exact h.2 (c % r) (Nat.pos_of_ne_zero fun z=>hc (Nat.dvd_of_mod_eq_zero z)) (Nat.mod_lt _ (by omega))
theorem wG:∀ (rs:List Nat),(∀ r∈rs,cX r)->∀ c,c∣rs.prod->c≠1->∃ r∈rs,r∣c
 | [],_,c,h,h1=>absurd (Nat.eq_one_of_dvd_one h) h1
 | r::rs,hp,c,h,h1=>by
  by_cases hr:r∣c
  ·exact ⟨r,by simp,hr⟩
  ·rw [List.prod_cons] at h
   obtain ⟨r',h2,h3⟩:=wG rs (fun x hx=>hp x (List.mem_cons_of_mem _ hx)) c (Nat.Coprime.dvd_of_dvd_mul_left ((hp r (by simp)).cop hr) h) h1
   exact ⟨r',List.mem_cons_of_mem _ h2,h3⟩
theorem Qy:cX 2305843009213693951:=by
 have ps:∀ r∈[61,151,331,1321],cX r:=fun r hr=>Br (by
  have:∀ r∈[61,151,331,1321],yH r=true:=by decide +kernel
  exact this r hr)
 refine nN (F:=4027518961) (b:=429339995019680672) [61,151,331,1321] (by decide) (by decide) ?_ ?_ fun g hg hl=>?_
 ·rw [<- An 32 _ _ (by decide)]
  decide +kernel
 ·intro r hr
  have key:∀ r∈[61,151,331,1321],Nat.gcd (pm 2305843009213693951 32 429339995019680672 (4027518961/r)+(2305843009213693951-1)) 2305843009213693951=1:=by decide +kernel
  rw [<- An 32 _ _ (Nat.lt_of_le_of_lt (Nat.div_le_self _ _) (by decide))]
  exact key r hr
 ·obtain ⟨c,hc⟩:=hg
  have hF:([61,151,331,1321]:List Nat).prod=4027518961:=by decide
  obtain ⟨r,hr,q,rfl⟩:=wG _ ps c (by rw [hF];exact ⟨g,by rw [hc,Nat.mul_comm]⟩) fun z=>by rw [z,Nat.mul_one] at hc;omega
  have h0:=(ps r hr).1
  refine ⟨r,hr,q,?_⟩
  rw [hc,show g*(r*q)=r*(g*q) by rw [<- Nat.mul_assoc,Nat.mul_comm g r,Nat.mul_assoc],Nat.mul_div_cancel_left _ (by omega)]
theorem Pu:cX (211*2 ^ 192+1):=oV 211 191 (by decide +kernel) (by decide) (by decide +kernel)
theorem Pa:cX (598*2 ^ 192+1):=oV 598 191 (by decide +kernel) (by decide) (by decide +kernel)
theorem Pi:cX (652*2 ^ 192+1):=oV 652 191 (by decide +kernel) (by decide) (by decide +kernel)
theorem Pk:cX (721*2 ^ 192+1):=oV 721 191 (by decide +kernel) (by decide) (by decide +kernel)
theorem Oj:cX (850*2 ^ 192+1):=oV 850 191 (by decide +kernel) (by decide) (by decide +kernel)
theorem Nd:cX (1282*2 ^ 192+1):=oV 1282 191 (by decide +kernel) (by decide) (by decide +kernel)
set_option genInjectivity false in
structure Euc (pr:Nat)(num:Int)(last rest:Nat)(lt t:Int):Prop where
 pos:1<=rest
 lp:1<=last
 cop:Nat.gcd rest last=1
 ct:Cg pr (t*num) rest
 cl:Cg pr (lt*num) last
 bd:t.natAbs*last+lt.natAbs*rest<=pr
theorem Euc.init {pr:Nat}{num:Int}{r:Nat}(h:cX pr)(hr:num % pr=r)(h0:r≠0):Euc pr num pr r 0 1:=by
 have h1:=h.1
 have hlt:(r:Int)<pr:=by rw [<- hr];exact Int.emod_lt_of_pos _ (by omega)
 refine ⟨by omega,by omega,h.2 r (by omega) (by omega),?_,?_,by simp⟩
 ·rw [Int.one_mul,<- hr]
  exact (nF num).symm
 ·rw [Int.zero_mul]
  unfold Cg
  rw [Int.zero_sub]
  exact Int.dvd_neg.mpr (Int.dvd_refl _)
theorem Euc.step {pr:Nat}{num:Int}{last rest:Nat}{lt t:Int}(h:Euc pr num last rest lt t)(h1:rest≠1):Euc pr num rest (last % rest) t (lt-(last/rest:Nat)*t):=by
 have hp:=h.pos
 have hd:=Nat.div_add_mod last rest
 have hd2:((last:Nat):Int)=rest*(last/rest:Nat)+(last % rest:Nat):=by exact_mod_cast hd.symm
 refine ⟨?_,hp,?_,?_,h.ct,?_⟩
 ·refine Nat.pos_of_ne_zero fun z=>h1 ?_
  have:=h.cop
  rw [Nat.gcd_eq_left (Nat.dvd_of_mod_eq_zero z)] at this
  exact this
 ·rw [<- Nat.gcd_rec]
  exact h.cop
 ·have e:(lt-(last/rest:Nat)*t)*num=lt*num-(last/rest:Nat)*(t*num):=by rw [Int.sub_mul,Int.mul_assoc]
  rw [e,show ((last % rest:Nat):Int)=(last:Int)-(last/rest:Nat)*(rest:Int) by rw [hd2,Int.mul_comm];omega]
  exact h.cl.sub ((Cg.refl _).mul h.ct)
 ·have hb:=h.bd
  have a1:(lt-(last/rest:Nat)*t).natAbs<=lt.natAbs+(last/rest)*t.natAbs:=by
   have:=Int.natAbs_sub_le lt ((last/rest:Nat)*t)
   rw [Int.natAbs_mul,Int.natAbs_natCast] at this
   exact this
  have a2:=Nat.mul_le_mul_right rest a1
  rw [Nat.add_mul] at a2
  have a3:t.natAbs*last=(last/rest)*t.natAbs*rest+t.natAbs*(last % rest):=by
   conv=>lhs;rw [<- hd,Nat.mul_add,<- Nat.mul_assoc,Nat.mul_comm t.natAbs rest,Nat.mul_assoc,Nat.mul_comm rest]
   rw [Nat.mul_comm t.natAbs]
  omega
theorem Euc.tle {pr:Nat}{num:Int}{last rest:Nat}{lt t:Int}(h:Euc pr num last rest lt t):t.natAbs<=pr∧lt.natAbs<=pr:=by
 have hb:=h.bd
 have h1:=Nat.mul_le_mul_left t.natAbs h.lp
 have h2:=Nat.mul_le_mul_left lt.natAbs h.pos
 omega
theorem Euc.fin {pr:Nat}{num:Int}{last rest:Nat}{lt t:Int}(h:Euc pr num last rest lt t)(h1:rest=1):Cg pr (t % pr*num) 1:=by
 have:=h.ct
 rw [h1] at this
 exact ((nF t).mul (Cg.refl num)).trans this
theorem crt {M1 pr:Nat}{D res r2 inv:Int}(hM:0<M1)(hp:0<pr)(h1:Cg M1 res D)(h2:Cg pr r2 D)(hi:Cg pr (inv*M1) 1)(h0:0<=res∧res<M1):Cg (M1*pr:Nat) (res+(r2-res)*inv % pr*M1) D∧0<=res+(r2-res)*inv % pr*M1∧res+(r2-res)*inv % pr*M1<(M1*pr:Nat):=by
 have e0:=Int.emod_nonneg ((r2-res)*inv) (show (pr:Int)≠0 by omega)
 have e1:=Int.emod_lt_of_pos ((r2-res)*inv) (show (0:Int)<pr by omega)
 have hc:=nF (m:=pr) ((r2-res)*inv)
 generalize (r2-res)*inv % pr=q at e0 e1 hc
 refine ⟨?_,?_,?_⟩
 ·have a1:Cg M1 (res+q*M1) D:=by
   have:Cg M1 (q*M1) 0:=by
    unfold Cg
    rw [Int.sub_zero]
    exact Int.dvd_mul_left ..
   have:=h1.add this
   rwa [Int.add_zero] at this
  have a2:Cg pr (res+q*M1) D:=by
   have b1:Cg pr (q*M1) (r2-res):=by
    refine (hc.mul (Cg.refl (M1:Int))).trans ?_
    rw [Int.mul_assoc]
    have:=(Cg.refl (m:=pr) (r2-res)).mul hi
    rwa [Int.mul_one] at this
   have:=(Cg.refl (m:=pr) res).add b1
   rw [show res+(r2-res)=r2 by omega] at this
   exact this.trans h2
  unfold Cg at a1 a2 hi ⊢
  obtain ⟨x,hx⟩:=a1
  rw [hx] at a2 ⊢
  have a3:(pr:Int)∣x:=by
   have c1:(pr:Int)∣inv*(M1*x):=Int.dvd_mul_of_dvd_right a2
   have c2:(pr:Int)∣(inv*M1-1)*x:=Int.dvd_mul_of_dvd_left hi
   have:=Int.dvd_sub c1 c2
   rw [show inv*(M1*x)-(inv*M1-1)*x=x by rw [Int.sub_mul,Int.mul_assoc];omega] at this
   exact this
  obtain ⟨y,rfl⟩:=a3
  refine ⟨y,?_⟩
  rw [<- Int.mul_assoc,Int.natCast_mul]
 ·have:=Int.mul_nonneg e0 (show (0:Int)<=M1 by omega)
  omega
 ·have a:=Int.mul_le_mul_of_nonneg_right (show q<=(pr:Int)-1 by omega) (show (0:Int)<=M1 by omega)
  rw [Int.sub_mul,Int.one_mul] at a
  rw [Int.natCast_mul,Int.mul_comm (M1:Int)]
  omega
theorem Cz {M:Nat}{D res bd:Int}(hm:2*bd<M)(hD : -bd<=D∧D<=bd)(h:Cg M res D)(h0:0<=res∧res<M):(if bd<res then res-M else res)=D:=by
 obtain ⟨k,hk⟩:=h
 have k0:k=0∨k=1:=by
  rcases Int.lt_or_le k 0 with z | z
  ·have:=Int.mul_le_mul_of_nonneg_left (show k<=-1 by omega) (show (0:Int)<=M by omega)
   omega
  ·rcases Int.lt_or_le 1 k with y | y
   ·have:=Int.mul_le_mul_of_nonneg_left (show 2<=k by omega) (show (0:Int)<=M by omega)
    omega
   ·omega
 rcases k0 with rfl | rfl
 ·rw [Int.mul_zero] at hk
  rw [if_neg (by omega)]
  omega
 ·rw [Int.mul_one] at hk
  rw [if_pos (by omega)]
  omega
end
end Dt
namespace Dt
theorem Dg {pr p:Nat}{rest top0 inv dN dM D:Int}(hr:0<rest∧rest<pr)(hi:Cg pr (inv*top0) 1)(hE:Cg pr dN (sg p*(top0*dM)))(hD:Cg pr (rest*dN) D) :
  (0<(if p % 2=1 then (pr:Int)-rest*top0 % pr else rest*top0 % pr)∧(if p % 2=1 then (pr:Int)-rest*top0 % pr else rest*top0 % pr)<pr)∧Cg pr ((if p % 2=1 then (pr:Int)-rest*top0 % pr else rest*top0 % pr)*dM) D:=by
 have h0:=Int.emod_nonneg (rest*top0) (show (pr:Int)≠0 by omega)
 have h1:=Int.emod_lt_of_pos (rest*top0) (show (0:Int)<pr by omega)
 have hc:=nF (m:=pr) (rest*top0)
 have hnz:rest*top0 % pr≠0:=fun z=>by
  rw [z] at hc
  have a1:=(hc.mul (Cg.refl (m:=pr) inv))
  rw [Int.zero_mul,Int.mul_assoc,Int.mul_comm top0] at a1
  have a2:=(Cg.refl (m:=pr) rest).mul hi
  rw [Int.mul_one] at a2
  have a3:=a1.trans a2
  unfold Cg at a3
  rw [Int.zero_sub] at a3
  have:=Int.le_of_dvd hr.1 (Int.dvd_neg.mp a3)
  omega
 generalize rest*top0 % pr=x at h0 h1 hc hnz
 have key:Cg pr (x*dM) (rest*(top0*dM)):=by
  rw [<- Int.mul_assoc]
  exact hc.mul (Cg.refl _)
 have hE2:=((Cg.refl (m:=pr) rest).mul hE).symm.trans hD
 by_cases hp:p % 2=1
 ·rw [if_pos hp]
  have hs:sg p = -1:=by unfold sg;rw [if_neg (by omega)]
  rw [hs] at hE2
  refine ⟨⟨by omega,by omega⟩,?_⟩
  have a1:Cg pr (((pr:Int)-x)*dM) (-(x*dM)):=by
   unfold Cg
   rw [Int.sub_mul,show (pr:Int)*dM-x*dM - -(x*dM)=pr*dM by omega]
   exact Int.dvd_mul_right ..
  refine a1.trans (key.neg.trans ?_)
  rw [show -(rest*(top0*dM))=rest*(-1*(top0*dM)) by rw [Int.neg_mul,Int.one_mul,Int.mul_neg]]
  exact hE2
 ·rw [if_neg hp]
  have hs:sg p=1:=by unfold sg;rw [if_pos (by omega)]
  rw [hs,Int.one_mul] at hE2
  exact ⟨⟨by omega,h1⟩,key.trans hE2⟩
end Dt
namespace Dt
def pL:List Nat->Nat
 | []=>1
 | x::l=>x*pL l
theorem Ax (x:Nat):∀ l:List Nat,pL (l++[x])=pL l*x
 | []=>by show x*1=1*x;omega
 | y::l=>by
  show y*pL (l++[x])=y*pL l*x
  rw [Ax x l,Nat.mul_assoc]
theorem Ft {R:Nat}:∀ {l:List Nat},(∀ x∈l,x<=R)->pL l<=R ^ l.length
 | [],_=>Nat.le_refl _
 | y::l,h=>by
  show y*pL l<=R ^ (l.length+1)
  rw [Nat.pow_succ,Nat.mul_comm]
  exact Nat.mul_le_mul (Ft fun x hx=>h x (List.mem_cons_of_mem _ hx)) (h y (List.mem_cons_self ..))
def rs (n:Nat)(r:List Int):Nat:=sN n fun k=>(r.getD k 0).natAbs
theorem Km (n:Nat):∀ M:List (List Int),pN M.length (fun i=>sN n fun k=>(ent M i k).natAbs)=pL (M.map (rs n))
 | []=>rfl
 | r::M=>by
  show (sN n fun k=>(ent (r::M) 0 k).natAbs)*pN M.length (fun i=>sN n fun k=>(ent (r::M) (i+1) k).natAbs)=rs n r*pL (M.map (rs n))
  rw [<- Km n M]
  rfl
theorem Gh {f:Nat->Nat}:∀ {n k:Nat},k<n->f k<=sN n f
 | n+1,k,h=>by
  show f k<=sN n f+f n
  rcases Nat.lt_or_ge k n with z | z
  ·have:=Gh (f:=f) z
   omega
  ·rw [show k=n by omega]
   omega
theorem Mh {n:Nat}{r:List Int}(hl:r.length=n){x:Int}(hx:x∈r):x.natAbs<=rs n r:=by
 obtain ⟨k,hk⟩:=List.getElem?_of_mem hx
 have hkl:=(List.getElem?_eq_some_iff.mp hk).1
 have:=Gh (f:=fun k=>(r.getD k 0).natAbs) (n:=n) (k:=k) (by omega)
 rw [List.getD_eq_getElem?_getD,hk] at this
 exact this
theorem Ln {M:List (List Int)}{n:Nat}(h:M.length=n):(det n (ent M)).natAbs<=pL (M.map (rs n)):=by
 rw [<- Km,h]
 exact sW
def kn:List Nat:=[133,211,598,652,721,850,1282]
def pr (j:Nat):Nat:=kn.getD j 0*2 ^ 192+1
def md:Nat->Nat
 | 0=>2305843009213693951
 | j+1=>md j*pr j
theorem Fx:∀ {j:Nat},j<7->cX (pr j)
 | 0,_=>Nu
 | 1,_=>Pu
 | 2,_=>Pa
 | 3,_=>Pi
 | 4,_=>Pk
 | 5,_=>Oj
 | 6,_=>Nd
 | j+7,h=>by omega
theorem Pf:∀ j,j<7->pr j<2 ^ 250∧md j % pr j≠0∧md j<2 ^ 1600∧md (j+1)<2 ^ 1800:=by decide +kernel
end Dt
namespace Dt
section
variable {n m p q i j k l:Nat}{A B T U:Mx}{f g:Nat->Int}{c:Nat->Int}
theorem vZ (h:i<n):det n (bX A i fun _=>0)=0:=by
 have e:=mH (c:=1) (A:=A) (u:=fun _=>0) (v:=fun _=>0) h
 rw [show (fun k:Nat=>(0:Int)+1*0)=fun _=>0 from rfl] at e
 omega
def pI:Nat->(Nat->Int)->Int
 | 0,_=>1
 | n+1,f=>pI n f*f n
theorem wN:∀ {n:Nat} {f:Nat->Int},pI (n+1) f=f 0*pI n fun i=>f (i+1)
 | 0,f=>by show 1*f 0=f 0*1;omega
 | n+1,f=>by
  show pI (n+1) f*f (n+1)=f 0*(pI n (fun i=>f (i+1))*f (n+1))
  rw [wN (n:=n),Int.mul_assoc]
theorem Fy:∀ {n:Nat} {f:Nat->Int},(∀ i,i<n->f i=1)->pI n f=1
 | 0,_,_=>rfl
 | n+1,f,h=>by
  show pI n f*f n=1
  rw [Fy (n:=n) fun i hi=>h i (by omega),h n (by omega)]
  rfl
theorem rW:∀ {n:Nat} {U:Mx},(∀ i k,k<i->i<n->U i k=0)->det n U=pI n fun i=>U i i
 | 0,_,_=>rfl
 | n+1,U,h=>by
  rw [Nl fun i hi=>h (i+1) 0 (by omega) (by omega),rW (n:=n) fun i k h1 h2=>h (i+1) (k+1) (by omega) (by omega),wN]
end
end Dt
namespace Dt
section
variable {n i j k l m:Nat}{A B:Mx}{f:Nat->Nat}{c:Int}
theorem Fd (hi:i<n)(hj:j<n)(hij:i≠j):det n (bX A i fun k=>A i k+c*A j k)=det n A:=by
 have e:=mH (c:=c) (A:=A) (u:=A i) (v:=A j) hi
 have z:det n (bX A i (A j))=0:=by
  rcases Nat.lt_or_ge i j with h | h
  ·refine oN (j-(i+1)) (i:=i) (A:=bX A i (A j)) (by omega) fun k _=>?_
   rw [kP,show i+1+(j-(i+1))=j by omega,iN (by omega)]
  ·refine oN (i-(j+1)) (i:=j) (A:=bX A i (A j)) (by omega) fun k _=>?_
   rw [iN (by omega),show j+1+(i-(j+1))=i by omega,kP]
 rw [z,hV (A i) fun _=>rfl,Int.mul_zero,Int.add_zero] at e
 exact e
def un (i k:Nat):Int:=if k=i then 1 else 0
def chM (n:Nat)(f:Nat->Nat):Mx:=fun i k=>un i k-if f i<n then un (f i) k else 0
def chS (n:Nat)(f:Nat->Nat)(S:Nat->Bool):Mx:=fun i k=>if S i=true then un i k else chM n f i k
theorem mO {S S':Nat->Bool}{a:Nat}(h:S a=S' a):chS n f S a k=chS n f S' a k:=by
 unfold chS
 rw [h]
theorem Aq {S:Nat->Bool}(hi:i<n)(hS:S i=false)(hf:f i<n->S (f i)=true):det n (chS n f fun a=>S a||a==i)=det n (chS n f S):=by
 by_cases h:f i<n
 ·have hne:i≠f i:=fun z=>by have:=hf h;rw [<- z,hS] at this;cases this
  rw [<- Fd (A:=chS n f S) (i:=i) (j:=f i) (c:=1) hi h hne]
  refine bQ fun a k _ _=>?_
  unfold bX
  try dsimp only
  by_cases ha:a=i
  ·subst ha
   rw [if_pos rfl]
   unfold chS
   try dsimp only
   rw [if_pos (by rw [beq_self_eq_true,Bool.or_true]),if_neg (by rw [hS];exact Bool.false_ne_true),if_pos (hf h)]
   unfold chM
   rw [if_pos h]
   omega
  ·rw [if_neg ha]
   exact mO (by rw [beq_false_of_ne ha,Bool.or_false])
 ·refine bQ fun a k _ _=>?_
  by_cases ha:a=i
  ·subst ha
   unfold chS
   try dsimp only
   rw [if_pos (by rw [beq_self_eq_true,Bool.or_true]),if_neg (by rw [hS];exact Bool.false_ne_true)]
   unfold chM
   rw [if_neg h,Int.sub_zero]
  ·exact mO (by rw [beq_false_of_ne ha,Bool.or_false])
theorem Nb:∀ n:Nat,det n un=1
 | n=>by
  rw [rW (n:=n) fun i k h1 _=>by unfold un;rw [if_neg (by omega)]]
  exact Fy fun i _=>by unfold un;rw [if_pos rfl]
theorem Md {d:Nat->Nat}(hd:∀ i,i<n->f i<n->d (f i)<d i):det n (chM n f)=1:=by
 have key:∀ m l,l<=n->det n (chS n f fun a=>decide (d a<m)||(decide (d a=m)&&decide (a<l)))=det n (chM n f):=fun m=>by
  induction m with
  | zero =>
   intro l
   induction l with
   | zero =>
    intro _
    refine bQ fun a k _ _=>?_
    unfold chS
    try dsimp only
    rw [if_neg (by simp)]
   | succ l ih =>
    intro hl
    rw [<- ih (by omega)]
    by_cases h:d l=0
    ·have:=Aq (n:=n) (f:=f) (i:=l) (S:=fun a=>decide (d a<0)||(decide (d a=0)&&decide (a<l))) (by omega) (by simp) (fun hf=>by have:=hd l (by omega) hf;omega)
     rw [<- this]
     congr 2
     funext a
     by_cases ha:a=l
     ·subst ha
      simp [h]
     ·have e:decide (a<l+1)=decide (a<l):=by rw [decide_eq_decide];omega
      rw [e,beq_false_of_ne ha,Bool.or_false]
    ·congr 2
     funext a
     by_cases ha:a=l
     ·subst ha
      simp [h]
     ·have e:decide (a<l+1)=decide (a<l):=by rw [decide_eq_decide];omega
      rw [e]
  | succ m ihm =>
   intro l
   induction l with
   | zero =>
    intro _
    rw [<- ihm n (Nat.le_refl n)]
    refine bQ fun a k ha _=>?_
    have e:(decide (d a<m+1)||(decide (d a=m+1)&&decide (a<0)))=(decide (d a<m)||(decide (d a=m)&&decide (a<n))):=by
     rw [decide_eq_false (show ¬ a<0 by omega),decide_eq_true ha,Bool.and_false,Bool.or_false,Bool.and_true,Bool.eq_iff_iff,Bool.or_eq_true,decide_eq_true_iff,decide_eq_true_iff,decide_eq_true_iff]
     omega
    exact mO e
   | succ l ih =>
    intro hl
    rw [<- ih (by omega)]
    by_cases h:d l=m+1
    ·have:=Aq (n:=n) (f:=f) (i:=l) (S:=fun a=>decide (d a<m+1)||(decide (d a=m+1)&&decide (a<l))) (by omega) (by simp [h]) (fun hf=>by
      have:=hd l (by omega) hf
      have:d (f l)<m+1:=by omega
      simp [this])
     rw [<- this]
     congr 2
     funext a
     by_cases ha:a=l
     ·subst ha
      simp [h]
     ·have e:decide (a<l+1)=decide (a<l):=by rw [decide_eq_decide];omega
      rw [e,beq_false_of_ne ha,Bool.or_false]
    ·congr 2
     funext a
     by_cases ha:a=l
     ·subst ha
      simp [h]
     ·have e:decide (a<l+1)=decide (a<l):=by rw [decide_eq_decide];omega
      rw [e]
 obtain ⟨m,hm⟩:∃ m,∀ i,i<n->d i<m:=by
  have:∀ N,∃ m,∀ i,i<N->d i<m:=fun N=>by
   induction N with
   | zero=>exact ⟨0,fun i h=>by omega⟩
   | succ N ih =>
    obtain ⟨m,hm⟩:=ih
    refine ⟨m+d N+1,fun i h=>?_⟩
    rcases Nat.lt_or_ge i N with z | z
    ·have:=hm i z
     omega
    ·rw [show i=N by omega]
     omega
  exact this n
 rw [<- key m 0 (Nat.zero_le _),<- Nb n]
 refine bQ fun a k ha _=>?_
 unfold chS
 try dsimp only
 rw [if_pos (by simp [hm a ha])]
def itf (f:Nat->Nat):Nat->Nat->Nat
 | 0,i=>i
 | k+1,i=>f (itf f k i)
theorem Ef (hi:i<n)(hl:∀ k,k<=m->itf f (k+1) i<n)(hr:itf f (m+1) i=i)(hne:∀ k,0<k->k<=m->itf f k i≠i):det n (chM n f)=0:=by
 have key:∀ k,k<=m->det n (bX (chM n f) i fun l=>un i l-un (itf f (k+1) i) l)=det n (chM n f):=fun k=>by
  induction k with
  | zero =>
   intro _
   refine hV _ fun l=>?_
   unfold chM
   have:=hl 0 (Nat.zero_le _)
   rw [if_pos (show f i<n from this)]
   rfl
  | succ k ih =>
   intro hk
   rw [<- ih (by omega)]
   have h1:=hl k (by omega)
   have h2:=hl (k+1) hk
   have h3:=hne (k+1) (by omega) hk
   rw [<- Fd (A:=bX (chM n f) i fun l=>un i l-un (itf f (k+1) i) l) (i:=i) (j:=itf f (k+1) i) (c:=1) hi h1 (fun z=>h3 z.symm)]
   refine bQ fun a l _ _=>?_
   unfold bX
   try dsimp only
   by_cases ha:a=i
   ·subst ha
    rw [if_pos rfl,if_pos rfl,if_pos rfl,if_neg h3]
    unfold chM
    rw [if_pos (show f (itf f (k+1) a)<n from h2)]
    show un a l-un (f (itf f (k+1) a)) l=_
    omega
   ·rw [if_neg ha,if_neg ha,if_neg ha]
 rw [<- key m (Nat.le_refl _),hr,show (fun l=>un i l-un i l)=fun _=>0 by funext l;omega]
 exact vZ hi
end
end Dt
namespace Dt
def rH (n i w:Nat):Nat->Int:=fun k=>un i k-if w<n then un w k else 0
def chA (n:Nat)(Ws:Nat->List Nat)(c:List Nat):Mx:=fun i k=>match c[i]? with
 | some w=>rH n i w k
 | none=>((Ws i).map fun w=>rH n i w k).sum
def Ce (Ws:Nat->List Nat):Nat->List (List Nat)
 | 0=>[[]]
 | m+1=>(Ce Ws m).flatMap fun c=>(Ws m).map fun w=>c++[w]
section
variable {n m i:Nat}{A:Mx}{Ws:Nat->List Nat}{c:List Nat}
theorem qV:∀ {m:Nat} {c:List Nat},c∈Ce Ws m->c.length=m
 | 0,c,h=>by rw [List.mem_singleton.mp h];rfl
 | m+1,c,h=>by
  obtain ⟨c',h1,h2⟩:=List.mem_flatMap.mp h
  obtain ⟨w,_,rfl⟩:=List.mem_map.mp h2
  rw [List.length_append,qV h1]
  rfl
theorem wM {g:Nat->Nat->Int}(hi:i<n):∀ l:List Nat,det n (bX A i fun k=>(l.map fun w=>g w k).sum)=(l.map fun w=>det n (bX A i (g w))).sum
 | []=>vZ hi
 | w::l=>by
  have e:=vH (A:=A) (u:=g w) (v:=fun k=>(l.map fun w=>g w k).sum) hi
  rw [List.map_cons,List.sum_cons,<- wM hi l,<- e]
  rfl
theorem Hq (hm:c.length=m)(h:m<n):det n (chA n Ws c)=((Ws m).map fun w=>det n (chA n Ws (c++[w]))).sum:=by
 have e1:det n (chA n Ws c)=det n (bX (chA n Ws c) m fun k=>((Ws m).map fun w=>rH n m w k).sum):=(hV _ fun k=>by
  show _=match c[m]? with
   | some w=>rH n m w k
   | none=>((Ws m).map fun w=>rH n m w k).sum
  rw [List.getElem?_eq_none (by omega)]).symm
 rw [e1,wM h]
 congr 1
 refine List.map_congr_left fun w _=>bQ fun a k _ _=>?_
 unfold bX chA
 by_cases ha:a=m
 ·subst ha
  rw [if_pos rfl,List.getElem?_append_right (by omega),hm,Nat.sub_self]
  rfl
 ·rw [if_neg ha]
  rcases Nat.lt_or_ge a m with z | z
  ·rw [List.getElem?_append_left (by omega)]
  ·rw [List.getElem?_eq_none (l:=c) (by omega),List.getElem?_eq_none (by rw [List.length_append,List.length_singleton];omega)]
theorem Ab:∀ {m:Nat},m<=n->det n (chA n Ws [])=((Ce Ws m).map fun c=>det n (chA n Ws c)).sum
 | 0,_=>by
  show det n (chA n Ws [])=det n (chA n Ws [])+0
  omega
 | m+1,h=>by
  rw [Ab (m:=m) (by omega)]
  have key:∀ l:List (List Nat),(∀ c∈l,c.length=m)->(l.map fun c=>det n (chA n Ws c)).sum=((l.flatMap fun c=>(Ws m).map fun w=>c++[w]).map fun c=>det n (chA n Ws c)).sum:=fun l=>by
   induction l with
   | nil=>intro _;rfl
   | cons c l ih =>
    intro hl
    rw [List.map_cons,List.sum_cons,List.flatMap_cons,List.map_append,List.sum_append,ih fun c hc=>hl c (List.mem_cons_of_mem _ hc),Hq (hl c (List.mem_cons_self ..)) (by omega),List.map_map]
    rfl
  exact key _ fun c hc=>qV hc
def goF (n:Nat)(c:List Nat)(i:Nat):Nat:=if i<n then c.getD i n else i
def goN (n:Nat)(c:List Nat):Nat->Nat->Nat
 | 0,i=>i
 | k+1,i=>goF n c (goN n c k i)
def nM (n:Nat)(c:List Nat):Prop:=∀ i,i<n->¬ goN n c n i<n
theorem Fv (hc:c.length=n):det n (chA n Ws c)=det n (chM n fun i=>c.getD i n):=bQ fun a k ha _=>by
 unfold chA
 rw [List.getElem?_eq_getElem (show a<c.length by omega)]
 show rH n a c[a] k=rH n a (c.getD a n) k
 rw [show c.getD a n=c[a] by rw [List.getD_eq_getElem?_getD,List.getElem?_eq_getElem (show a<c.length by omega)];rfl]
theorem zW {k:Nat}(h:¬ i<n):goN n c k i=i:=by
 induction k with
 | zero=>rfl
 | succ k ih =>
  show goF n c (goN n c k i)=i
  rw [ih]
  unfold goF
  rw [if_neg h]
theorem kM {k:Nat}:∀ l:Nat,goN n c (l+k) i=goN n c l (goN n c k i)
 | 0=>by rw [Nat.zero_add];rfl
 | l+1=>by
  rw [show l+1+k=(l+k)+1 by omega]
  show goF n c (goN n c (l+k) i)=goF n c (goN n c l (goN n c k i))
  rw [kM l]
theorem Dj {k:Nat}:goN n c (k+1) i=goN n c k (goF n c i):=by
 rw [show k+1=k+1 from rfl,kM k]
 rfl
theorem Dd (h:nM n c):det n (chM n fun i=>c.getD i n)=1:=by
 have ex:∀ i,∃ k,¬ goN n c k i<n:=fun i=>by
  by_cases hi:i<n
  ·exact ⟨n,h i hi⟩
  ·exact ⟨0,hi⟩
 have kY:∀ i,∃ k,¬ goN n c k i<n∧∀ j,j<k->goN n c j i<n:=fun i=>by
  obtain ⟨k,hk⟩:=ex i
  induction k with
  | zero=>exact ⟨0,hk,fun j hj=>by omega⟩
  | succ k ih =>
   by_cases h2:goN n c k i<n
   ·refine ⟨k+1,hk,fun j hj=>?_⟩
    refine Classical.byContradiction fun z=>?_
    have:goN n c (k-j+j) i=goN n c j i:=by rw [kM];exact zW z
    rw [show k-j+j=k by omega] at this
    rw [this] at h2
    exact z h2
   ·exact ih h2
 refine Md (d:=fun i=>Classical.choose (kY i)) fun i hi hf=>?_
 obtain ⟨a1,a2⟩:=Classical.choose_spec (kY i)
 obtain ⟨b1,b2⟩:=Classical.choose_spec (kY (c.getD i n))
 have hg:goF n c i=c.getD i n:=by unfold goF;rw [if_pos hi]
 show Classical.choose (kY (c.getD i n))<Classical.choose (kY i)
 generalize Classical.choose (kY i)=ka at a1 a2 ⊢
 generalize Classical.choose (kY (c.getD i n))=kb at b1 b2 ⊢
 refine Classical.byContradiction fun z=>?_
 cases ka with
 | zero=>exact a1 hi
 | succ ka =>
  rw [Dj,hg] at a1
  exact a1 (b2 ka (by omega))
theorem Cw (h:¬ nM n c):det n (chM n fun i=>c.getD i n)=0:=by
 obtain ⟨i,hi,hn⟩:∃ i,i<n∧goN n c n i<n:=by
  refine Classical.byContradiction fun z=>h fun i hi hn=>z ⟨i,hi,hn⟩
 have lt:∀ k,k<=n->goN n c k i<n:=fun k hk=>by
  refine Classical.byContradiction fun z=>?_
  have:goN n c (n-k+k) i=goN n c k i:=by rw [kM];exact zW z
  rw [show n-k+k=n by omega] at this
  rw [this] at hn
  exact z hn
 obtain ⟨a,b,hab,hb,heq⟩:∃ a b,a<b∧b<=n∧goN n c a i=goN n c b i:=by
  refine Classical.byContradiction fun z=>?_
  have nd:((List.range (n+1)).map fun k=>goN n c k i).Nodup:=by
   refine List.pairwise_map.mpr (List.Pairwise.imp_of_mem (fun {x y} hx hy hxy he=>z ⟨x,y,hxy,?_,he⟩) List.pairwise_lt_range)
   have:=List.mem_range.mp hy
   omega
  have:=Hg.tN (ms:=List.range n) nd fun y hy=>by
   obtain ⟨k,hk,rfl⟩:=List.mem_map.mp hy
   have:=List.mem_range.mp hk
   exact List.mem_range.mpr (lt k (by omega))
  rw [List.length_map,List.length_range,List.length_range] at this
  omega
 have hj:=lt a (by omega)
 have step:∀ k,k+a<=n->goN n c k (goN n c a i)<n:=fun k hk=>by
  rw [<- kM]
  exact lt _ hk
 have hper:goN n c (b-a) (goN n c a i)=goN n c a i:=by
  rw [<- kM,show b-a+a=b by omega,heq]
 generalize goN n c a i=j at hj step hper
 obtain ⟨p,hp0,hpb,hpp,hmin⟩:∃ p,0<p∧p<=b-a∧goN n c p j=j∧∀ q,0<q->q<p->goN n c q j≠j:=by
  have:∀ N p,p<=N->0<p->p<=b-a->goN n c p j=j->∃ p,0<p∧p<=b-a∧goN n c p j=j∧∀ q,0<q->q<p->goN n c q j≠j:=fun N=>by
   induction N with
   | zero=>intro p h1 h2;omega
   | succ N ih =>
    intro p h1 h2 h3 h4
    by_cases hq:∃ q,0<q∧q<p∧goN n c q j=j
    ·obtain ⟨q,q1,q2,q3⟩:=hq
     exact ih q (by omega) q1 (by omega) q3
    ·exact ⟨p,h2,h3,h4,fun q q1 q2 q3=>hq ⟨q,q1,q2,q3⟩⟩
  exact this (b-a) (b-a) (Nat.le_refl _) (by omega) (Nat.le_refl _) hper
 have eq:∀ k,k<=p->itf (fun i=>c.getD i n) k j=goN n c k j:=fun k=>by
  induction k with
  | zero=>intro _;rfl
  | succ k ih =>
   intro hk
   show c.getD (itf (fun i=>c.getD i n) k j) n=goF n c (goN n c k j)
   rw [ih (by omega)]
   unfold goF
   rw [if_pos (step k (by omega))]
 refine Ef (i:=j) (m:=p-1) hj (fun k hk=>?_) ?_ fun k h1 h2=>?_
 ·rw [eq (k+1) (by omega)]
  exact step (k+1) (by omega)
 ·rw [show p-1+1=p by omega,eq p (Nat.le_refl _),hpp]
 ·rw [eq k (by omega)]
  exact hmin k h1 (by omega)
theorem Ch [DecidablePred (nM n)]:det n (chA n Ws [])=(((Ce Ws n).filter fun c=>decide (nM n c)).length:Nat):=by
 rw [Ab (Nat.le_refl n)]
 have key:∀ l:List (List Nat),(∀ c∈l,c.length=n)->(l.map fun c=>det n (chA n Ws c)).sum=((l.filter fun c=>decide (nM n c)).length:Nat):=fun l=>by
  induction l with
  | nil=>intro _;rfl
  | cons c l ih =>
   intro hl
   rw [List.map_cons,List.sum_cons,ih fun c hc=>hl c (List.mem_cons_of_mem _ hc),Fv (hl c (List.mem_cons_self ..)),List.filter_cons]
   by_cases hc:nM n c
   ·rw [Dd hc,if_pos (decide_eq_true hc),List.length_cons]
    omega
   ·rw [Cw hc,if_neg (by rw [decide_eq_false hc];exact Bool.false_ne_true)]
    omega
 exact key _ fun c hc=>qV hc
end
end Dt
namespace Dt
def cE (words:List (List Nat))(o:List Nat):Int:=((words.countP fun w=>decide (w.drop 1=o):Nat):Int)
def rI (texts:List (List Nat))(t:List Nat)(words:List (List Nat)):List Int:=texts.map fun o=>if o=t then ((words.length:Nat):Int)-cE words t else-cE words o
def wS (ls:List (List Nat))(g:List Nat->List (List Nat))(i:Nat):List Nat:=(g (ls.getD i [])).map fun w=>ls.idxOf (w.drop 1)
theorem Jn {w:List Nat}{ws:List (List Nat)}{o:List Nat}:cE (w::ws) o=cE ws o+if w.drop 1=o then 1 else 0:=by
 unfold cE
 rw [List.countP_cons]
 by_cases h:w.drop 1=o
 ·rw [if_pos (decide_eq_true h),if_pos h];omega
 ·rw [if_neg (fun z=>h (of_decide_eq_true z)),if_neg h];omega
theorem wT {ls:List (List Nat)}(hnd:ls.Nodup){i k:Nat}(hk:k<ls.length):∀ ws:List (List Nat),((ws.map fun w=>ls.idxOf (w.drop 1)).map fun w=>rH ls.length i w k).sum=(if i=k then ((ws.length:Nat):Int) else 0)-cE ws ls[k]
 | []=>by
  show (0:Int)=_-((0:Nat):Int)
  split <;> simp
 | w::ws=>by
  rw [List.map_cons,List.map_cons,List.sum_cons,wT hnd hk ws,Jn]
  have e:(if ls.idxOf (w.drop 1)<ls.length then un (ls.idxOf (w.drop 1)) k else 0)=if w.drop 1=ls[k] then (1:Int) else 0:=by
   by_cases h:w.drop 1=ls[k]
   ·rw [if_pos h,h,hnd.idxOf_getElem,if_pos hk]
    simp [un]
   ·rw [if_neg h]
    split
    ·rename_i hlt
     have hne:ls.idxOf (w.drop 1)≠k:=fun z=>h (by
      have:=List.getElem_idxOf hlt
      subst z
      exact this.symm)
     unfold un
     rw [if_neg (Ne.symm hne)]
    ·rfl
  show un i k-(if ls.idxOf (w.drop 1)<ls.length then un (ls.idxOf (w.drop 1)) k else 0)+_=_
  rw [e,List.length_cons]
  by_cases hik:i=k
  ·rw [if_pos hik,if_pos hik,hik]
   simp [un]
   omega
  ·rw [if_neg hik,if_neg hik]
   simp [un,hik,Ne.symm hik]
   omega
theorem Dv {ls:List (List Nat)}(hnd:ls.Nodup)(g:List Nat->List (List Nat)):det ls.length (ent (ls.map fun t=>rI ls t (g t)))=det ls.length (chA ls.length (wS ls g) []):=bQ fun i k hi hk=>by
 show ((ls.map fun t=>rI ls t (g t)).getD i []).getD k 0=((wS ls g i).map fun w=>rH ls.length i w k).sum
 unfold wS
 rw [wT hnd hk,List.getD_eq_getElem?_getD,List.getD_eq_getElem?_getD,List.getElem?_map,List.getElem?_eq_getElem hi]
 show ((rI ls ls[i] (g ls[i]))[k]?).getD 0=_
 unfold rI
 rw [List.getElem?_map,List.getElem?_eq_getElem hk,List.getD_eq_getElem?_getD,List.getElem?_eq_getElem hi]
 show (if ls[k]=ls[i] then _ else _)=(if i=k then (((g ls[i]).length:Nat):Int) else 0)-cE (g ls[i]) ls[k]
 by_cases hik:i=k
 ·subst hik
  rw [if_pos rfl,if_pos rfl]
 ·rw [if_neg hik,if_neg (fun z=>hik (by have a:=hnd.idxOf_getElem i hi;have b:=hnd.idxOf_getElem k hk;rw [z,a] at b;exact b)),Int.zero_sub]
end Dt
namespace Dt
def sT (ls:List (List Nat))(cw:List Nat->List Nat)(t:List Nat):List Nat:=if t∈ls then (cw t).drop 1 else t
def iT (ls:List (List Nat))(cw:List Nat->List Nat):Nat->List Nat->List Nat
 | 0,t=>t
 | k+1,t=>sT ls cw (iT ls cw k t)
def plc (ls:List (List Nat))(cw:List Nat->List Nat):List Nat:=ls.map fun t=>ls.idxOf ((cw t).drop 1)
theorem yI {ls:List (List Nat)}(cw:List Nat->List Nat){t:List Nat}:∀ k:Nat,goN ls.length (plc ls cw) k (ls.idxOf t)=ls.idxOf (iT ls cw k t)
 | 0=>rfl
 | k+1=>by
  show goF ls.length (plc ls cw) (goN ls.length (plc ls cw) k (ls.idxOf t))=ls.idxOf (sT ls cw (iT ls cw k t))
  rw [yI cw k]
  unfold goF sT
  by_cases h:iT ls cw k t∈ls
  ·have hl:ls.idxOf (iT ls cw k t)<ls.length:=List.idxOf_lt_length_of_mem h
   rw [if_pos hl,if_pos h]
   unfold plc
   rw [List.getD_eq_getElem?_getD,List.getElem?_map,List.getElem?_eq_getElem hl,List.getElem_idxOf hl]
   rfl
  ·have hl:¬ ls.idxOf (iT ls cw k t)<ls.length:=fun z=>h (List.idxOf_lt_length_iff.mp z)
   rw [if_neg hl,if_neg h]
theorem Dc {ls:List (List Nat)}(hnd:ls.Nodup)(cw:List Nat->List Nat):nM ls.length (plc ls cw)↔(ls.all fun t=>decide (iT ls cw ls.length t∉ls))=true:=by
 rw [List.all_eq_true]
 constructor
 ·intro h t ht
  refine decide_eq_true fun z=>h (ls.idxOf t) (List.idxOf_lt_length_of_mem ht) ?_
  rw [yI]
  exact List.idxOf_lt_length_of_mem z
 ·intro h i hi z
  have e:=yI (ls:=ls) cw (t:=ls[i]) ls.length
  rw [hnd.idxOf_getElem i hi] at e
  rw [e] at z
  exact of_decide_eq_true (h ls[i] (List.getElem_mem hi)) (List.idxOf_lt_length_iff.mp z)
end Dt
namespace Dt
inductive R2 {α β:Type}(R:α->β->Prop):List α->List β->Prop
 | nil:R2 R [] []
 | cons {a:α} {b:β} {as:List α} {bs:List β}:R a b->R2 R as bs->R2 R (a::as) (b::bs)
section
variable {α β:Type}{R R':α->β->Prop}{as:List α}{bs:List β}
theorem R2.len (h:R2 R as bs):as.length=bs.length:=by
 induction h with
 | nil=>rfl
 | cons _ _ ih=>rw [List.length_cons,List.length_cons,ih]
theorem R2.mono (h:R2 R as bs)(f:∀ a b,a∈as->R a b->R' a b):R2 R' as bs:=by
 induction h with
 | nil=>exact .nil
 | cons r _ ih=>exact .cons (f _ _ (List.mem_cons_self ..) r) (ih fun a b ha=>f a b (List.mem_cons_of_mem _ ha))
theorem R2.get (h:R2 R as bs):∀ {i:Nat} {b:β},bs[i]?=some b->∃ a,as[i]?=some a∧R a b:=by
 induction h with
 | nil=>intro i b e;simp at e
 | cons r _ ih =>
  intro i b e
  cases i with
  | zero=>rw [List.getElem?_cons_zero] at e;cases e;exact ⟨_,rfl,r⟩
  | succ i=>rw [List.getElem?_cons_succ] at e;rw [List.getElem?_cons_succ];exact ih e
theorem R2.snoc {a:α}{b:β}(h:R2 R as bs)(r:R a b):R2 R (as++[a]) (bs++[b]):=by
 induction h with
 | nil=>exact .cons r .nil
 | cons r' _ ih=>exact .cons r' ih
end
abbrev W:=List Nat
def fA (f:W->W)(t w:W):W->W:=fun x=>if x=t then w else f x
theorem Dh {f:W->W}{a b x y:W}(h:a≠b):fA (fA f a x) b y=fA (fA f b y) a x:=by
 funext z
 unfold fA
 by_cases h1:z=b
 ·rw [if_pos h1,if_neg (fun e=>h (e.symm.trans h1)),if_pos h1]
 ·rw [if_neg h1,if_neg h1]
theorem sI {f:W->W}{t w:W}:fA f t w t=w:=by unfold fA;rw [if_pos rfl]
theorem Bf {f:W->W}{t w x:W}(h:x≠t):fA f t w x=f x:=by unfold fA;rw [if_neg h]
def chs (g:W->List W):List W->List (W->W)
 | []=>[fun _=>[]]
 | t::ls=>(chs g ls).flatMap fun f=>(g t).map fun w=>fA f t w
theorem uQ {α β γ:Type}{F:α->β->γ}(as:List α)(bs:List β):(as.flatMap fun a=>bs.map fun b=>F a b).Perm (bs.flatMap fun b=>as.map fun a=>F a b):=by
 induction as with
 | nil=>simp
 | cons a as ih =>
  rw [List.flatMap_cons]
  refine (List.Perm.append_left _ ih).trans ?_
  clear ih
  induction bs with
  | nil=>simp
  | cons b bs ih2 =>
   rw [List.flatMap_cons,List.flatMap_cons,List.map_cons,List.map_cons,List.cons_append,List.cons_append]
   refine List.Perm.cons _ ?_
   refine List.Perm.trans ?_ (List.Perm.append_left _ ih2)
   rw [<- List.append_assoc,<- List.append_assoc]
   exact List.Perm.append_right _ List.perm_append_comm
theorem gF {α β:Type}{F G:α->List β}:∀ {l:List α},(∀ a∈l,(F a).Perm (G a))->(l.flatMap F).Perm (l.flatMap G)
 | [],_=>by simp
 | a::l,h=>by
  rw [List.flatMap_cons,List.flatMap_cons]
  exact (h a (List.mem_cons_self ..)).append (gF fun b hb=>h b (List.mem_cons_of_mem _ hb))
theorem Fr {g:W->List W}{ls ms:List W}(h:ls.Perm ms):ls.Nodup->(chs g ls).Perm (chs g ms):=by
 induction h with
 | nil=>intro _;exact .refl _
 | cons t _ ih=>intro hn;exact (ih (List.nodup_cons.mp hn).2).flatMap_right _
 | swap a b l =>
  intro hn
  have hab:b≠a:=fun e=>(List.nodup_cons.mp hn).1 (e▸List.mem_cons_self ..)
  show (((chs g l).flatMap fun f=>(g a).map fun w=>fA f a w).flatMap fun f=>(g b).map fun w=>fA f b w).Perm (((chs g l).flatMap fun f=>(g b).map fun w=>fA f b w).flatMap fun f=>(g a).map fun w=>fA f a w)
  rw [List.flatMap_assoc,List.flatMap_assoc]
  refine gF fun f _=>?_
  rw [List.flatMap_map,List.flatMap_map]
  have e:(fun x=>(g a).map fun y=>fA (fA f b x) a y)=fun x=>(g a).map fun y=>fA (fA f a y) b x:=by
   funext x;congr 1;funext y;exact Dh hab
  have e2:=uQ (F:=fun x y=>fA (fA f a x) b y) (g a) (g b)
  refine e2.trans ?_
  rw [e]
 | trans h1 _ ih1 ih2=>intro hn;exact (ih1 hn).trans (ih2 (h1.nodup_iff.mp hn))
def cmT (ls:List W)(cw:W->W):Bool:=ls.all fun t=>decide (iT ls cw ls.length t∉ls)
theorem uU {ls ms:List W}(h:∀ t,t∈ls↔t∈ms){cw:W->W}{t:W}:∀ k,iT ls cw k t=iT ms cw k t
 | 0=>rfl
 | k+1=>by
  show sT ls cw (iT ls cw k t)=sT ms cw (iT ms cw k t)
  rw [uU h k]
  unfold sT
  by_cases e:iT ms cw k t∈ms
  ·rw [if_pos e,if_pos ((h _).mpr e)]
  ·rw [if_neg e,if_neg (fun z=>e ((h _).mp z))]
theorem wU {ls ms:List W}(h:ls.Perm ms)(cw:W->W):cmT ls cw=cmT ms cw:=by
 unfold cmT
 rw [Bool.eq_iff_iff,List.all_eq_true,List.all_eq_true]
 have hm:∀ t,t∈ls↔t∈ms:=fun t=>h.mem_iff
 constructor
 ·intro q t ht
  have:=of_decide_eq_true (q t ((hm t).mpr ht))
  rw [uU hm,h.length_eq] at this
  exact decide_eq_true fun z=>this ((hm _).mpr z)
 ·intro q t ht
  have:=of_decide_eq_true (q t ((hm t).mp ht))
  rw [<- uU hm,<- h.length_eq] at this
  exact decide_eq_true fun z=>this ((hm _).mp z)
def nC (ls:List W)(g:W->List W):Nat:=((chs g ls).filter (cmT ls)).length
theorem uF {ls ms:List W}(h:ls.Perm ms)(hn:ls.Nodup)(g:W->List W):nC ls g=nC ms g:=by
 unfold nC
 rw [((Fr (g:=g) h hn).filter (cmT ls)).length_eq]
 congr 2
 funext f
 exact wU h f
theorem tD {g g':W->List W}:∀ {ls:List W},(∀ t∈ls,g t=g' t)->chs g ls=chs g' ls
 | [],_=>rfl
 | t::ls,h=>by
  show (chs g ls).flatMap _=(chs g' ls).flatMap _
  rw [tD fun x hx=>h x (List.mem_cons_of_mem _ hx),h t (List.mem_cons_self ..)]
theorem vO {ls:List W}(hn:ls.Nodup){g:W->List W}:∀ m,m<=ls.length->Ce (wS ls g) m=(chs g (ls.take m).reverse).map fun f=>(ls.take m).map fun t=>ls.idxOf ((f t).drop 1)
 | 0,_=>by rw [List.take_zero];rfl
 | m+1,h=>by
  have hm:m<ls.length:=h
  have ht:ls.take (m+1)=ls.take m++[ls[m]]:=by rw [List.take_add_one,List.getElem?_eq_getElem hm];rfl
  rw [ht,List.reverse_append]
  show (Ce (wS ls g) m).flatMap _=((chs g (ls.take m).reverse).flatMap fun f=>(g ls[m]).map fun w=>fA f ls[m] w).map _
  rw [vO hn m (by omega),List.flatMap_map,List.map_flatMap]
  have hnot:ls[m]∉ls.take m:=fun z=>by
   have nd:(ls.take m++[ls[m]]).Nodup:=ht▸hn.sublist (List.take_sublist (m+1) ls)
   exact (List.nodup_append.mp nd).2.2 _ z _ (List.mem_singleton.mpr rfl) rfl
  congr 1
  funext f
  unfold wS
  rw [List.getD_eq_getElem?_getD,List.getElem?_eq_getElem hm,List.map_map,List.map_map]
  refine List.map_congr_left fun w _=>?_
  show (ls.take m).map _++[_]=(ls.take m++[ls[m]]).map _
  rw [List.map_append,List.map_singleton]
  congr 1
  ·refine List.map_congr_left fun t ht=>?_
   show _=ls.idxOf ((fA f ls[m] w t).drop 1)
   rw [Bf (fun e=>hnot (by rw [<- e];exact ht))]
  ·show _=[ls.idxOf ((fA f ls[m] w ls[m]).drop 1)]
   rw [sI]
theorem Mu {ls:List W}(hn:ls.Nodup)(g:W->List W):det ls.length (ent (ls.map fun t=>rI ls t (g t)))=((nC ls g:Nat):Int):=by
 classical
 rw [Dv hn,Ch,vO hn ls.length (Nat.le_refl _),List.take_length]
 rw [uF (List.reverse_perm ls).symm hn g]
 unfold nC
 rw [List.filter_map,List.length_map]
 congr 3
 funext f
 rw [wU (List.reverse_perm ls)]
 show decide (nM ls.length (plc ls f))=cmT ls f
 rw [Bool.eq_iff_iff,decide_eq_true_iff]
 exact Dc hn f
end Dt
namespace Hg
variable {bg en:List Nat->List Nat}
def Tr (bg en:List Nat->List Nat):List Nat->List (List Nat)->List Nat->Prop
 | p,[],q=>p=q
 | p,w::ws,q=>bg w=p∧Tr bg en (en w) ws q
end Hg
namespace Wd
open Hg
def beg (l:W):W:=l.take (l.length-1)
def fin (l:W):W:=l.drop 1
def sl (t:W)(i j:Nat):W:=(t.drop i).take (j-i)
def hd (w:W):Nat:=w.getD 0 0
section
variable {t:W}{n a b c d:Nat}
end
end Wd
namespace Wd
section
variable {r g:W}{n:Nat}
end
end Wd
namespace Wd
def num (k:Nat)(w:W):Nat:=w.foldl (fun a c=>a*k+(c-97)) 0
end Wd
namespace Wd
def Okk (k:Nat)(w:W):Prop:=∀ c∈w,97<=c∧c<97+k
def Lst (w:W):Prop:=w=kY w
def fill (k n:Nat)(p:W):W:=p++List.replicate (n-p.length) (96+k)
instance (w:W):Decidable (Lst w):=inferInstanceAs (Decidable (w=kY w))
set_option genInjectivity false in
structure LW (k n:Nat)(w:W):Prop where
 len:w.length=n
 ok:Okk k w
 lst:Lst w
end Wd
namespace Wd
def Nn (k:Nat)(w:W)(m:Nat):Prop:=∀ v,LW k w.length v->∀ p,m<=p->p<w.length->v.take p=w.take p->¬ w.getD p 0<v.getD p 0
end Wd
namespace Wd
end Wd
namespace Wd
end Wd
namespace Wd
theorem pM:∀ (a b:List W),a.Nodup->(∀ x∈a,x∈b)->a.length<=b.length
 | [],b,_,_=>Nat.zero_le _
 | x::a,b,hn,hs=>by
  obtain ⟨h1,h2⟩:=List.nodup_cons.mp hn
  have hx:x∈b:=hs x List.mem_cons_self
  have:=pM a (b.erase x) h2 fun y hy=>(List.mem_erase_of_ne (fun e=>h1 (by rw [<- e];exact hy))).mpr (hs y (List.mem_cons_of_mem _ hy))
  rw [List.length_erase_of_mem hx] at this
  have hp:0<b.length:=List.length_pos_of_mem hx
  rw [List.length_cons]
  omega
end Wd
namespace Wd
end Wd
namespace Wd
section
variable {k n:Nat}{t:W}
theorem full {a b:List W}(hn:a.Nodup)(hs:∀ x∈a,x∈b)(hl:b.length<=a.length){x:W}(hx:x∈b):x∈a:=by
 refine Classical.byContradiction fun hno=>?_
 have:=pM (x::a) b (List.nodup_cons.mpr ⟨hno,hn⟩) fun y hy=>by
  rcases List.mem_cons.mp hy with rfl | hy
  ·exact hx
  ·exact hs y hy
 rw [List.length_cons] at this
 omega
end
end Wd
namespace Wd
open Hg
def lst (us:List W):W:=us.getD (us.length-1) []
def ext (ws us:List W):List (List W):=(ws.filter fun w=>decide (beg w=fin (lst us)) && !decide (w∈us)).map fun w=>us++[w]
section
variable {ws us:List W}{w0 w:W}{n k:Nat}
end
end Wd
namespace Wd
open Hg
section
variable {E L us:List W}{s t v p q w:W}
end
end Wd
namespace Dt
open Wd Hg
section
variable {ts:List W}{f:W->W}
theorem Fk {t:W}(h:t∉ts):∀ k,iT ts f k t=t
 | 0=>rfl
 | k+1=>by
  show sT ts f (iT ts f k t)=t
  rw [Fk h k]
  unfold sT
  rw [if_neg h]
end
def og (E:List W)(t:W):List W:=E.filter fun w=>decide (beg w=t)
def rm (E:List W)(w:W):List W:=E.filter fun x=>!decide (x=w)
section
variable {E:List W}{a b t w:W}
theorem jR:w∈og E t↔w∈E∧beg w=t:=by unfold og;rw [List.mem_filter,decide_eq_true_iff]
end
def Oi:Nat->List W->W->W->List (List W)
 | 0,_,a,b=>if a=b then [[]] else []
 | n+1,E,a,b=>(og E a).flatMap fun w=>(Oi n (rm E w) (fin w) b).map fun us=>w::us
def eN (E:List W)(a b:W):Nat:=(Oi E.length E a b).length
def nW (ts:List W)(a:W)(g:W->List W)(w:W):Nat:=((chs g ts).filter fun f=>cmT (a::ts) (fA f a w)).length
theorem zP {ts:List W}{a:W}{g:W->List W}:nC (a::ts) g=((g a).map (nW ts a g)).sum:=by
 show (((chs g ts).flatMap fun f=>(g a).map fun w=>fA f a w).filter (cmT (a::ts))).length=((g a).map fun w=>((chs g ts).filter fun f=>cmT (a::ts) (fA f a w)).length).sum
 generalize chs g ts=l
 induction l with
 | nil =>
  show 0=((g a).map fun w=>0).sum
  generalize g a=l
  induction l with
  | nil=>rfl
  | cons w l ih=>rw [List.map_cons,List.sum_cons,<- ih]
 | cons f l ih =>
  rw [List.flatMap_cons,List.filter_append,List.length_append,ih]
  clear ih
  generalize g a=m
  induction m with
  | nil=>rfl
  | cons w m ih =>
   rw [List.map_cons,List.map_cons,List.map_cons,List.sum_cons,List.sum_cons,List.filter_cons,List.filter_cons]
   by_cases hc:cmT (a::ts) (fA f a w)=true
   ·rw [if_pos hc,if_pos hc,List.length_cons,List.length_cons];omega
   ·rw [if_neg hc,if_neg hc];omega
theorem Gk {ts:List W}{a w:W}{g g':W->List W}(h:∀ t∈ts,g t=g' t):nW ts a g w=nW ts a g' w:=by unfold nW;rw [tD h]
end Dt
namespace Dt
open Wd Hg
end Dt
namespace Dt
open Wd Hg
end Dt
namespace Dt
open Wd Hg
end Dt
namespace Wd
def it (f:W->W):Nat->W->W
 | 0,w=>w
 | k+1,w=>f (it f k w)
section
variable {f:W->W}{L:List W}{w:W}{p:Nat}
end
end Wd
namespace Wd
section
variable {f:W->W}{r:W}{n:Nat}{L:List W}
end
end Wd
namespace Wd
open Hg
section
variable {ms us xs ys:List W}{p q r t e w0:W}{n:Nat}
end
end Wd
namespace Wd
open Hg
section
variable {ms us vs:List W}{p q m0 t:W}{n:Nat}
end
end Wd
namespace Dt
open Wd Hg
theorem Mf {α β:Type}{f:α->List β}{x:α}{l:List α}{k:Nat}:((x::l).flatMap f)[k]?=if k<(f x).length then (f x)[k]? else (l.flatMap f)[k-(f x).length]?:=by
 rw [List.flatMap_cons,List.getElem?_append]
def rk (b:W):List W->List W->Nat
 | _,[]=>0
 | E,w::us=>(((og E (beg w)).filter fun x=>decide (x<w)).map fun x=>eN (rm E x) (fin x) b).sum+rk b (rm E w) us
theorem Li {E:List W}(hn:E.Nodup)(hs:E.Pairwise fun x y=>¬ y<x):E.Pairwise (· < ·):=by
 refine List.Pairwise.imp₂ (fun a b h1 h2=>?_) hs hn
 exact Classical.byContradiction fun z=>h2 (Std.Trichotomous.trichotomous a b z h1)
section
variable {m0:W}{us vs ms:List W}{n:Nat}
end
end Dt
namespace Dt
open Wd Hg
theorem Ng {ts:List W}{t:W}{g:W->List W}(hn:ts.Nodup)(ht:t∈ts):((g t).map fun w=>nC ts (fun x=>if x=t then [w] else g x)).sum=nC ts g:=by
 have hp:=List.perm_cons_erase ht
 have hn':=hp.nodup_iff.mp hn
 have hnt:t∉ts.erase t:=(List.nodup_cons.mp hn').1
 rw [uF hp hn,zP]
 congr 1
 refine List.map_congr_left fun w _=>?_
 rw [uF hp hn,zP]
 show (List.map (nW (ts.erase t) t _) (if t=t then [w] else g t)).sum=_
 rw [if_pos rfl]
 show nW (ts.erase t) t _ w+0=_
 rw [Nat.add_zero]
 exact Gk fun x hx=>by
  have hne:x≠t:=fun z=>hnt (z▸hx)
  rw [if_neg hne]
end Dt
namespace Dt
open Wd Hg
def eG (g:W->List W)(t w:W):W->List W:=fun x=>if x=t then [w] else g x
theorem fZ {g:W->List W}{t w:W}:eG g t w t=[w]:=if_pos rfl
theorem dC {g:W->List W}{t w x:W}(h:x≠t):eG g t w x=g x:=if_neg h
def trs (ts:List W):List W->(W->List W)->List (List W)
 | [],g=>if cmT ts (fun t=>(g t).headD [])=true then [[]] else []
 | t::r,g=>(g t).flatMap fun w=>(trs ts r (eG g t w)).map fun us=>w::us
def Fix (ts r:List W)(g:W->List W):Prop:=∀ t∈ts,t∉r->∃ w,g t=[w]
theorem Fix.set {ts r:List W}{g:W->List W}{t w:W}(h:Fix ts (t::r) g):Fix ts r (eG g t w):=fun x hx hr=>by
 by_cases e:x=t
 ·exact ⟨w,by rw [e,fZ]⟩
 ·rw [dC e]
  exact h x hx fun z=>(List.mem_cons.mp z).elim e hr
theorem zS {g:W->List W}:∀ {ls:List W},(∀ t∈ls,∃ w,g t=[w])->∃ f,chs g ls=[f]∧∀ t∈ls,f t=(g t).headD []
 | [],_=>⟨_,rfl,fun t h=>(by cases h)⟩
 | t::ls,h=>by
  obtain ⟨f,h1,h2⟩:=zS (ls:=ls) fun x hx=>h x (List.mem_cons_of_mem _ hx)
  obtain ⟨w,hw⟩:=h t (List.mem_cons_self ..)
  refine ⟨fA f t w,?_,fun x hx=>?_⟩
  ·show ((chs g ls).flatMap fun f=>(g t).map fun w=>fA f t w)=_
   rw [h1,hw]
   rfl
  ·by_cases e:x=t
   ·rw [e,sI,hw]
    rfl
   ·rw [Bf e]
    exact h2 x ((List.mem_cons.mp hx).resolve_left e)
theorem wL {ls:List W}{f f':W->W}(h:∀ t∈ls,f t=f' t){t:W}:∀ k,iT ls f k t=iT ls f' k t
 | 0=>rfl
 | k+1=>by
  show sT ls f (iT ls f k t)=sT ls f' (iT ls f' k t)
  rw [wL h k]
  unfold sT
  split
  ·rename_i hm
   rw [h _ hm]
  ·rfl
theorem fJ {ls:List W}{f f':W->W}(h:∀ t∈ls,f t=f' t):cmT ls f=cmT ls f':=by
 unfold cmT
 congr 1
 funext t
 rw [wL h]
theorem iZ {ts:List W}(hn:ts.Nodup):∀ {r:List W} {g:W->List W},(∀ t∈r,t∈ts)->Fix ts r g->(trs ts r g).length=nC ts g
 | [],g,_,hf=>by
  obtain ⟨f,h1,h2⟩:=zS (g:=g) (ls:=ts) fun t ht=>hf t ht (by simp)
  unfold nC
  rw [h1]
  show (if cmT ts (fun t=>(g t).headD [])=true then [[]] else ([]:List (List W))).length=_
  rw [<- fJ h2]
  by_cases e:cmT ts f=true
  ·rw [if_pos e,List.filter_cons_of_pos e]
   rfl
  ·rw [if_neg e,List.filter_cons_of_neg e]
   rfl
 | t::r,g,hr,hf=>by
  show ((g t).flatMap fun w=>(trs ts r (eG g t w)).map fun us=>w::us).length=_
  rw [List.length_flatMap,<- Ng hn (hr t (List.mem_cons_self ..))]
  congr 1
  refine List.map_congr_left fun w _=>?_
  rw [List.length_map,iZ hn (fun x hx=>hr x (List.mem_cons_of_mem _ hx)) hf.set]
  rfl
def rkT (ts:List W):List W->(W->List W)->List W->Nat
 | t::r,g,w::us=>(((g t).filter fun x=>decide (x<w)).map fun x=>nC ts (eG g t x)).sum+rkT ts r (eG g t w) us
 | _,_,_=>0
def pk:List W->W->W
 | [],_=>[]
 | w::us,t=>if beg w=t then w else pk us t
theorem Ar {w:W}{us:List W}:pk (w::us) (beg w)=w:=if_pos rfl
theorem zR {ts:List W}:∀ {r:List W} {g:W->List W} {us:List W},r.Nodup->(∀ t∈r,∀ w∈g t,beg w=t)->(us∈trs ts r g↔us.map beg=r∧(∀ w∈us,w∈g (beg w))∧cmT ts (fun t=>if t∈r then pk us t else (g t).headD [])=true)
 | [],g,us,_,_=>by
  show us∈(if cmT ts (fun t=>(g t).headD [])=true then [[]] else ([]:List (List W)))↔_
  have e:cmT ts (fun t=>if t∈([]:List W) then pk us t else (g t).headD [])=cmT ts (fun t=>(g t).headD []):=fJ fun t _=>if_neg (by simp)
  rw [e]
  constructor
  ·intro h
   by_cases z:cmT ts (fun t=>(g t).headD [])=true
   ·rw [if_pos z] at h
    rw [List.mem_singleton.mp h]
    exact ⟨rfl,fun w hw=>(by cases hw),z⟩
   ·rw [if_neg z] at h
    cases h
  ·rintro ⟨h1,_,h3⟩
   rw [if_pos h3,List.map_eq_nil_iff.mp h1]
   exact List.mem_singleton.mpr rfl
 | t::r,g,us,hn,hb=>by
  obtain ⟨hn1,hn2⟩:=List.nodup_cons.mp hn
  have hne:∀ x∈r,x≠t:=fun x hx e=>hn1 (e▸hx)
  have ih:=fun (w:W) (vs:List W)=>zR (ts:=ts) (r:=r) (g:=eG g t w) (us:=vs) hn2 fun x hx v hv=>hb x (List.mem_cons_of_mem _ hx) v (by rw [dC (hne x hx)] at hv;exact hv)
  have ec:∀ (w:W) (vs:List W),beg w=t->cmT ts (fun x=>if x∈r then pk vs x else (eG g t w x).headD [])=cmT ts (fun x=>if x∈t::r then pk (w::vs) x else (g x).headD []):=fun w vs hw=>fJ fun x _=>by
   by_cases hx:x=t
   ·rw [hx,if_neg hn1,if_pos (List.mem_cons_self ..),fZ,<- hw,Ar]
    rfl
   ·by_cases hr:x∈r
    ·rw [if_pos hr,if_pos (List.mem_cons_of_mem _ hr)]
     show _=if beg w=x then w else pk vs x
     rw [if_neg fun z=>hx (z.symm.trans hw)]
    ·rw [if_neg hr,if_neg fun z=>(List.mem_cons.mp z).elim hx hr,dC hx]
  show us∈((g t).flatMap fun w=>(trs ts r (eG g t w)).map fun us=>w::us)↔_
  rw [List.mem_flatMap]
  constructor
  ·rintro ⟨w,hw,h⟩
   obtain ⟨vs,hv,rfl⟩:=List.mem_map.mp h
   obtain ⟨h1,h2,h3⟩:=(ih w vs).mp hv
   have hwt:=hb t (List.mem_cons_self ..) w hw
   rw [ec w vs hwt] at h3
   refine ⟨by rw [List.map_cons,h1,hwt],fun v hv=>?_,h3⟩
   rcases List.mem_cons.mp hv with z | z
   ·rw [z,hwt];exact hw
   ·have:=h2 v z
    rw [dC (hne _ (by rw [<- h1];exact List.mem_map_of_mem z))] at this
    exact this
  ·rintro ⟨h1,h2,h3⟩
   cases us with
   | nil=>cases h1
   | cons w vs =>
    obtain ⟨hwt,h1⟩:=List.cons.inj h1
    refine ⟨w,by have:=h2 w (List.mem_cons_self ..);rw [hwt] at this;exact this,List.mem_map_of_mem ((ih w vs).mpr ⟨h1,fun v hv=>?_,?_⟩)⟩
    ·rw [dC (hne _ (by rw [<- h1];exact List.mem_map_of_mem hv))]
     exact h2 v (List.mem_cons_of_mem _ hv)
    ·rw [ec w vs hwt]
     exact h3
end Dt
namespace Dt
open Wd Hg
theorem yL:∀ {us:List W},(us.map beg).Nodup->∀ w∈us,pk us (beg w)=w
 | [],_,w,h=>by cases h
 | v::us,hn,w,h=>by
  obtain ⟨h1,h2⟩:=List.nodup_cons.mp hn
  show (if beg v=beg w then v else pk us (beg w))=w
  rcases List.mem_cons.mp h with z | z
  ·rw [z,if_pos rfl]
  ·rw [if_neg (fun e:beg v=beg w=>h1 (e▸List.mem_map_of_mem z)),yL h2 w z]
theorem gA {ls:List W}{f:W->W}{t:W}:∀ k,iT ls f (k+1) t=iT ls f k (sT ls f t)
 | 0=>rfl
 | k+1=>by
  show sT ls f (iT ls f (k+1) t)=sT ls f (iT ls f k (sT ls f t))
  rw [gA k]
theorem lZ {ls:List W}{f:W->W}{t:W}{k:Nat}(h:iT ls f k t∉ls):∀ j,iT ls f (k+j) t∉ls
 | 0=>h
 | j+1=>by
  show sT ls f (iT ls f (k+j) t)∉ls
  rw [show sT ls f (iT ls f (k+j) t)=iT ls f (k+j) t from if_neg (lZ h j)]
  exact lZ h j
theorem Ao {ls:List W}{f:W->W}:∀ m,(∀ t,iT ls f (m+1) t∉ls->iT ls f m t∉ls)->∀ k t,iT ls f (m+k) t∉ls->iT ls f m t∉ls
 | m,h,0,t,hk=>hk
 | m,h,k+1,t,hk=>by
  have h':∀ j t,iT ls f (m+j+1) t∉ls->iT ls f (m+j) t∉ls:=fun j=>by
   induction j with
   | zero=>exact h
   | succ j ih =>
    intro t ht
    rw [show m+(j+1)=(m+j)+1 by omega,gA]
    rw [gA] at ht
    exact ih _ ht
  exact Ao m h k t (h' k t hk)
def Ja (ls:List W)(f:W->W)(m:Nat):Nat:=(ls.filter fun t=>decide (iT ls f m t∉ls)).length
theorem wE {ls:List W}{f:W->W}(h:∀ t∈ls,∃ m,iT ls f m t∉ls):∀ t∈ls,iT ls f ls.length t∉ls:=by
 have key:∀ m,m<=Ja ls f m∨∃ j,j<=m∧∀ t,iT ls f (j+1) t∉ls->iT ls f j t∉ls:=fun m=>by
  induction m with
  | zero=>exact .inl (Nat.zero_le _)
  | succ m ih =>
   rcases ih with ih | ⟨j,hj,h1⟩
   ·by_cases hz:∀ t,iT ls f (m+1) t∉ls->iT ls f m t∉ls
    ·exact .inr ⟨m,by omega,hz⟩
    ·left
     obtain ⟨t0,h0⟩:=Classical.not_forall.mp hz
     obtain ⟨h1,h2⟩:=Classical.not_imp.mp h0
     have h2:iT ls f m t0∈ls:=Classical.not_not.mp h2
     have ht0:t0∈ls:=Classical.byContradiction fun z=>by
      rw [Fk z] at h2
      exact z h2
     have hlt:Ja ls f m<Ja ls f (m+1):=by
      unfold Ja
      have gen:∀ l:List W,(l.filter fun t=>decide (iT ls f m t∉ls)).length<=(l.filter fun t=>decide (iT ls f (m+1) t∉ls)).length∧(t0∈l->(l.filter fun t=>decide (iT ls f m t∉ls)).length<(l.filter fun t=>decide (iT ls f (m+1) t∉ls)).length):=fun l=>by
       induction l with
       | nil=>exact ⟨Nat.le_refl _,fun z=>(by cases z)⟩
       | cons x l ih =>
        rw [List.filter_cons,List.filter_cons]
        by_cases e1:iT ls f m x∉ls
        ·have e2:=lZ e1 1
         rw [if_pos (decide_eq_true e1),if_pos (decide_eq_true e2),List.length_cons,List.length_cons]
         refine ⟨Nat.succ_le_succ ih.1,fun hz=>Nat.succ_lt_succ (ih.2 ?_)⟩
         rcases List.mem_cons.mp hz with z | z
         ·exact absurd (z▸h2) e1
         ·exact z
        ·rw [if_neg fun z=>e1 (of_decide_eq_true z)]
         by_cases e2:iT ls f (m+1) x∉ls
         ·rw [if_pos (decide_eq_true e2),List.length_cons]
          exact ⟨Nat.le_succ_of_le ih.1,fun _=>Nat.lt_succ_of_le ih.1⟩
         ·rw [if_neg fun z=>e2 (of_decide_eq_true z)]
          refine ⟨ih.1,fun hz=>ih.2 ?_⟩
          rcases List.mem_cons.mp hz with z | z
          ·exact absurd (z▸h1) e2
          ·exact z
      exact (gen ls).2 ht0
     omega
   ·exact .inr ⟨j,by omega,h1⟩
 intro t ht
 rcases key ls.length with h1 | ⟨j,hj,h1⟩
 ·have h2:(ls.filter fun t=>decide (iT ls f ls.length t∉ls))=ls:=List.filter_eq_self.mpr (List.length_filter_eq_length_iff.mp (Nat.le_antisymm (List.length_filter_le ..) h1))
  exact of_decide_eq_true (List.filter_eq_self.mp h2 t ht)
 ·obtain ⟨m,hm⟩:=h t ht
  have h3:iT ls f j t∉ls:=by
   by_cases e:m<=j
   ·have:=lZ hm (j-m)
    rw [show m+(j-m)=j by omega] at this
    exact this
   ·refine Ao j h1 (m-j) t ?_
    rw [show j+(m-j)=m by omega]
    exact hm
  have:=lZ h3 (ls.length-j)
  rw [show j+(ls.length-j)=ls.length by omega] at this
  exact this
theorem kI {a b:List W}(hn:a.Nodup)(h:∀ x∈a,x∈b):a.length<=b.length:=pM a b hn h
theorem Gy {ts us ks:List W}{p:W}(hts:ts.Nodup)(hp:p∉ts)(hb:us.map beg=ts)(he:∀ w∈us,fin w=p∨fin w∈ts)(hk:ks.Nodup)(hpk:p∈ks)(hc:∀ w∈us,fin w∈ks->beg w∈ks)(hm:∀ χ:W->Prop,χ p->(∀ w∈us,χ (fin w)->χ (beg w))->∀ k∈ks,χ k) :
  ks.length=ts.length+1↔cmT ts (pk us)=true:=by
 have hbn:(us.map beg).Nodup:=by rw [hb];exact hts
 have hin:∀ w∈us,beg w∈ts:=fun w hw=>by rw [<- hb];exact List.mem_map_of_mem hw
 have hof:∀ t∈ts,∃ w∈us,beg w=t:=fun t ht=>by rw [<- hb] at ht;exact List.mem_map.mp ht
 have hst:∀ w∈us,sT ts (pk us) (beg w)=fin w:=fun w hw=>by
  unfold sT
  rw [if_pos (hin w hw),yL hbn w hw]
  rfl
 have hsub:∀ k∈ks,k∈p::ts:=hm (fun k=>k∈p::ts) (List.mem_cons_self ..) fun w hw _=>List.mem_cons_of_mem _ (hin w hw)
 have hcm:cmT ts (pk us)=true↔∀ t∈ts,iT ts (pk us) ts.length t∉ts:=by
  unfold cmT
  rw [List.all_eq_true]
  exact ⟨fun h t ht=>of_decide_eq_true (h t ht),fun h t ht=>decide_eq_true (h t ht)⟩
 rw [hcm]
 constructor
 ·intro hl
  have hall:∀ t∈ts,t∈ks:=fun t ht=>Wd.full hk hsub (by rw [List.length_cons];omega) (List.mem_cons_of_mem _ ht)
  have h1:=hm (fun k=>∃ m,iT ts (pk us) m k∉ts) ⟨0,hp⟩ fun w hw ⟨m,h⟩=>⟨m+1,by rw [gA,hst w hw];exact h⟩
  exact wE fun t ht=>h1 t (hall t ht)
 ·intro h
  have hto:∀ m t,(t=p∨t∈ts)->iT ts (pk us) m t∉ts->t∈ks:=fun m=>by
   induction m with
   | zero =>
    intro t ht hn
    rcases ht with z | z
    ·rw [z];exact hpk
    ·exact absurd z hn
   | succ m ih =>
    intro t ht hn
    rcases ht with z | z
    ·rw [z];exact hpk
    ·obtain ⟨w,hw,rfl⟩:=hof t z
     rw [gA,hst w hw] at hn
     exact hc w hw (ih _ (he w hw) hn)
  have h1:(p::ts).length<=ks.length:=kI (List.nodup_cons.mpr ⟨hp,hts⟩) fun x hx=>by
   rcases List.mem_cons.mp hx with z | z
   ·rw [z];exact hpk
   ·exact hto _ x (.inr z) (h x z)
  have h2:=kI hk hsub
  rw [List.length_cons] at h1 h2
  omega
end Dt
namespace Dt
open Wd Hg
def Rb (us:List W)(p z:W):Prop:=∀ χ:W->Prop,χ p->(∀ w∈us,χ (fin w)->χ (beg w))->χ z
theorem Rb.mono {us vs:List W}{p z:W}(h:Rb us p z)(s:∀ w∈us,w∈vs∨beg w=p):Rb vs p z:=fun χ h1 h2=>h χ h1 fun w hw hf=>by
 rcases s w hw with e | e
 ·exact h2 w e hf
 ·rw [e];exact h1
def okP (ts:List W)(p:W)(us:List W):Prop:=∀ t∈ts,Rb us p t
theorem okP.mono {ts us vs:List W}{p:W}(h:okP ts p us)(s:∀ w∈us,w∈vs∨beg w=p):okP ts p vs:=fun t ht=>(h t ht).mono s
theorem Kw {ts us:List W}{p:W}(hts:ts.Nodup)(hp:p∉ts)(hb:us.map beg=ts)(he:∀ w∈us,fin w=p∨fin w∈ts):okP ts p us↔cmT ts (pk us)=true:=by
 have hbn:(us.map beg).Nodup:=by rw [hb];exact hts
 have hin:∀ w∈us,beg w∈ts:=fun w hw=>by rw [<- hb];exact List.mem_map_of_mem hw
 have hof:∀ t∈ts,∃ w∈us,beg w=t:=fun t ht=>by rw [<- hb] at ht;exact List.mem_map.mp ht
 have hst:∀ w∈us,sT ts (pk us) (beg w)=fin w:=fun w hw=>by
  unfold sT
  rw [if_pos (hin w hw),yL hbn w hw]
  rfl
 have hcm:cmT ts (pk us)=true↔∀ t∈ts,iT ts (pk us) ts.length t∉ts:=by
  unfold cmT
  rw [List.all_eq_true]
  exact ⟨fun h t ht=>of_decide_eq_true (h t ht),fun h t ht=>decide_eq_true (h t ht)⟩
 rw [hcm]
 constructor
 ·intro h
  exact wE fun t ht=>h t ht (fun k=>∃ m,iT ts (pk us) m k∉ts) ⟨0,hp⟩ fun w hw ⟨m,h⟩=>⟨m+1,by rw [gA,hst w hw];exact h⟩
 ·intro h t ht χ h1 h2
  have hto:∀ m t,(t=p∨t∈ts)->iT ts (pk us) m t∉ts->χ t:=fun m=>by
   induction m with
   | zero =>
    intro t ht hn
    rcases ht with z | z
    ·rw [z];exact h1
    ·exact absurd z hn
   | succ m ih =>
    intro t ht hn
    rcases ht with z | z
    ·rw [z];exact h1
    ·obtain ⟨w,hw,rfl⟩:=hof t z
     rw [gA,hst w hw] at hn
     exact h2 w hw (ih _ (he w hw) hn)
  exact hto _ t (.inr ht) (h t ht)
theorem Di {ts us ks:List W}{p:W}(hts:ts.Nodup)(hp:p∉ts)(hin:∀ w∈us,beg w=p∨beg w∈ts)(hk:ks.Nodup)(hpk:p∈ks)(hc:∀ w∈us,fin w∈ks->beg w∈ks)(hm:∀ χ:W->Prop,χ p->(∀ w∈us,χ (fin w)->χ (beg w))->∀ k∈ks,χ k) :
  ks.length=ts.length+1↔okP ts p us:=by
 have hsub:∀ k∈ks,k∈p::ts:=hm (fun k=>k∈p::ts) (List.mem_cons_self ..) fun w hw _=>by
  rcases hin w hw with e | e
  ·rw [e];exact List.mem_cons_self ..
  ·exact List.mem_cons_of_mem _ e
 constructor
 ·intro hl t ht χ h1 h2
  exact hm χ h1 h2 t (Wd.full hk hsub (by rw [List.length_cons];omega) (List.mem_cons_of_mem _ ht))
 ·intro h
  have h1:(p::ts).length<=ks.length:=kI (List.nodup_cons.mpr ⟨hp,hts⟩) fun x hx=>by
   rcases List.mem_cons.mp hx with z | z
   ·rw [z];exact hpk
   ·exact h x z (·∈ks) hpk hc
  have h2:=kI hk hsub
  rw [List.length_cons] at h1 h2
  omega
def gL (g:W->List W):List W->List (List W)
 | []=>[[]]
 | t::r=>(g t).flatMap fun w=>(gL g r).map fun us=>w::us
theorem sZ {g:W->List W}{t:W}:∀ {r:List W},gL g (r++[t])=(gL g r).flatMap fun us=>(g t).map fun w=>us++[w]
 | []=>by
  show ((g t).flatMap fun w=>[[w]])=[[]].flatMap _
  rw [List.flatMap_cons,List.flatMap_nil,List.append_nil]
  induction g t with
  | nil=>rfl
  | cons w l ih=>rw [List.flatMap_cons,ih];rfl
 | x::r=>by
  show ((g x).flatMap fun w=>(gL g (r++[t])).map fun us=>w::us)=((g x).flatMap fun w=>(gL g r).map fun us=>w::us).flatMap _
  rw [List.flatMap_assoc]
  have fc:∀ {f k:W->List (List W)} {l:List W},(∀ x∈l,f x=k x)->l.flatMap f=l.flatMap k:=fun {f k l} h=>by rw [List.flatMap_def,List.flatMap_def,List.map_congr_left h]
  refine fc fun w _=>?_
  rw [sZ,List.map_flatMap,List.flatMap_map]
  have fc2:∀ {f k:List W->List (List W)} {l:List (List W)},(∀ x∈l,f x=k x)->l.flatMap f=l.flatMap k:=fun {f k l} h=>by rw [List.flatMap_def,List.flatMap_def,List.map_congr_left h]
  refine fc2 fun us _=>?_
  rw [List.map_map]
  rfl
theorem lT {g:W->List W}:∀ {r:List W} {us:List W},(∀ t∈r,∀ w∈g t,beg w=t)->us∈gL g r->us.map beg=r∧∀ w∈us,w∈g (beg w)
 | [],us,_,h=>by
  rw [List.mem_singleton.mp h]
  exact ⟨rfl,fun w hw=>by cases hw⟩
 | t::r,us,hb,h=>by
  obtain ⟨w,hw,h⟩:=List.mem_flatMap.mp h
  obtain ⟨vs,hv,rfl⟩:=List.mem_map.mp h
  obtain ⟨h1,h2⟩:=lT (fun x hx=>hb x (List.mem_cons_of_mem _ hx)) hv
  have hwt:=hb t (List.mem_cons_self ..) w hw
  refine ⟨by rw [List.map_cons,h1,hwt],fun v hv=>?_⟩
  rcases List.mem_cons.mp hv with z | z
  ·rw [z,hwt];exact hw
  ·exact h2 v z
theorem oX {g g':W->List W}:∀ {r:List W},(∀ t∈r,g t=g' t)->gL g r=gL g' r
 | [],_=>rfl
 | t::r,h=>by
  show ((g t).flatMap fun w=>(gL g r).map fun us=>w::us)=_
  rw [h t (List.mem_cons_self ..),oX fun x hx=>h x (List.mem_cons_of_mem _ hx)]
  rfl
theorem Ac {ts:List W}:∀ {r:List W} {g:W->List W},r.Nodup->(∀ t∈r,∀ w∈g t,beg w=t)->trs ts r g=(gL g r).filter fun us=>cmT ts (fun t=>if t∈r then pk us t else (g t).headD [])
 | [],g,_,_=>by
  have e:cmT ts (fun t=>if t∈([]:List W) then pk [] t else (g t).headD [])=cmT ts (fun t=>(g t).headD []):=fJ fun t _=>if_neg (by simp)
  show (if cmT ts (fun t=>(g t).headD [])=true then [[]] else [])=List.filter _ [[]]
  rw [List.filter_cons,e]
  rfl
 | t::r,g,hn,hb=>by
  obtain ⟨hn1,hn2⟩:=List.nodup_cons.mp hn
  have hne:∀ x∈r,x≠t:=fun x hx e=>hn1 (e▸hx)
  show ((g t).flatMap fun w=>(trs ts r (eG g t w)).map fun us=>w::us)=((g t).flatMap fun w=>(gL g r).map fun us=>w::us).filter _
  rw [List.filter_flatMap]
  have fc:∀ {f k:W->List (List W)} {l:List W},(∀ x∈l,f x=k x)->l.flatMap f=l.flatMap k:=fun {f k l} h=>by rw [List.flatMap_def,List.flatMap_def,List.map_congr_left h]
  refine fc fun w hw=>?_
  have hwt:=hb t (List.mem_cons_self ..) w hw
  rw [Ac hn2 fun x hx v hv=>hb x (List.mem_cons_of_mem _ hx) v (by rw [dC (hne x hx)] at hv;exact hv),oX (g:=eG g t w) (g':=g) fun x hx=>dC (hne x hx),List.filter_map]
  congr 1
  refine List.filter_congr fun vs _=>?_
  refine fJ fun x _=>?_
  by_cases hx:x=t
  ·rw [hx,if_neg hn1,if_pos (List.mem_cons_self ..),fZ,<- hwt,Ar]
   rfl
  ·by_cases hr:x∈r
   ·rw [if_pos hr,if_pos (List.mem_cons_of_mem _ hr)]
    show _=if beg w=x then w else pk vs x
    rw [if_neg fun z=>hx (z.symm.trans hwt)]
   ·rw [if_neg hr,if_neg fun z=>(List.mem_cons.mp z).elim hx hr,dC hx]
open Classical in
def grL (ts:List W)(p:W)(pre:List (List W))(ws lt:List W):List (List W):=pre.flatMap fun us=>(ws.filter fun w=>decide (okP ts p (us++[w]++lt))).map fun w=>us++[w]
def ltr (ms:List W)(t:W):List W:=ms.filter fun w=>decide (t<beg w)
open Classical in
def Stg (ms ts:List W)(p:W)(i:Nat)(L:List (List W)):Prop:=L=(gL (og ms) (ts.take i)).filter fun us=>decide (i=0∨okP ts p (us++ltr ms ((ts[i-1]?).getD [])))
theorem Stg.zero {ms ts:List W}{p:W}:Stg ms ts p 0 [[]]:=by
 unfold Stg
 rw [List.take_zero]
 show [[]]=List.filter _ [[]]
 rw [List.filter_cons_of_pos (by simp)]
 rfl
open Classical in
theorem Stg.next {ms ts:List W}{p t:W}{i:Nat}{L:List (List W)}(ha:ts.Pairwise (· < ·))(h:Stg ms ts p i L)(ht:ts[i]?=some t):Stg ms ts p (i+1) (grL ts p L (og ms t) (ltr ms t)):=by
 unfold Stg at h ⊢
 have htk:ts.take (i+1)=ts.take i++[t]:=by rw [List.take_add_one,ht];rfl
 have hgt:(ts[i+1-1]?).getD []=t:=by rw [Nat.add_sub_cancel,ht];rfl
 rw [htk,sZ,hgt,h]
 unfold grL
 rw [List.filter_flatMap]
 generalize hA:gL (og ms) (ts.take i)=A
 have hmem:∀ us∈A,us.map beg=ts.take i∧∀ w∈us,w∈og ms (beg w):=fun us hu=>lT (g:=og ms) (fun t _ w hw=>(jR.mp hw).2) (hA▸hu)
 clear hA
 induction A with
 | nil=>rfl
 | cons us A ih =>
  have ih:=ih fun v hv=>hmem v (List.mem_cons_of_mem _ hv)
  obtain ⟨hu1,hu2⟩:=hmem us (List.mem_cons_self ..)
  rw [List.flatMap_cons]
  have hblk:(List.filter (fun us=>decide (i+1=0∨okP ts p (us++ltr ms t))) ((og ms t).map fun w=>us++[w]))=((og ms t).filter fun w=>decide (okP ts p (us++[w]++ltr ms t))).map fun w=>us++[w]:=by
   rw [List.filter_map]
   congr 1
   refine List.filter_congr fun w _=>?_
   show decide (i+1=0∨okP ts p (us++[w]++ltr ms t))=_
   exact decide_eq_decide.mpr ⟨fun z=>z.resolve_left (by omega),.inr⟩
  rw [hblk]
  by_cases hk:i=0∨okP ts p (us++ltr ms ((ts[i-1]?).getD []))
  ·rw [List.filter_cons_of_pos (p:=fun us=>decide (i=0∨okP ts p (us++ltr ms ((ts[i-1]?).getD [])))) (decide_eq_true hk),List.flatMap_cons,ih]
  ·rw [List.filter_cons_of_neg (p:=fun us=>decide (i=0∨okP ts p (us++ltr ms ((ts[i-1]?).getD [])))) (fun z=>hk (of_decide_eq_true z)),ih]
   have:((og ms t).filter fun w=>decide (okP ts p (us++[w]++ltr ms t)))=[]:=by
    rw [List.filter_eq_nil_iff]
    intro w hw z
    refine hk (.inr ((of_decide_eq_true z).mono fun v hv=>?_))
    left
    by_cases hi:i=0
    ·exact absurd (.inl hi) hk
    obtain ⟨t',ht'⟩:∃ t',ts[i-1]?=some t':=⟨_,List.getElem?_eq_getElem (by have:=(List.getElem?_eq_some_iff.mp ht).1;omega)⟩
    have hlt:t'<t:=by
     have h1:=List.pairwise_iff_getElem.mp ha (i-1) i (List.getElem?_eq_some_iff.mp ht').1 (List.getElem?_eq_some_iff.mp ht).1 (by omega)
     rw [(List.getElem?_eq_some_iff.mp ht').2,(List.getElem?_eq_some_iff.mp ht).2] at h1
     exact h1
    rw [ht']
    show v∈us++ltr ms t'
    rcases List.mem_append.mp hv with z | z
    ·rcases List.mem_append.mp z with z | z
     ·exact List.mem_append_left _ z
     ·rw [List.mem_singleton.mp z]
      refine List.mem_append_right _ (List.mem_filter.mpr ⟨(jR.mp hw).1,decide_eq_true ?_⟩)
      rw [(jR.mp hw).2]
      exact hlt
    ·obtain ⟨z1,z2⟩:=List.mem_filter.mp z
     exact List.mem_append_right _ (List.mem_filter.mpr ⟨z1,decide_eq_true (List.lt_trans hlt (of_decide_eq_true z2))⟩)
   rw [this]
   rfl
theorem Stg.len {ms ts:List W}{p:W}{i:Nat}{L:List (List W)}(h:Stg ms ts p i L):L.length<=(gL (og ms) (ts.take i)).length:=by
 unfold Stg at h
 rw [h]
 exact List.length_filter_le ..
open Classical in
theorem Stg.last {ms ts:List W}{p:W}{L:List (List W)}(ha:ts.Pairwise (· < ·))(hp:p∉ts)(hpc:∀ w∈ms,(beg w=p∨beg w∈ts)∧(fin w=p∨fin w∈ts))(h:Stg ms ts p ts.length L):L=trs ts ts (og ms):=by
 have hn:ts.Nodup:=ha.imp fun z e=>absurd (e▸z) (List.lt_irrefl _)
 unfold Stg at h
 rw [List.take_length] at h
 rw [h,Ac hn fun t _ w hw=>(jR.mp hw).2]
 refine List.filter_congr fun us hu=>?_
 obtain ⟨h1,h2⟩:=lT (g:=og ms) (fun t _ w hw=>(jR.mp hw).2) hu
 rw [fJ (f':=pk us) fun t ht=>if_pos ht,Bool.eq_iff_iff,decide_eq_true_iff,<- Kw hn hp h1 fun w hw=>(hpc w (jR.mp (h2 w hw)).1).2]
 constructor
 ·rintro (z | z)
  ·intro t ht
   rw [List.length_eq_zero_iff.mp z] at ht
   cases ht
  ·refine z.mono fun w hw=>?_
   rcases List.mem_append.mp hw with e | e
   ·exact .inl e
   ·obtain ⟨e1,e2⟩:=List.mem_filter.mp e
    right
    refine ((hpc w e1).1).resolve_right fun hm=>?_
    have e2:=of_decide_eq_true e2
    obtain ⟨k,hk1,hk2⟩:=List.getElem_of_mem hm
    have hl:ts.length-1<ts.length:=by omega
    rw [List.getElem?_eq_getElem hl] at e2
    have e2:ts[ts.length-1]<beg w:=e2
    by_cases e3:k=ts.length-1
    ·subst e3
     rw [hk2] at e2
     exact List.lt_irrefl _ e2
    ·have h3:=List.pairwise_iff_getElem.mp ha k (ts.length-1) hk1 hl (by omega)
     rw [hk2] at h3
     exact List.lt_irrefl _ (List.lt_trans e2 h3)
 ·intro z
  by_cases e:ts.length=0
  ·exact .inl e
  ·exact .inr (z.mono fun w hw=>.inl (List.mem_append_left _ hw))
end Dt
namespace Dt
open Wd Hg
section
variable {ms us ps:List W}{p q x m0:W}{n k:Nat}
end
end Dt
namespace Dt
open Wd Hg
end Dt
namespace L2
open PySem PySem.Spec PyProof.Rows
def tx (l:List Nat):Str:=⟨l.toArray⟩
abbrev T (l:List Nat):V:=.str (tx l)
theorem fT (l:List Nat):(tx l).length=l.length:=by simp [tx,Str.length]
theorem cW (l:List Nat):(tx l).cps.toList=l:=by simp [tx]
theorem iR (x:Str):tx x.cps.toList=x:=by cases x;simp [tx]
theorem fD {a b:List Nat}(h:tx a=tx b):a=b:=by
 have e:=congrArg (fun x:Str=>x.cps.toList) h
 simpa [tx] using e
theorem Oq {a b:List Nat}(h:T a=T b):a=b:=fD (V.str.inj h)
theorem Kn {a b:List Nat}:decide (T a=T b)=decide (a=b):=by
 rw [Bool.eq_iff_iff,decide_eq_true_iff,decide_eq_true_iff]
 exact ⟨Oq,fun h=>by rw [h]⟩
theorem Nc (a b:List Nat):tx a++tx b=tx (a++b):=by
 rw [<- iR (tx a++tx b),PySem.W.KT.app_list,cW,cW]
section
variable {X:Cx}
theorem dO:OpR X (binaryOp .Add) (fun x y H Q=>∃ a,x=T a∧∃ b,y=T b∧a.length+b.length<=sizeLine∧Q (T (a++b)) H):=by
 intro pins s σ H x y v u Q I rx ry h
 obtain ⟨a,e1,b,e2,hz,q⟩:=h
 exact yQ pins s σ H x y v u Q I rx ry ⟨tx a,tx b,e1,e2,by rw [fT,fT];exact hz,by rw [Nc];exact q⟩
theorem Ir:OpR X (compareOp .Lt) (fun x y H Q=>∃ a,x=T a∧∃ b,y=T b∧Q (.bl (decide (a<b))) H):=by
 intro pins s σ H x y v u Q I rx ry h
 obtain ⟨a,e1,b,e2,q⟩:=h
 exact Cj pins s σ H x y v u Q I rx ry ⟨tx a,tx b,e1,e2,by rw [cW,cW];exact q⟩
theorem Jh:OpR X (compareOp .Gt) (fun x y H Q=>∃ a,x=T a∧∃ b,y=T b∧Q (.bl (decide (b<a))) H):=by
 intro pins s σ H x y v u Q I rx ry h
 obtain ⟨a,rfl,b,rfl,q⟩:=h
 obtain ⟨t,rfl⟩:=rx
 obtain ⟨t',rfl⟩:=ry
 exact PySem.P.gt_str (bU I q (by rw [cW,cW]))
theorem kJ:OpR X (compareOp .Eq) (fun x y H Q=>∃ a,x=T a∧∃ b,y=T b∧Q (.bl (decide (a=b))) H):=by
 intro pins s σ H x y v u Q I rx ry h
 obtain ⟨a,rfl,b,rfl,q⟩:=h
 exact Kr pins s σ H _ _ v u Q I rx ry ⟨rfl,by rw [Kn];exact q⟩
theorem iO:OpR X (compareOp .NotEq) (fun x y H Q=>∃ a,x=T a∧∃ b,y=T b∧Q (.bl (!decide (a=b))) H):=by
 intro pins s σ H x y v u Q I rx ry h
 obtain ⟨a,rfl,b,rfl,q⟩:=h
 exact Kd pins s σ H _ _ v u Q I rx ry ⟨rfl,by rw [Kn];exact q⟩
theorem cG:OpR X (compareOp .Eq) (fun x y H Q=>∃ a,x = .int a∧∃ b,y = .int b∧Q (.bl (decide (a=b))) H):=by
 intro pins s σ H x y v u Q I rx ry h
 obtain ⟨a,rfl,b,rfl,q⟩:=h
 exact Kr pins s σ H _ _ v u Q I rx ry ⟨rfl,by rw [oT,Bool.beq_eq_decide_eq];exact q⟩
theorem jE:OpR X (compareOp .NotEq) (fun x y H Q=>∃ a,x = .int a∧∃ b,y = .int b∧Q (.bl (!decide (a=b))) H):=by
 intro pins s σ H x y v u Q I rx ry h
 obtain ⟨a,rfl,b,rfl,q⟩:=h
 exact Kd pins s σ H _ _ v u Q I rx ry ⟨rfl,by rw [oT,Bool.beq_eq_decide_eq];exact q⟩
def fE (l:List Nat)(lo hi:Option Int):List Nat:=(l.drop (HT.sIx l.length 0 lo)).take (HT.sIx l.length l.length hi-HT.sIx l.length 0 lo)
theorem mF (v:Option Int)(n d:Nat):(match v with | none=>(d:Int) | some i=>max 0 (min (if i<0 then i+(n:Int) else i) (n:Int)))=((HT.sIx n d v:Nat):Int):=by
 cases v with
 | none=>rfl
 | some i =>
  show max 0 (min (if i<0 then i+(n:Int) else i) (n:Int))=(((if i<0 then (i+(n:Int)).toNat else min i.toNat n):Nat):Int)
  by_cases hi:i<0
  ·simp only [if_pos hi];omega
  ·simp only [if_neg hi];omega
theorem wO (lo hi:Option Int)(n:Nat):Builtin.Str.strSliceIndices lo hi 1 n=Builtin.Str.strSliceIndices (some ((HT.sIx n 0 lo:Nat):Int)) (some ((HT.sIx n n hi:Nat):Int)) 1 n:=by
 have h1:=HT.uN n 0 (Nat.zero_le _) lo
 have h2:=HT.uN n n (Nat.le_refl _) hi
 have c1:=mF lo n 0
 have c2:=mF hi n n
 have d1:=mF (some ((HT.sIx n 0 lo:Nat):Int)) n 0
 have d2:=mF (some ((HT.sIx n n hi:Nat):Int)) n n
 rw [HT.dB,Nat.min_eq_left h1] at d1
 rw [HT.dB,Nat.min_eq_left h2] at d2
 unfold Builtin.Str.strSliceIndices
 simp only [show ((1:Int)>0) from by decide,if_true]
 have g:∀ a b c d:Int,a=c->b=d->sliceRange a b 1=sliceRange c d 1:=fun a b c d h1 h2=>by rw [h1,h2]
 exact g _ _ _ _ (c1.trans d1.symm) (c2.trans d2.symm)
theorem Gd (l:List Nat)(lo hi:Option Int):Txt.slice (tx l) lo hi=tx (fE l lo hi):=by
 have h1:=HT.uN l.length 0 (Nat.zero_le _) lo
 have h2:=HT.uN l.length l.length (Nat.le_refl _) hi
 unfold Txt.slice
 rw [fT,wO]
 by_cases hab:HT.sIx l.length 0 lo<=HT.sIx l.length l.length hi
 ·have e:=StrLaws.sliceText_nat (tx l) hab (by rw [fT];exact h2)
  unfold StrLaws.sliceText at e
  rw [fT,cW] at e
  exact e
 ·have e0:Builtin.Str.strSliceIndices (some ((HT.sIx l.length 0 lo:Nat):Int)) (some ((HT.sIx l.length l.length hi:Nat):Int)) 1 l.length=[]:=by
   unfold Builtin.Str.strSliceIndices sliceRange
   have n1:¬ (((HT.sIx l.length 0 lo:Nat):Int)<0):=by omega
   have n2:¬ (((HT.sIx l.length l.length hi:Nat):Int)<0):=by omega
   simp only [show ((1:Int)>0) from by decide,if_true,if_neg n1,if_neg n2]
   have n3:¬ (max (0:Int) (min ((HT.sIx l.length 0 lo:Nat):Int) (l.length:Int))<max (0:Int) (min ((HT.sIx l.length l.length hi:Nat):Int) (l.length:Int))):=by omega
   simp [n3]
  have e1:fE l lo hi=[]:=by
   unfold fE
   rw [show HT.sIx l.length l.length hi-HT.sIx l.length 0 lo=0 by omega,List.take_zero]
  rw [e0,e1]
  cases l with
  | nil=>rfl
  | cons c r=>rfl
theorem kU:SlR X (fun x lo hi H Q=>∃ a,x=T a∧a.length<=sizeLine∧Q (T (fE a lo hi)) H):=by
 intro pins s σ H x v vl vu lo hi sl Q I rx hs pl pu h
 obtain ⟨a,rfl,hz,q⟩:=h
 obtain ⟨t,rfl⟩:=rx
 obtain ⟨l,hl1,hl2⟩:∃ l:Option (Int×Tok),partValue l=vl∧l.map (·.1)=lo:=by
  cases pl with
  | none=>exact ⟨none,rfl,rfl⟩
  | int i t=>exact ⟨some (i,t),rfl,rfl⟩
 obtain ⟨u,hu1,hu2⟩:∃ u:Option (Int×Tok),partValue u=vu∧u.map (·.1)=hi:=by
  cases pu with
  | none=>exact ⟨none,rfl,rfl⟩
  | int i t=>exact ⟨some (i,t),rfl,rfl⟩
 refine ⟨"str",_,F.slot_str_getitem.lookup,typeIs_str _ _ _,?_⟩
 have hsl:s.heap.IsSlice sl l u none:=by
  obtain ⟨o,ho,hc,hd⟩:=hs
  exact ⟨o,ho,hc,by rw [hl1,hu1];exact hd⟩
 refine wpAny_getItem_str_slice hsl rfl ?_
 have key:(if ((1:Int)==1&&(Builtin.Str.strSliceIndices lo hi 1 (tx a).length).length==(tx a).length)=true then (tx a) else ⟨((Builtin.Str.strSliceIndices lo hi 1 (tx a).length).filterMap ((tx a).cps[·]?)).toArray⟩)=tx (fE a lo hi):=Gd a lo hi
 unfold sliceMade slicePicked
 rw [hl2,hu2]
 refine post_val_or_str ⟨?_,fun t' k=>?_⟩
 ·show (Txt.slice (tx a) lo hi).length<=sizeLine
  exact Nat.le_trans (Txt.slice_le _ _ _) (by rw [fT];exact hz)
 ·refine ⟨T (fE a lo hi),H,I.tok _,⟨t',?_⟩,q⟩
  exact congrArg (fun z=>Value.str z t') key
theorem xV (n:Nat)(l:List Nat):(Wd.rep n l).length=n*l.length:=Wd.zO n l
theorem Co (n:Nat)(c:Array Nat):∀ acc:Array Nat,(List.replicate n c).foldl (· ++ ·) acc=acc++(Wd.rep n c.toList).toArray:=by
 induction n with
 | zero=>intro acc;simp [Wd.rep]
 | succ n ih =>
  intro acc
  rw [List.replicate_succ,List.foldl_cons,ih]
  rw [Wd.pJ,Array.append_assoc]
  congr 1
  apply Array.ext'
  simp
theorem Lc (n:Nat)(l:List Nat):Txt.mul (tx l) (n:Int)=tx (Wd.rep n l):=by
 unfold Txt.mul
 by_cases h1:(n:Int)<1
 ·have e:n=0:=by omega
  subst e
  rw [if_pos h1]
  rfl
 ·rw [if_neg h1]
  by_cases h2:((n:Int)==1||(tx l).length==0)=true
  ·rw [if_pos h2]
   rw [Bool.or_eq_true,beq_iff_eq,beq_iff_eq,fT] at h2
   rcases h2 with h2 | h2
   ·have e:n=1:=by omega
    subst e
    rw [Wd.Jt]
   ·have e:l=[]:=List.length_eq_zero_iff.mp h2
    subst e
    have:Wd.rep n []=[]:=List.length_eq_zero_iff.mp (by rw [xV];simp)
    rw [this]
  ·rw [if_neg h2,Int.toNat_natCast,Co]
   simp [tx]
theorem wC:OpR X (binaryOp .Mult) (fun x y H Q=>∃ a,x=T a∧∃ n:Nat,y = .int n∧(n<=sizeLine∧n*a.length<=sizeLine)∧Q (T (Wd.rep n a)) H):=by
 intro pins s σ H x y v u Q I rx ry h
 obtain ⟨a,rfl,n,rfl,⟨h1,h2⟩,q⟩:=h
 obtain ⟨t,rfl⟩:=rx
 obtain ⟨t',rfl⟩:=ry
 have hs:sizeLine=16777216:=sizeLine_eq
 refine SB.mul ⟨?_,?_,?_⟩ fun t' k=>⟨T (Wd.rep n a),H,I.tok _,⟨t',by rw [Lc]⟩,q⟩
 ·have e1:decide ((n:Int) < -(2 ^ 63:Int))=false:=decide_eq_false (by omega)
  have e2:decide ((n:Int)≥2 ^ 63)=false:=decide_eq_false (by omega)
  rw [e1,e2]
  rfl
 ·intro hn _
  rw [fT]
  have h3:n*a.length<=16777216:=by omega
  intro hc
  have h4:((n*a.length:Nat):Int)<=16777216:=by omega
  have hn':(0:Int)<n:=by omega
  have h5:((2 ^ 63-1)/(n:Int))*n<=2 ^ 63-1:=Int.ediv_mul_le _ (by omega)
  have h6:(2 ^ 63-1:Int)<((2 ^ 63-1)/(n:Int)+1)*n:=Int.lt_ediv_add_one_mul_self _ hn'
  have h7:((2 ^ 63-1)/(n:Int)+1)*n<=(a.length:Int)*n:=Int.mul_le_mul_of_nonneg_right (by omega) (by omega)
  have h8:((n*a.length:Nat):Int)=(a.length:Int)*n:=by rw [Int.natCast_mul,Int.mul_comm]
  omega
 ·intro hn _
  rw [fT,Int.toNat_natCast,Nat.mul_comm]
  unfold Builtin.Str.tooLong
  exact decide_eq_false (by omega)
theorem sE:∀ {ls:List (List Nat)} {us:List Value},bR (ls.map T) us->StrsAre us (ls.map tx)
 | [],us,r=>by
  cases r
  exact .nil
 | l::ls,us,r=>by
  rw [List.map_cons] at r
  cases r with
  | cons r1 r2 =>
   obtain ⟨t,rfl⟩:=r1
   exact .cons _ _ (sE r2)
end
end L2
namespace L2
theorem hZ {w:List Nat}{k:Nat}(h:k<=w.length):fE w (some (k:Int)) none=w.drop k:=by
 unfold fE
 rw [HT.dB,HT.eC,Nat.min_eq_left h]
 exact List.take_of_length_le (by rw [List.length_drop];omega)
theorem Iw {w:List Nat}{k:Nat}(h:k<=w.length):fE w none (some (k:Int))=w.take k:=by
 unfold fE
 rw [HT.dB,HT.eC,Nat.min_eq_left h,List.drop_zero,Nat.sub_zero]
theorem Eo {w:List Nat}{a b:Nat}(hb:b<=w.length)(hab:a<=b):fE w (some (a:Int)) (some (b:Int))=(w.drop a).take (b-a):=by
 unfold fE
 rw [HT.dB,HT.dB,Nat.min_eq_left hb,Nat.min_eq_left (show a<=w.length by omega)]
end L2
namespace L2
open PySem PySem.Spec PyProof.Rows
set_option genInjectivity false in
structure cI (N N':List Str)(sc scope:Scope)(x:Str):Prop where
 kind:scope.kind = .function
 cell:∀ y∈scope.names,y.2≠.cell
 names:∀ y∈scope.names,y.2 = .local->scope.names.lookup y.1=some .local
 var:scope.names.lookup x=some .local
 ok:∀ y∈scope.names,y.2 = .free->sc.names.lookup y.1=some .cell∨sc.names.lookup y.1=some .free
 hd:N'[0]?=some x
 len:N'.length=N.length+1
 sub:∀ i,i<N.length->N'[i+1]?=N[i]?∨(N'[i+1]?.map fun y=>scope.names.lookup y)=some none
 noe:scope.names.lookup ("" : Str)=none
 nol:∀ y∈N'.tail,scope.names.lookup y≠some .local
 nd:N'.Nodup
def cV (cells:List (Str×Addr)):List (Str×NameKind)->List (Str×Addr)->List (Str×Addr)
 | [],acc=>acc
 | (n,k)::r,acc=>cV cells r (if k == .free then (n,(cells.lookup n).getD 0)::acc else acc)
theorem lM {cells:List (Str×Addr)}{y:Str}{c:Addr}:∀ (names:List (Str×NameKind)) (acc:List (Str×Addr)),(∀ z∈names,z.2 = .free->∃ c,cells.lookup z.1=some c) ->
  (acc.lookup y=some c->cells.lookup y=some c)->(cV cells names acc).lookup y=some c->cells.lookup y=some c
 | [],acc,_,ha,h=>ha h
 | (n,k)::r,acc,hz,ha,h=>by
  unfold cV at h
  refine lM r _ (fun z hm=>hz z (List.mem_cons_of_mem _ hm)) (fun q=>?_) h
  split at q
  ·rename_i hk
   obtain ⟨c',e⟩:=hz (n,k) List.mem_cons_self (by simpa using hk)
   rw [List.lookup_cons] at q
   split at q
   ·rename_i he
    have:y=n:=by simpa using he
    subst this
    rw [e] at q
    rw [e]
    exact q
   ·exact ha q
  ·exact ha q
theorem vW {cells:List (Str×Addr)}{y:Str}:∀ (names:List (Str×NameKind)) (acc:List (Str×Addr)),(∃ c,acc.lookup y=some c)->∃ c,(cV cells names acc).lookup y=some c
 | [],acc,h=>h
 | (n,k)::r,acc,⟨c,h⟩=>by
  unfold cV
  refine vW r _ ?_
  split
  ·rw [List.lookup_cons]
   split
   ·exact ⟨_,rfl⟩
   ·exact ⟨c,h⟩
  ·exact ⟨c,h⟩
theorem oZ {cells:List (Str×Addr)}{y:Str}:∀ (names:List (Str×NameKind)) (acc:List (Str×Addr)),(y,NameKind.free)∈names->∃ c,(cV cells names acc).lookup y=some c
 | (n,k)::r,acc,h=>by
  unfold cV
  rcases List.mem_cons.mp h with e | h
  ·cases e
   refine vW r _ ⟨(cells.lookup y).getD 0,?_⟩
   simp
  ·exact oZ r _ h
theorem gU {scope:Scope}{env:Env}(h:∀ z∈scope.names,z.2 = .free->∃ c,env.cells.lookup z.1=some c):closureFor scope env=pure (cV env.cells scope.names []):=by
 have gen:∀ (names:List (Str×NameKind)) (acc:List (Str×Addr)),(∀ z∈names,z.2 = .free->∃ c,env.cells.lookup z.1=some c) ->
   (forIn names acc fun (x:Str×NameKind) (r:List (Str×Addr))=>(if (x.2==NameKind.free)=true then (do let a <- cellOf env x.1;pure (ForInStep.yield ((x.1,a)::r))) else pure (ForInStep.yield r):Sem (ForInStep (List (Str×Addr)))))=(pure (cV env.cells names acc):Sem (List (Str×Addr))):=by
  intro names
  induction names with
  | nil=>intro acc _;rfl
  | cons z r ih =>
   intro acc hz
   obtain ⟨n,k⟩:=z
   rw [List.forIn_cons]
   unfold cV
   by_cases hk:(k==NameKind.free)=true
   ·obtain ⟨c,e⟩:=hz (n,k) List.mem_cons_self (by simpa using hk)
    have e':env.cells.lookup n=some c:=e
    simp only [hk,if_true,cellOf,e',pure_bind,Option.getD_some]
    exact ih _ fun z hm=>hz z (List.mem_cons_of_mem _ hm)
   ·simp only [hk,Bool.false_eq_true,if_false,pure_bind]
    exact ih _ fun z hm=>hz z (List.mem_cons_of_mem _ hm)
 have g:=gen scope.names [] h
 unfold closureFor
 refine Eq.trans ?_ (congrArg (fun (m:Sem (List (Str×Addr)))=>m >>= fun cs=>pure cs) g)
 rfl
theorem cF (scope:Scope)(env:Env)(y:Str):(relabel scope env).names.lookup y=(scope.names.lookup y).map fun k=>if (k==NameKind.free&&env.scope.kind == .function&&env.kindOf y==some .cell)=true then NameKind.cell else k:=by
 unfold relabel
 show List.lookup y (scope.names.map fun (n,k)=>if (k==NameKind.free&&env.scope.kind == .function&&env.kindOf n==some .cell)=true then (n,NameKind.cell) else (n,k))=_
 induction scope.names with
 | nil=>rfl
 | cons z r ih =>
  obtain ⟨n,k⟩:=z
  rw [List.map_cons]
  by_cases hy:(y==n)=true
  ·have e:y=n:=by simpa using hy
   subst e
   by_cases hc:(k==NameKind.free&&env.scope.kind == .function&&env.kindOf y==some .cell)=true
   ·simp only [hc,if_true,List.lookup_cons,beq_self_eq_true,Option.map_some]
   ·simp only [hc,if_false,List.lookup_cons,beq_self_eq_true,Option.map_some,Bool.false_eq_true]
  ·have hy':(y==n)=false:=by simpa using hy
   by_cases hc:(k==NameKind.free&&env.scope.kind == .function&&env.kindOf n==some .cell)=true
   ·simp only [hc,if_true,List.lookup_cons,hy']
    exact ih
   ·simp only [hc,if_false,List.lookup_cons,hy',Bool.false_eq_true]
    exact ih
theorem dX {κ:Type}:∀ {l:List (Str×κ)} {y:Str} {k:κ},l.lookup y=some k->(y,k)∈l:=fun h=>PySem.mem_of_lookup h
abbrev bV (X:Cx)(N':List Str)(scope:Scope)(cl:List (Str×Addr))(C:Addr)(s:Shared)(H:Hp)(fp:List Addr):Cx :=
 { X with env:=compEnvC scope cl C X.env,N:=N',s₀:=s,H₀:=H,outer:=X.stack,stack:=X.stack,ex:=fp,fn:=fun _=>false,xe:=fun _ _=>False }
abbrev Nw (cds:List Expr)(env:Env):Sem Bool:=forIn cds true fun c r=>if r=true then do let ok <- isTrue c env (eval c env);pure (ForInStep.yield ok) else pure (ForInStep.yield r)
def PTL (X:Cx)(cds:List Expr)(t:TT):Prop :=
 ∀ (pins:List (Addr×Obj)) (s:Shared) (σ:St) (H:Hp) (Q:Bool->Hp->Prop),Inv X pins σ H s->t σ H Q->wpAny (model X.prog X.w) X.A (Nw cds X.env) (TP X pins σ Q) X.xe s
theorem Av {X:Cx}:PTL X [] (fun _ H k=>k true H):=fun pins s σ H Q I q=>wpAny_tests_nil ⟨H,I,q⟩
theorem zG {X:Cx}{cd:Expr}{tc:TT}(h:PT X cd tc):PTL X [cd] tc:=fun pins s σ H Q I q=>wpAny_tests_one (h pins s σ H Q I q)
theorem kS {prog:Program}{w:World}{A:Around}{R:Result->Shared->Prop}{s:Shared}{elt target iter:Expr}{cds:List Expr}{scope:Scope}{pos:Pos}{it acc:Value}{env:Env}(I:Nat->Shared->Prop)
  (turn:∀ n s,I n s->wpAny (model prog w) A (pyNext it) (fun r s₁=>match r with
   | none=>R (.ok .next) s₁
   | some v=>wpAny (model prog w) A (letOwnedTupleGo target it v) (fun _ s₁'=>wpAny (model prog w) A (assign target env v) (fun _ s₂=>wpAny (model prog w) A (Nw cds env) (fun ok s₂' =>
    if ok=true then wpAny (model prog w) A (eval elt env) (fun x s₃ =>
     wpAny (model prog w) A (call (.builtin "list.append") [acc,x]) (fun _ s₄=>∃ m,m<n∧I m s₄) (fun _ _=>False) s₃) (fun _ _=>False) s₂'
    else ∃ m,m<n∧I m s₂') (fun _ _=>False) s₂) (fun _ _=>False) s₁') (fun _ _=>False) s₁) (fun _ _=>False) s)
  (n:Nat) (h:I n s) :
  codeAny (model prog w) A (.compLoop (.ListComp elt [⟨target,iter,cds,0⟩] scope pos) 0 it acc env) R s:=by
 refine codeAny_loop rfl I (fun n s hI=>?_) n h
 show wpAny _ A ((compTurn (.ListComp elt [⟨target,iter,cds,0⟩] scope pos) 0 it acc env).onRaise (fun x=>do noteFrame x env;theTreesLotGoes x)) _ _ s
 refine wpAny_noted ?_
 rw [compTurn_list]
 refine wpAny_bind (wpAny_standAt (wpAny_bind (wpAny_mono (turn n s hI) (fun r s₁ h₁=>?_) fun _ _ h'=>h'.elim)))
 cases r with
 | none=>exact wpAny_pure h₁
 | some v =>
  refine wpAny_bind (wpAny_mono h₁ (fun _ s₀ h₀=>?_) fun _ _ h'=>h'.elim)
  refine wpAny_bind (wpAny_mono h₀ (fun _ s₂ h₂=>?_) fun _ _ h'=>h'.elim)
  refine wpAny_bind ((wpAny_mono h₂ (fun ok s₃ h₃=>?_) fun _ _ h'=>h'.elim))
  cases ok with
  | false=>exact wpAny_pure ⟨rfl,by simpa using h₃⟩
  | true =>
   have h₃':=h₃
   simp only [if_true] at h₃'
   exact wpAny_bind (wpAny_bind (wpAny_mono h₃' (fun x s₄ h₄=>wpAny_bind (wpAny_mono h₄ (fun _ s₅ h₅=>wpAny_pure (wpAny_pure ⟨rfl,h₅⟩)) fun _ _ h'=>h'.elim)) fun _ _ h'=>h'.elim))
theorem jP {prog:Program}{w:World}{A:Around}{R:Result->Shared->Prop}{s:Shared}{elt target iter:Expr}{scope:Scope}{pos:Pos}{it acc:Value}{env:Env}(I:Nat->Shared->Prop)
  (turn:∀ n s,I n s->wpAny (model prog w) A (pyNext it) (fun r s₁=>match r with
   | none=>R (.ok .next) s₁
   | some v=>wpAny (model prog w) A (letOwnedTupleGo target it v) (fun _ s₁'=>wpAny (model prog w) A (assign target env v) (fun _ s₂=>wpAny (model prog w) A (eval elt env) (fun x s₃ =>
    wpAny (model prog w) A (call (.builtin "list.append") [acc,x]) (fun _ s₄=>∃ m,m<n∧I m s₄) (fun _ _=>False) s₃)
    (fun _ _=>False) s₂) (fun _ _=>False) s₁') (fun _ _=>False) s₁) (fun _ _=>False) s)
  (n:Nat) (h:I n s) :
  codeAny (model prog w) A (.compLoop (.ListComp elt [⟨target,iter,[],0⟩] scope pos) 0 it acc env) R s:=by
 refine codeAny_loop rfl I (fun n s hI=>?_) n h
 show wpAny _ _ ((compTurn (.ListComp elt [⟨target,iter,[],0⟩] scope pos) 0 it acc env).onRaise (fun x=>do noteFrame x env;theTreesLotGoes x)) _ _ s
 refine wpAny_noted ?_
 rw [compTurn_list1]
 refine wpAny_bind (wpAny_standAt (wpAny_bind (wpAny_mono (turn n s hI) (fun r s₁ h₁=>?_) fun _ _ h'=>h'.elim)))
 cases r with
 | none=>exact wpAny_pure h₁
 | some v =>
  refine wpAny_bind (wpAny_mono h₁ (fun _ s₁' h₁'=>?_) fun _ _ h'=>h'.elim)
  exact wpAny_bind (wpAny_mono h₁' (fun _ s₂ h₂=>wpAny_bind (wpAny_bind (wpAny_mono h₂ (fun x s₃ h₃=>wpAny_bind (wpAny_mono h₃
   (fun _ s₄ h₄=>wpAny_pure (wpAny_pure ⟨rfl,h₄⟩)) fun _ _ h'=>h'.elim)) fun _ _ h'=>h'.elim))) fun _ _ h'=>h'.elim)
def iX (te:TE)(σ:St)(Q:VK)(J:It)(H1:Hp):Prop:=∀ D,H1 D=none->∃ W:Nat->Nat->List V->Hp->Prop,(∃ m,W 0 m [] (upd H1 D (.lst [])))∧∀ i m ys H2,W i m ys H2 ->
 (J.stop i H2∧Q (.ref D) H2)∨(J.go i H2∧ys.length<sizeLine∧∃ N:V->Hp->Prop,(∀ v H',N v H'->H' D=some (.lst ys)∧∃ m',m'<m∧W (i+1) m' (ys++[v]) (upd H' D (.lst (ys++[v])))) ∧
  ∀ y H',J.yld i H2 y H'->te (some y::σ) H' N)
def Kq (wi:TI)(te:TE):TE:=fun σ H Q=>wi σ H (iX te σ Q)
def gS (tc:TT)(te:TE)(σ:St)(Q:VK)(J:It)(H1:Hp):Prop:=∀ D,H1 D=none->∃ W:Nat->Nat->List V->Hp->Prop,(∃ m,W 0 m [] (upd H1 D (.lst [])))∧∀ i m ys H2,W i m ys H2 ->
 (J.stop i H2∧Q (.ref D) H2)∨(J.go i H2∧ys.length<sizeLine∧∃ N:V->Hp->Prop,(∀ v H',N v H'->H' D=some (.lst ys)∧∃ m',m'<m∧W (i+1) m' (ys++[v]) (upd H' D (.lst (ys++[v])))) ∧
  ∃ Nn:Hp->Prop,(∀ H',Nn H'->∃ m',m'<m∧W (i+1) m' ys H') ∧
  ∀ y H',J.yld i H2 y H'->tc (some y::σ) H' fun b H''=>if b=true then te (some y::σ) H'' N else Nn H'')
def Ed (wi:TI)(tc:TT)(te:TE):TE:=fun σ H Q=>wi σ H (gS tc te σ Q)
section
variable {X:Cx}{N':List Str}{scope:Scope}{x:Str}{px:Pos}{elt iter:Expr}{cds:List Expr}{pos:Pos}{te:TE}{tc:TT}{wi:TI}
theorem qT (S:cI X.N N' X.env.scope scope x)(hc:X.calm=true)(ht:∀ cl C s H fp,PTL (bV X N' scope cl C s H fp) cds tc)(he:∀ cl C s H fp,PE (bV X N' scope cl C s H fp) elt te)
  {pins:List (Addr×Obj)} {σ:St} {H:Hp} {s:Shared} {Q:VK} {E:Value->Shared->Prop} {RR:Value->Addr->Result->Shared->Prop} {it:Addr} {fp:List Addr} {tn:Nat->Heap->Prop} {J:It}
  (I:Inv X pins σ H s) (T:tY X.prog X.w X.K (.Name x px) J fp it tn) (st:tn 0 s.heap) (f2:∀ b∈fp,lK X pins H b)
  (hw:gS tc te σ Q J H)
  (hRR:∀ D C s' H',Inv X pins σ H' s'->(∃ m,s'.heap.Ns C m)->C≠X.env.locals->(∀ y c,X.env.cells.lookup y=some c->c≠C)->H' C=none->X.s₀.heap.objs.size<=C->(∀ p∈X.pn++pins,p.1≠C)->Q (.ref D) H'->RR (.ref D) C (.ok .next) s') :
  ∃ cl,closureFor scope X.env=pure cl∧wpAny (model X.prog X.w) X.A (newList []) (fun acc s₃=>wpAny (model X.prog X.w) X.A (newFunctionEnv scope X.env.globals cl [] X.env.qual none .none (some X.env)) (fun cenv s₄ =>
   codeAny (model X.prog X.w) X.A (.compStart (.ListComp elt [⟨.Name x px,iter,cds,0⟩] scope pos) 0 (.ref it) acc { cenv with scope:=relabel scope X.env }) (RR acc cenv.locals) s₄) E s₃) E s:=by
 have hfree:∀ z∈scope.names,z.2 = .free->∃ c,X.env.cells.lookup z.1=some c:=fun z hz hk=>by
  rcases S.ok z hz hk with q | q
  ·exact I.ok.has z.1 (.inl q)
  ·exact I.ok.has z.1 (.inr q)
 refine ⟨_,gU hfree,?_⟩
 have clS:∀ y c,(cV X.env.cells scope.names []).lookup y=some c->X.env.cells.lookup y=some c:=fun y c=>lM scope.names [] hfree fun q=>by cases q
 generalize hcl:cV X.env.cells scope.names []=cl at clS
 have clH:∀ y,scope.names.lookup y=some .free->∃ c,cl.lookup y=some c:=fun y hy=>by
  rw [<- hcl]
  exact oZ scope.names [] (dX hy)
 refine wpAny_newObj_type (wpAny_newFunctionEnv S.cell (by intro y hy;simp at hy) (fun h₁ hns₁ hsb₁=>?_) S.kind)
 have I3:Inv X pins σ (upd H s.heap.objs.size (.lst [])) { s with heap:=s.heap.push { cls:=.type "list",data:=.seq ([]:List Value).toArray } }:=I.lnew (t':=s.toks) .nil (Nat.zero_le _)
 obtain ⟨W,⟨m0,w0⟩,turn⟩:=hw s.heap.objs.size I.fresh
 dsimp only at hns₁ hsb₁ ⊢
 generalize hs3:({ s with heap:=s.heap.push { cls:=.type "list",data:=.seq ([]:List Value).toArray } }:Shared)=s3 at I3
 have hh3:s3.heap=s.heap.push { cls:=.type "list",data:=.seq ([]:List Value).toArray }:=by rw [<- hs3]
 have hsz3:s3.heap.objs.size=s.heap.objs.size+1:=by rw [hh3,Heap.size_push]
 rw [<- hh3] at hns₁ hsb₁ ⊢
 have old:∀ b o,s3.heap.get? b=some o->h₁.get? b=some o:=fun b o e=>hsb₁.extBut b o (by have:=Heap.lt_size e;exact Nat.ne_of_lt this) (Heap.get?_push_of_some _ e)
 have old0:∀ b o,s.heap.get? b=some o->h₁.get? b=some o:=fun b o e=>old b o (by rw [hh3];exact Heap.get?_push_of_some _ e)
 have CneL:s3.heap.objs.size≠X.env.locals:=Nat.ne_of_gt I3.lt
 have CneC:∀ y c,X.env.cells.lookup y=some c->c≠s3.heap.objs.size:=fun y c e z=>by
  obtain ⟨v,q⟩:=I3.cell y c e
  have:=q.lt
  rw [z] at this
  exact absurd this (Nat.lt_irrefl _)
 have CneP:∀ p∈X.pn++pins,p.1≠s3.heap.objs.size:=fun p hp z=>by
  have:=Heap.lt_size (I3.pin p hp).1
  rw [z] at this
  exact absurd this (Nat.lt_irrefl _)
 have CfreeH:∀ b o,s3.heap.get? b=some o->b<s3.heap.objs.size:=fun b o e=>by have:=Heap.lt_size e;exact this
 have fpLt:∀ b∈fp,b<s3.heap.objs.size:=fun b hb=>by
  obtain ⟨o,e,_⟩:=T.obj 0 s.heap st b hb
  rw [hsz3]
  exact Nat.lt_succ_of_lt (Heap.lt_size e)
 have fpD:∀ b∈fp,b≠s.heap.objs.size:=fun b hb=>by
  obtain ⟨o,e,_⟩:=T.obj 0 s.heap st b hb
  exact Nat.ne_of_lt (Heap.lt_size e)
 have ok':(bV X N' scope cl s3.heap.objs.size s3 (upd H s.heap.objs.size (.lst [])) fp).Ok:=by
  refine ⟨I3.ok.mod,?_,I3.ok.glob,I3.ok.blt,Nat.le_refl _,fun y z c h1 h2=>I3.ok.inj y z c (clS y c h1) (clS z c h2),fun y hy=>?_,fun y c hf=>(by cases hf),I3.ok.hd,I3.ok.frames,.inl rfl,fun b hb=>⟨Nat.ne_of_lt (fpLt b hb),fun y c e=>(f2 b hb).2.2.2.2.1 y c (clS y c e)⟩,
   fun b o e=>I3.bs b o e,Nat.le_trans I3.ok.bsz I3.sz,fun b o e hb=>?_,fun b hb z=>?_,I3.stack,I3.stkFree⟩
  ·show (relabel scope X.env).kind = .function
   exact S.kind
  ·have hy':(relabel scope X.env).names.lookup y=some .cell∨(relabel scope X.env).names.lookup y=some .free:=hy
   rw [cF] at hy'
   cases q:scope.names.lookup y with
   | none=>rw [q] at hy';rcases hy' with z | z <;> cases z
   | some k =>
    have hm:=dX q
    cases k with
    | free=>exact clH y q
    | cell=>exact absurd rfl (S.cell _ hm)
    | «local» => rw [q] at hy';rcases hy' with z | z <;> simp at z
    | globalExplicit=>rw [q] at hy';rcases hy' with z | z <;> simp at z
    | globalImplicit=>rw [q] at hy';rcases hy' with z | z <;> simp at z
  ·rcases (f2 b hb).2.2.2.1 with z | z
   ·exact I.ok.noex b o e z
   ·exact absurd (Nat.lt_of_lt_of_le (Heap.lt_size e) (Nat.le_trans I.ok.bsz z)) (Nat.lt_irrefl _)
  ·rcases List.mem_cons.mp (I3.stkSub b z) with q | q
   ·exact (f2 b hb).2.1 q
   ·exact (f2 b hb).2.2.1 q
 have fpOk':∀ {H':Hp},(∀ b∈fp,H' b=none)->∀ b∈fp,lK (bV X N' scope cl s3.heap.objs.size s3 (upd H s.heap.objs.size (.lst [])) fp) pins H' b:=fun hn b hb =>
  ⟨hn b hb,Nat.ne_of_lt (fpLt b hb),fun z=>by
   rcases List.mem_cons.mp (I3.stkSub b z) with q | q
   ·exact (f2 b hb).2.1 q
   ·exact (f2 b hb).2.2.1 q,.inl hb,fun y c e=>(f2 b hb).2.2.2.2.1 y c (clS y c e),(f2 b hb).2.2.2.2.2⟩
 have I4:Inv (bV X N' scope cl s3.heap.objs.size s3 (upd H s.heap.objs.size (.lst [])) fp) pins (none::σ) (upd H s.heap.objs.size (.lst [])) { s3 with heap:=h₁,toks:=s3.toks+([]:List (Str×Value)).length }:=by
  refine ⟨ok',rfl,I3.bare,Un.kept old,⟨_,hns₁,fun i y v e1 e2 vis=>?_⟩,fun y c e=>?_,?_,fun y c e=>I3.freeC y c (clS y c e),fun p hp=>?_,I3.hok.kept old,?_⟩
  ·cases i with
   | zero=>cases e2
   | succ i =>
    have e2':σ[i]?=some (some v):=by simpa using e2
    have hi:i<X.N.length:=by rw [<- I3.len];exact (List.getElem?_eq_some_iff.mp e2').1
    have vis':(relabel scope X.env).names.lookup y=some .local∨(relabel scope X.env).names.lookup y=some .cell∨(relabel scope X.env).names.lookup y=some .free:=vis
    have e1':N'[i+1]?=some y:=e1
    rcases S.sub i hi with q | q
    ·rw [e1'] at q
     have hy:X.N[i]?=some y:=q.symm
     have hmem:y∈N'.tail:=by
      rw [List.mem_iff_getElem?]
      exact ⟨i,by rw [List.getElem?_tail];exact e1'⟩
     have hfr:scope.names.lookup y=some .free:=by
      rw [cF] at vis'
      cases q2:scope.names.lookup y with
      | none=>rw [q2] at vis';rcases vis' with z | z | z <;> cases z
      | some k =>
       cases k with
       | free=>rfl
       | cell=>exact absurd rfl (S.cell _ (dX q2))
       | «local» => exact absurd q2 (S.nol y hmem)
       | globalExplicit=>rw [q2] at vis';rcases vis' with z | z | z <;> simp at z
       | globalImplicit=>rw [q2] at vis';rcases vis' with z | z | z <;> simp at z
     have hok:=S.ok (y,.free) (dX hfr) rfl
     obtain ⟨m,hn,hl⟩:=I3.loc
     have visX:Vis X.env.scope y:=by
      rcases hok with z | z
      ·exact .inr (.inl z)
      ·exact .inr (.inr z)
     obtain ⟨u,r,l⟩:=hl i y v hy e2' visX
     refine ⟨u,r,.inr ⟨?_,?_⟩⟩
     ·show (relabel scope X.env).names.lookup y=some .cell∨(relabel scope X.env).names.lookup y=some .free
      rw [cF,hfr,Option.map_some]
      by_cases hcnd:(NameKind.free==NameKind.free&&X.env.scope.kind == .function&&X.env.kindOf y==some .cell)=true
      ·left
       rw [if_pos hcnd]
      ·right
       rw [if_neg hcnd]
     ·rcases l with ⟨k,_⟩ | ⟨k,c,e,z⟩
      ·have k':X.env.scope.names.lookup y=some .local:=k
       have hok':X.env.scope.names.lookup y=some .cell∨X.env.scope.names.lookup y=some .free:=hok
       rw [k'] at hok'
       rcases hok' with z | z <;> cases z
      ·obtain ⟨c',e'⟩:=clH y hfr
       have e3:=clS y c' e'
       rw [e] at e3
       cases e3
       obtain ⟨o,ho,hd⟩:=z
       exact ⟨c,e',o,old c o ho,hd⟩
    ·rw [e1'] at q
     have q:scope.names.lookup y=none:=Option.some.inj q
     rw [cF,q] at vis'
     rcases vis' with z | z | z <;> cases z
  ·obtain ⟨v,o,ho,hd⟩:=I3.cell y c (clS y c e)
   exact ⟨v,o,old c o ho,hd⟩
  ·show upd H s.heap.objs.size (.lst []) s3.heap.objs.size=none
   exact I3.hok.fresh (Nat.le_refl _)
  ·obtain ⟨e,n,ne,nf,d⟩:=I3.pin p hp
   refine ⟨old _ _ e,n,CneP p hp,fun z=>?_,d⟩
   rcases List.mem_cons.mp (I3.stkSub p.1 z) with q | q
   ·exact ne q
   ·exact nf q
  ·show (none::σ).length=N'.length
   rw [S.len,List.length_cons,I3.len]
 have st4:tn 0 h₁:=T.keep 0 s.heap h₁ st fun b _ o e=>old0 b o e
 have loop:∀ s₄:Shared,s₄ = { s3 with heap:=h₁,toks:=s3.toks+([]:List (Str×Value)).length } ->
   codeAny (model X.prog X.w) X.A (.compLoop (.ListComp elt [⟨.Name x px,iter,cds,0⟩] scope pos) 0 (.ref it) (.ref s.heap.objs.size) (compEnvC scope cl s3.heap.objs.size X.env)) (RR (.ref s.heap.objs.size) s3.heap.objs.size) s₄:=by
  rintro s₄ rfl
  refine kS (fun n s'=>∃ i v0 ys H',Inv (bV X N' scope cl s3.heap.objs.size s3 (upd H s.heap.objs.size (.lst [])) fp) pins (v0::σ) H' s'∧tn i s'.heap∧(∀ b∈fp,H' b=none)∧W i n ys H') ?_ m0
   ⟨0,none,[],_,I4,st4,fun b hb=>by rw [aH (fpD b hb)];exact (f2 b hb).1,w0⟩
  rintro n s5 ⟨i,v0,ys,H5,I5,st5,fr5,w5⟩
  rcases turn i n ys H5 w5 with ⟨stop,qn⟩ | ⟨go,hz,N,hN,Nn,hNn,step⟩
  ·refine thn (T.done (bV X N' scope cl s3.heap.objs.size s3 (upd H s.heap.objs.size (.lst [])) fp) rfl rfl rfl hc i pins s5 (v0::σ) H5 (fun _ _=>False) I5 (fpOk' fr5) st5 stop) fun r s6 ⟨hr,I6⟩=>?_
   subst hr
   have hch:∀ b∈fp,(b∈X.ex∨X.s₀.heap.objs.size<=b)∧b≠X.env.locals∧(∀ x c,X.env.cells.lookup x=some c->c≠b)∧∀ p∈X.pn++pins,p.1≠b:=fun b hb =>
    ⟨(f2 b hb).2.2.2.1,(f2 b hb).2.1,(f2 b hb).2.2.2.2.1,(f2 b hb).2.2.2.2.2⟩
   have I7:Inv X pins σ H5 s6:=I3.call' (ch:=fp) I6.os I6.base I6.hok I6.bare hch
   obtain ⟨m,hm,_⟩:=I6.loc
   exact hRR s.heap.objs.size s3.heap.objs.size s6 H5 I7 ⟨m,hm⟩ CneL CneC I6.free (Nat.le_trans I3.sz (Nat.le_refl _)) CneP qn
  ·refine thn (T.item (bV X N' scope cl s3.heap.objs.size s3 (upd H s.heap.objs.size (.lst [])) fp) rfl rfl rfl hc i pins s5 (v0::σ) H5 (fun _ _=>False) I5 (fpOk' fr5) st5 go) fun r s6 ⟨u,hr,h6⟩=>?_
   subst hr
   refine thn h6 fun _ s7 ⟨y,H7,I7,r7,y7,st7,fr7⟩=>?_
   have I7':=I7.pinned (fpOk' fr7) (T.obj _ _ st7)
   refine wpAny_assign_Name (jS (i:=0) (v:=y) I7' S.nd S.hd (.inl (lookup_relabel_local S.var)) r7 (fun s8 I8=>?_) (.inr (lookup_relabel_local S.var)))
   have I8':Inv (bV X N' scope cl s3.heap.objs.size s3 (upd H s.heap.objs.size (.lst [])) fp) (pins++lP fp s7.heap) (some y::σ) H7 s8:=I8
   refine thn (ht cl s3.heap.objs.size s3 (upd H s.heap.objs.size (.lst [])) fp _ s8 (some y::σ) H7 (fun b H''=>if b=true then te (some y::σ) H'' N else Nn H'') I8' (step y H7 y7)) fun okb s8 ⟨H8,I8,q8⟩=>?_
   cases okb with
   | false =>
    have q8':Nn H8:=by simpa using q8
    obtain ⟨m',hm,w9⟩:=hNn H8 q8'
    refine ⟨m',hm,i+1,some y,ys,_,I8.unpinned,T.keep _ _ _ st7 fun b hb o e=>(I8.pin (b,o) (List.mem_append_right _ (List.mem_append_right _ (dZ hb e)))).1,fun b hb=>?_,w9⟩
    obtain ⟨o,e,d⟩:=T.obj _ _ st7 b hb
    exact (I8.pin (b,o) (List.mem_append_right _ (List.mem_append_right _ (dZ hb e)))).2.1
   | true =>
    refine thn (he cl s3.heap.objs.size s3 (upd H s.heap.objs.size (.lst [])) fp _ s8 (some y::σ) H8 N I8 (by simpa using q8)) fun w s9 ⟨v,H9,I9,r9,q9⟩=>?_
    obtain ⟨hD9,m',hm,w9⟩:=hN v H9 q9
    refine thn (eM _ s9 (some y::σ) H9 (.ref s.heap.objs.size) [v] (.ref s.heap.objs.size) [w] (fun z H10=>z = .non∧H10=upd H9 s.heap.objs.size (.lst (ys++[v]))) I9 rfl (.cons r9 .nil) ⟨s.heap.objs.size,ys,v,rfl,rfl,hD9,hz,rfl,rfl⟩) fun _ s10 ⟨z,H10,I10,_,ez,e10⟩=>?_
    subst e10
    refine ⟨m',hm,i+1,some y,ys++[v],_,I10.unpinned,T.keep _ _ _ st7 fun b hb o e=>(I10.pin (b,o) (List.mem_append_right _ (List.mem_append_right _ (dZ hb e)))).1,fun b hb=>?_,w9⟩
    obtain ⟨o,e,d⟩:=T.obj _ _ st7 b hb
    exact (I10.pin (b,o) (List.mem_append_right _ (List.mem_append_right _ (dZ hb e)))).2.1
 exact codeAny_compStart_list (loop _ (by rw [<- hs3])) (T.self X.A 0 _ _ _ st4 (loop _ (by rw [<- hs3])))
theorem iX.toF {te:TE}{σ:St}{Q:VK}{J:It}{H:Hp}(hw:iX te σ Q J H):gS (fun _ H k=>k true H) te σ Q J H:=fun D hD=>by
 obtain ⟨W,h0,hW⟩:=hw D hD
 refine ⟨W,h0,fun i m ys H2 hw2=>?_⟩
 rcases hW i m ys H2 hw2 with g | ⟨g1,g2,N,g3,g4⟩
 ·exact .inl g
 ·exact .inr ⟨g1,g2,N,g3,fun _=>False,fun _ z=>z.elim,fun y H' hy=>Cr (g4 y H' hy)⟩
theorem xB {at':St->VK->It->Hp->Prop}(S:cI X.N N' X.env.scope scope x)(hc:X.calm=true)(hi:PI X (.Name x px) iter wi)(ht:∀ cl C s H fp,PTL (bV X N' scope cl C s H fp) cds tc)(he:∀ cl C s H fp,PE (bV X N' scope cl C s H fp) elt te)(cv:∀ σ Q J H,at' σ Q J H->gS tc te σ Q J H)
  (hs:∀ x,foldedSetIterable iter X.env x=pure x:=by intro _;rfl):PE X (.ListComp elt [⟨.Name x px,iter,cds,0⟩] scope pos) (fun σ H Q=>wi σ H (at' σ Q)):=by
 intro pins s σ H Q I h
 rw [eval_ListComp]
 have hfree:∀ z∈scope.names,z.2 = .free->∃ c,X.env.cells.lookup z.1=some c:=fun z hz hk=>by
  rcases S.ok z hz hk with q | q
  ·exact I.ok.has z.1 (.inl q)
  ·exact I.ok.has z.1 (.inr q)
 refine wpAny_comprehension_free (use:=none) rfl hs (gU hfree) S.kind S.names (thn (hi pins s σ H _ I h) fun xv s1 h1=>thn h1 fun itv s2 h2=>?_)
 obtain ⟨it,fp,tn,J,H2,e,I2,T,st2,f2,hw⟩:=h2
 subst e
 obtain ⟨cl,hcl,hrun⟩:=qT (tc:=tc) (cds:=cds) (elt:=elt) (iter:=iter) (pos:=pos) (px:=px) (E:=X.xe) (RR:=fun acc C=>compPost (model X.prog X.w) X.A X.xe none (EP X pins σ Q) acc C) S hc ht he I2 T st2 f2 (cv _ _ _ _ hw) (fun D C s' H' I' ⟨m,hm⟩ n1 n2 n3 n4 n5 q =>
  ⟨m,hm,fun h' hsb=>⟨.ref D,H',I'.turned (it:=C) (t':=s'.toks) (fun b o hb e=>(hsb.2 b hb).trans e) n3 n1 (.inr n4) n2 n5,rfl,q⟩⟩)
 have ecl:(pure (cV X.env.cells scope.names []):Sem (List (Str×Addr)))=pure cl:=(gU hfree).symm.trans hcl
 have ecl':cV X.env.cells scope.names []=cl:=by
  injection ecl
 rw [ecl']
 exact hrun
theorem nO {at':St->VK->It->Hp->Prop}{i:Nat}{y:Str}{py spos:Pos}(S:cI X.N N' X.env.scope scope x)(hc:X.calm=true)(hi:PI X (.Name x px) iter wi)(ht:∀ cl C s H fp,PTL (bV X N' scope cl C s H fp) cds tc)(he:∀ cl C s H fp,PE (bV X N' scope cl C s H fp) elt te)(cv:∀ σ Q J H,at' σ Q J H->gS tc te σ Q J H)
  (hN:X.N.Nodup) (hy:X.N[i]?=some y) (hyl:X.env.scope.names.lookup y=some .local)
  (hsw:swapsWith (.ListComp elt [⟨.Name x px,iter,cds,0⟩] scope pos) (some (.Name y py)) spos.line X.env=pure true:=by rfl)
  (hs:∀ x,foldedSetIterable iter X.env x=pure x:=by intro _;rfl):PS X (.Assign [.Name y py] (.ListComp elt [⟨.Name x px,iter,cds,0⟩] scope pos) spos) (En (fun σ H Q=>wi σ H (at' σ Q)) (sB i)):=by
 intro pins s σ H D0 I h
 have hfree:∀ z∈scope.names,z.2 = .free->∃ c,X.env.cells.lookup z.1=some c:=fun z hz hk=>by
  rcases S.ok z hz hk with q | q
  ·exact I.ok.has z.1 (.inl q)
  ·exact I.ok.has z.1 (.inr q)
 rw [exec_Assign_Name_used _ _ _ _ hsw]
 refine wpAny_bind (wpAny_standAt (wpAny_bind ?_))
 show wpAny _ X.A (do let _ <- comprehension (.ListComp elt [⟨.Name x px,iter,cds,0⟩] scope pos) scope X.env _ (newList []) false (eval iter X.env) (some (assign (.Name y py) X.env))) _ _ s
 refine wpAny_bind (wpAny_mono (wpAny_comprehension_free (use:=some (assign (.Name y py) X.env)) (Q:=fun _ s'=>SP X pins D0 .next s') rfl hs (gU hfree) S.kind S.names
  (thn (hi pins s σ H _ I h) fun xv s1 h1=>thn h1 fun itv s2 h2=>?_)) (fun _ s' hq=>wpAny_pure (wpAny_pure hq)) fun _ _ e=>e)
 obtain ⟨it,fp,tn,J,H2,e,I2,T,st2,f2,hw⟩:=h2
 subst e
 obtain ⟨cl,hcl,hrun⟩:=qT (tc:=tc) (cds:=cds) (elt:=elt) (iter:=iter) (pos:=pos) (px:=px) (E:=X.xe) (Q:=fun x H1=>sB i x σ H1 D0.nx) (RR:=fun acc C=>compPost (model X.prog X.w) X.A X.xe (some (assign (.Name y py) X.env)) (fun _ s'=>SP X pins D0 .next s') acc C) S hc ht he I2 T st2 f2 (cv _ _ _ _ hw) (fun D C s' H' I' ⟨m,hm⟩ n1 n2 n3 n4 n5 q=>by
  show wpAny _ X.A (assign (.Name y py) X.env (.ref D)) _ _ _
  refine wpAny_assign_Name (rZ (i:=i) (v:=.ref D) I' hN hy (.inl hyl) rfl (fun s'' I'' ⟨a,hsa,hwa⟩=>?_) (.inr hyl))
  have haC:C≠a:=by
   rcases hwa with z | z
   ·rw [z];exact n1
   ·intro z2
    exact n2 y a z z2.symm
  refine ⟨m,hm.sameBut hsa haC,fun h' hsb=>?_⟩
  exact ⟨_,H',I''.turned (it:=C) (t':=s''.toks) (fun b o hb e=>(hsb.2 b hb).trans e) n3 n1 (.inr n4) n2 n5,q⟩)
 have ecl:(pure (cV X.env.cells scope.names []):Sem (List (Str×Addr)))=pure cl:=(gU hfree).symm.trans hcl
 have ecl':cV X.env.cells scope.names []=cl:=by
  injection ecl
 rw [ecl']
 exact hrun
theorem dU (S:cI X.N N' X.env.scope scope x)(hc:X.calm=true)(hi:PI X (.Name x px) iter wi)(he:∀ cl C s H fp,PE (bV X N' scope cl C s H fp) elt te)
  (hs:∀ x,foldedSetIterable iter X.env x=pure x:=by intro _;rfl):PE X (.ListComp elt [⟨.Name x px,iter,[],0⟩] scope pos) (Kq wi te) :=
 xB (at':=fun σ Q=>iX te σ Q) S hc hi (fun _ _ _ _ _=>Av) he (fun _ _ _ _ h=>h.toF) hs
theorem yO {i:Nat}{y:Str}{py spos:Pos}(S:cI X.N N' X.env.scope scope x)(hc:X.calm=true)(hi:PI X (.Name x px) iter wi)(he:∀ cl C s H fp,PE (bV X N' scope cl C s H fp) elt te)
  (hN:X.N.Nodup) (hy:X.N[i]?=some y) (hyl:X.env.scope.names.lookup y=some .local)
  (hsw:swapsWith (.ListComp elt [⟨.Name x px,iter,[],0⟩] scope pos) (some (.Name y py)) spos.line X.env=pure true:=by rfl)
  (hs:∀ x,foldedSetIterable iter X.env x=pure x:=by intro _;rfl):PS X (.Assign [.Name y py] (.ListComp elt [⟨.Name x px,iter,[],0⟩] scope pos) spos) (En (Kq wi te) (sB i)) :=
 nO (at':=fun σ Q=>iX te σ Q) S hc hi (fun _ _ _ _ _=>Av) he (fun _ _ _ _ h=>h.toF) hN hy hyl hsw hs
end
end L2
namespace L2
open PySem PySem.Spec PyProof.Rows
set_option genInjectivity false in
structure Cal (P:Program)(w:World)(K:PySem.W.Frag)(mg:Str->Option Value)(base:Heap)(CX:CXT)(x:Str)(k:Nat)(ps:List Str)(sp:Sp):Prop where
 ex:∃ (f:Addr) (fd:FuncData),cD P w K mg base CX k f fd ps sp∧mg x=some (.ref f)∧PySem.W.keepIn K (.ref f)=true∧lD K fd ps []
section
variable {X:Cx}
theorem aO {CX:CXT}{x:Str}{j k:Nat}{ps:List Str}{sp:Sp}{E:XK}{e:Expr}{es:List Expr}{t:TA}{p pos:Pos}(c:Cal X.prog X.w X.K X.mg X.base CX x j ps sp)(hr:fI k X.A)(hx:jU CX X E)(ha:PA X (e::es) t)
  (hjk:j<=k:=by decide) (hg:Gl X x:=by rfl) (hdb:(x==("__debug__" : Str))=false:=by decide) (he:starEach (e::es) X.env=(false,eval e X.env)::starEach es X.env:=by rfl) (hpl:(backTo pos (starEach es X.env)).any (·.1)=false:=by rfl) :
  PE X (.Call (.Name x p) (e::es) [] pos) (Kp sp [] E t):=by
 obtain ⟨f,fd,F,hm,hk,hb⟩:=c.ex
 exact Il F (hr.mono hjk) hg hm hk hb .nil hx ha hdb he hpl
theorem aS (l:List Nat){x:Str}{j pos}(h:x=tx l):PE X (.Constant (.str x) j pos) (tC (T l)):=by
 subst h
 exact Ld
theorem eA:eO X (.builtin "len") (fun xs H Q=>∃ (l:List Nat),xs=[T l]∧l.length<=sizeLine∧Q (.int (l.length:Nat)) H):=by
 intro pins s σ H xs us Q I r h
 obtain ⟨l,e,hz,q⟩:=h
 exact uH pins s σ H xs us Q I r ⟨tx l,e,by rw [fT];exact hz,by rw [fT];exact q⟩
theorem tO:IxR X (fun x y H Q=>∃ (l:List Nat),x=T l∧∃ (i:Int),y = .int i∧l.length<=sizeLine∧∃ c,atI l i=some c∧Q (T [c]) H):=by
 intro value slice pins s σ H x y v u Q I rx ry h hs
 obtain ⟨l,e1,i,e2,hz,c,hc,q⟩:=h
 exact Lb value slice pins s σ H x y v u Q I rx ry ⟨tx l,i,c,e1,e2,by rw [fT];exact hz,by rw [cW];exact hc,q⟩ hs
theorem eV:OpR X (binaryOp .Add) (fun x y H Q=>∃ (l b:Addr) (xs zs:List V),x = .ref l∧y = .ref b∧SqL X.K H l xs∧SqL X.K H b zs∧xs.length+zs.length<=sizeLine∧∀ p,H p=none->Q (.ref p) (upd H p (.lst (xs++zs)))):=by
 intro pins s σ H x y v u Q I rx ry h
 obtain ⟨l,b,xs,zs,rfl,rfl,hH,hB,hz,q⟩:=h
 cases rx
 cases ry
 obtain ⟨its,r,⟨⟨cls,dd,data,sl⟩,n,ho,hc,hdd,hd⟩,_⟩:=I.list hH
 obtain ⟨its2,r2,⟨⟨cls2,dd2,data2,sl2⟩,n2,ho2,hc2,hdd2,hd2⟩,_⟩:=I.list hB
 simp only at hc hd hc2 hd2
 subst hc hd hc2 hd2
 have e:its.toArray++its2.toArray=(its++its2).toArray:=by simp
 refine concat_meets ⟨_,ho,rfl⟩ ⟨_,ho2,rfl⟩ noFill_list_add seq_list_add PySem.F.slot_list_add PySem.F.entry_list_add (PySem.F.args_list_add_2 _ _) (list_addW l b its.toArray its2.toArray n n2 dd dd2 sl sl2 (by rw [List.size_toArray,List.size_toArray,<- r.length,<- r2.length];exact hz)) ⟨ho,ho2,?_⟩
 rw [e]
 exact ⟨.ref _,_,I.lnew (t':=s.toks) (r.append r2) (by rw [List.length_append];exact hz),rfl,q _ I.fresh⟩
theorem hX (ls:List (List Nat)):(ls.map T).all eS=true:=by
 rw [List.all_map,List.all_eq_true]
 intro l _
 rfl
theorem Me {ls ms:List (List Nat)}{us ws:List Value}(r:bR (ls.map T) us)(r':bR (ms.map T) ws){A:Around}{s:Shared}{j:Nat}{u w:Value}(hu:us[j]?=some u)(hw:ws[j]?=some w):SeqAt.EqAt A s u w (decide (ls[j]?=ms[j]?)):=by
 have h1:j<ls.length:=by have:=r.length;rw [List.length_map] at this;rw [this];exact (List.getElem?_eq_some_iff.mp hu).1
 have h2:j<ms.length:=by have:=r'.length;rw [List.length_map] at this;rw [this];exact (List.getElem?_eq_some_iff.mp hw).1
 obtain ⟨u',e1,q1⟩:=r.get (i:=j) (x:=T ls[j]) (by rw [List.getElem?_map,List.getElem?_eq_getElem h1];rfl)
 obtain ⟨w',e2,q2⟩:=r'.get (i:=j) (x:=T ms[j]) (by rw [List.getElem?_map,List.getElem?_eq_getElem h2];rfl)
 rw [hu] at e1
 cases e1
 rw [hw] at e2
 cases e2
 have e:=Fl (A:=A) (s:=s) q1 q2 rfl rfl
 have ee:eqV (T ls[j]) (T ms[j])=decide (ls[j]?=ms[j]?):=by
  show (tx ls[j]==tx ms[j])=_
  rw [Bool.eq_iff_iff,beq_iff_eq,decide_eq_true_iff,List.getElem?_eq_getElem h1,List.getElem?_eq_getElem h2]
  exact ⟨fun h=>by rw [fD h],fun h=>by rw [Option.some.inj h]⟩
 rw [ee] at e
 exact e
theorem uB {ls ms:List (List Nat)}(h:ls.length=ms.length):(List.range ls.length).all (fun j=>decide (ls[j]?=ms[j]?))=decide (ls=ms):=by
 rw [Bool.eq_iff_iff,List.all_eq_true,decide_eq_true_iff]
 constructor
 ·intro g
  apply List.ext_getElem?
  intro i
  by_cases hi:i<ls.length
  ·exact of_decide_eq_true (g i (List.mem_range.mpr hi))
  ·rw [List.getElem?_eq_none (by omega),List.getElem?_eq_none (by omega)]
 ·intro g j _
  rw [g]
  exact decide_eq_true rfl
end
end L2
namespace L2
open PySem PySem.Spec PyProof.Rows
set_option genInjectivity false in
structure Fly (P:Program)(w:World)(outer:List Env)(H:Hp)(s:Shared)(a:Addr)(cls:Value)(H':Hp)(s':Shared):Prop where
 os:s'.os=s.os
 bare:AllBare s'.gens
 ex:∃ (B:Heap) (t:Addr),Heap.FlyingW B outer a cls (.ref t) s'.heap∧HOk P w H' B∧(∀ b o,s.heap.get? b=some o->H b=none->b∉frs outer->B.get? b=some o) ∧
  ∀ b o,s.heap.get? b=some o->b∉frs outer->∃ o',B.get? b=some o'
 slot:∀ b o,s.heap.get? b=some o->H b=none->b∈frs outer->∃ sl,s'.heap.get? b=some { o with slots:=sl }
 free:∀ b o,s.heap.get? b=some o->H b=none->H' b=none
 tups:∀ b xs,H b=some (.tup xs)->H' b=some (.tup xs)
 frzs:∀ b o u,H b=some (.frz o u)->H' b=some (.frz o u)
 tbls:∀ b ps,H b=some (.tbl ps)->∃ more,H' b=some (.tbl (ps++more))
def CX1 (P:Program)(w:World):CXT:=fun outer H s E e s'=>∃ a cls H',e = .ref a∧Fly P w outer H s a cls H' s'∧E cls none H'
theorem Pg {P:Program}{w:World}{H:Hp}{h:Heap}{a:Addr}(x:HOk P w H h)(e:h.get? a=none):H a=none:=by
 cases q:H a with
 | none=>rfl
 | some u =>
  have y:=x a u q
  have z:∃ o,h.get? a=some o:=by
   cases u with
   | lst xs=>obtain ⟨_,_,_,_,e⟩:=y;exact ⟨_,e⟩
   | tup xs=>obtain ⟨_,_,_,o,e,_⟩:=y;exact ⟨o,e⟩
   | dK kvs=>obtain ⟨_,_,_,_,o,_,_,e,_⟩:=y;exact ⟨o,e⟩
   | dT kvs=>obtain ⟨_,_,_,_,o,_,_,e,_⟩:=y;exact ⟨o,e⟩
   | set S n=>obtain ⟨o,_,_,_,e,_⟩:=y;exact ⟨o,e⟩
   | ins C dx fs=>obtain ⟨_,_,_,e,_⟩:=y;exact ⟨_,e⟩
   | own y'=>exact y
   | xd fs=>obtain ⟨_,⟨o,_,_,e,_⟩,_⟩:=y;exact ⟨o,e⟩
   | rng lo hi=>obtain ⟨_,_,_,e⟩:=y;exact ⟨_,e⟩
   | frz ob u=>exact ⟨_,y.1⟩
   | tbl ps=>exact ⟨_,y⟩
   | met f y'=>exact ⟨_,y⟩
   | ext φ=>exact y.2.1
  obtain ⟨o,z⟩:=z
  rw [e] at z
  cases z
section
variable {X:Cx}{pins:List (Addr×Obj)}{σ:St}{H H':Hp}{s s':Shared}{a:Addr}{cls:Value}{E:Value->Shared->Prop}
set_option genInjectivity false in
structure Own (X:Cx):Prop where
 stk:X.stack=X.env::X.outer
 fr:X.env.frame=some X.env.locals
 ex:X.ex=[]
theorem Own.frs (O:Own X){b:Addr}:b∈frs X.stack↔b=X.env.locals∨b∈frs X.outer:=by
 unfold L2.frs
 rw [O.stk,List.filterMap_cons,O.fr]
 exact List.mem_cons
theorem Inv.oldNe (I:Inv X pins σ H s){b:Addr}{o:Obj}(e:X.s₀.heap.get? b=some o):b≠X.env.locals:=Nat.ne_of_lt (Nat.lt_of_lt_of_le (Heap.lt_size e) I.ok.above)
theorem Inv.hidHok (I:Inv X pins σ H s):HOk X.prog X.w H (PySem.W.hideAll s.heap (L2.frs X.stack)):=fun b u e =>
 (I.hok b u e).stay (fun c v hc q=>PySem.W.hideAll_get _ q fun hm=>by
  have n:=I.stkFree c hm
  rcases hc with z | z
  ·rw [z,e] at n
   cases n
  ·rw [z] at n
   cases n) (fun _ q=>q) fun _ _ q=>q
theorem Fly.raised {args:List Value}{h:Heap}(I:Inv X pins σ H s)(O:Own X)(hx:Heap.MadeExcOf s.heap h a cls args) :
  wpAny (model X.prog X.w) X.A (leaving X.env (.ref a)) (fun _ s''=>Fly X.prog X.w X.outer X.H₀ X.s₀ a cls H s'') E { s with heap:=h }:=by
 have hst:=I.stack
 have hin:∀ env∈X.stack,∀ b,env.frame=some b->b∈L2.frs X.stack:=fun env he b hb=>List.mem_filterMap.mpr ⟨env,he,hb⟩
 have hl:=PySem.W.funFrames_hide hst hin
 rw [O.stk] at hl
 have hfr:=I.ok.frames
 rw [O.stk] at hfr
 have noEx:∀ b,b∉X.ex:=fun b z=>by
  rw [O.ex] at z
  cases z
 refine wpAny_leaves_madeW (s:={ s with heap:=h }) hfr O.fr (fun b o q=>PySem.W.of_hideAll _ q) hl hx fun h' t x1 x2 x3 x4=>?_
 have notIn:∀ b o,X.s₀.heap.get? b=some o->b∉L2.frs X.outer->b∉L2.frs (X.env::X.outer):=fun b o e nb z=>by
  rw [<- O.stk] at z
  rcases O.frs.mp z with q | q
  ·exact I.oldNe e q
  ·exact nb q
 have hokB:=I.hidHok
 rw [O.stk] at hokB
 refine ⟨I.os,I.bare,⟨_,t,x1,hokB,fun b o e n nb=>?_,fun b o e nb=>?_⟩,fun b o e n hb=>?_,fun b o e n=>I.base.free b o e n (noEx b),I.base.tups,I.base.frzs,I.base.tbls⟩
 ·exact PySem.W.hideAll_get _ (I.base.keep b o e n nb (noEx b)) (notIn b o e nb)
 ·obtain ⟨o',e'⟩:=I.base.there b o e (noEx b)
  exact ⟨o',PySem.W.hideAll_get _ e' (notIn b o e nb)⟩
 ·obtain ⟨sl,e1⟩:=I.base.slot b o e n hb (noEx b)
  obtain ⟨_,o2,e2,hd⟩:=I.funs.mem hb
  rw [e1] at e2
  cases e2
  obtain ⟨sl2,e3⟩:=x4 b _ (hx.keeps b _ e1) hd
  exact ⟨sl2,e3⟩
theorem Fly.on (I:Inv X pins σ H s)(O:Own X)(Y:Fly X.prog X.w X.stack H s a cls H' s') :
  wpAny (model X.prog X.w) X.A (leaving X.env (.ref a)) (fun _ s''=>Fly X.prog X.w X.outer X.H₀ X.s₀ a cls H' s'') E s':=by
 obtain ⟨B,t,hfl,hokB,kp,th⟩:=Y.ex
 have hfr:=I.ok.frames
 rw [O.stk] at hfr hfl
 have noEx:∀ b,b∉X.ex:=fun b z=>by
  rw [O.ex] at z
  cases z
 have notIn:∀ b o,X.s₀.heap.get? b=some o->b∉L2.frs X.outer->b∉L2.frs X.stack:=fun b o e nb z=>by
  rcases O.frs.mp z with q | q
  ·exact I.oldNe e q
  ·exact nb q
 refine wpAny_leaves_onW hfr O.fr hfl fun h' x1 x2=>?_
 refine ⟨Y.os.trans I.os,Y.bare,⟨B,t,x1,hokB,fun b o e n nb=>kp b o (I.base.keep b o e n nb (noEx b)) (I.base.free b o e n (noEx b)) (notIn b o e nb),fun b o e nb=>?_⟩,fun b o e n hb=>?_,fun b o e n=>?_,
  fun b xs q=>Y.tups b xs (I.base.tups b xs q),fun b o u q=>Y.frzs b o u (I.base.frzs b o u q),fun b ps q=>?_⟩
 ·obtain ⟨o',e'⟩:=I.base.there b o e (noEx b)
  exact th b o' e' (notIn b o e nb)
 ·obtain ⟨sl,e1⟩:=I.base.slot b o e n hb (noEx b)
  obtain ⟨_,o2,e2,hd⟩:=I.funs.mem hb
  rw [e1] at e2
  cases e2
  obtain ⟨sl2,e3⟩:=Y.slot b _ e1 (I.base.free b o e n (noEx b)) (O.frs.mpr (.inr hb))
  obtain ⟨sl3,e4⟩:=x2 b _ e3 hd
  exact ⟨sl3,e4⟩
 ·obtain ⟨o',e'⟩:=I.base.there b o e (noEx b)
  exact Y.free b o' e' (I.base.free b o e n (noEx b))
 ·obtain ⟨m1,e1⟩:=I.base.tbls b ps q
  obtain ⟨m2,e2⟩:=Y.tbls b _ e1
  exact ⟨m1++m2,by rw [e2,Array.append_assoc]⟩
theorem Fly.un (I:Inv X pins σ H s)(Y:Fly X.prog X.w X.stack H s a cls H' s'):Un (L2.frs X.stack) [] H H' s.heap s'.heap:=by
 obtain ⟨B,t,hfl,hokB,kp,th⟩:=Y.ex
 refine ⟨fun b o e n nb _=>hfl.1 b o (kp b o e n nb),fun b o e n hb _=>Y.slot b o e n hb,fun b o e n _=>Y.free b o e n,fun b o e _=>?_,Y.tups,Y.frzs,Y.tbls⟩
 by_cases hb:b∈L2.frs X.stack
 ·obtain ⟨sl,q⟩:=Y.slot b o e (I.stkFree b hb) hb
  exact ⟨_,q⟩
 ·obtain ⟨o',q⟩:=th b o e hb
  exact ⟨o',hfl.1 b o' q⟩
theorem Fly.inv (I:Inv X pins σ H s)(Y:Fly X.prog X.w X.stack H s a cls H' s'):Inv X pins σ H' s':=by
 have hok:HOk X.prog X.w H' s'.heap:=by
  obtain ⟨B,t,hfl,hokB,kp,th⟩:=Y.ex
  exact hokB.kept hfl.1
 exact I.call' (ch:=[]) Y.os (Y.un I) hok Y.bare fun _ z=>nomatch z
theorem Fly.slots {outer:List Env}{h':Heap}(Y:Fly X.prog X.w outer H s a cls H' s')(hd:∀ b∈L2.frs outer,∃ o,s.heap.get? b=some o∧∀ vs,o.data≠.fields vs)(x:s'.heap.UpToSlots h') :
  ∀ b o,s.heap.get? b=some o->H b=none->b∈L2.frs outer->∃ sl,h'.get? b=some { o with slots:=sl }:=fun b o e n hb=>by
 obtain ⟨sl,q⟩:=Y.slot b o e n hb
 obtain ⟨o2,e2,d2⟩:=hd b hb
 rw [e] at e2
 cases e2
 obtain ⟨sl',q'⟩:=x b _ q d2
 exact ⟨sl',q'⟩
theorem Fly.again {A:Around}{Q:Unit->Shared->Prop}(I:Inv X pins σ H s)(Y:Fly X.prog X.w X.stack H s a cls H' s')(h:∀ h',Fly X.prog X.w X.stack H s a cls H' { s' with heap:=h' }->Q () { s' with heap:=h' }) :
  wpAny (model X.prog X.w) A (setFlight (.ref a) none) Q E s':=by
 obtain ⟨B,t,hfl,hokB,kp,th⟩:=Y.ex
 refine lands_againW hfl fun h' x1 x2=>h h' ?_
 exact ⟨Y.os,Y.bare,⟨B,t,x1,hokB,kp,th⟩,Y.slots (fun b hb=>(I.stack.mem hb).2) x2,Y.free,Y.tups,Y.frzs,Y.tbls⟩
theorem Fly.look {Q:Unit->Shared->Prop}(I:Inv X pins σ H s)(O:Own X)(Y:Fly X.prog X.w X.stack H s a cls H' s')(h:∀ h',Fly X.prog X.w X.stack H s a cls H' { s' with heap:=h' }->Q () { s' with heap:=h' }) :
  wpAny (model X.prog X.w) X.A (noteFrame (.ref a) X.env) (fun _ s2=>wpAny (model X.prog X.w) X.A (setFlight (.ref a) none) Q E s2) E s':=by
 obtain ⟨B,t,hfl,hokB,kp,th⟩:=Y.ex
 have hfr:=I.ok.frames
 have hfl':=hfl
 rw [O.stk] at hfr hfl'
 refine wpAny_looks_onW hfr O.fr hfl' fun h4 x4 y4=>?_
 refine wpAny_landsW (s:={ s' with heap:=h4 }) x4 fun h5 x5 y5=>h h5 ?_
 rw [<- O.stk] at x5
 exact ⟨Y.os,Y.bare,⟨B,t,x5,hokB,kp,th⟩,Y.slots (fun b hb=>(I.stack.mem hb).2) (y4.trans y5),Y.free,Y.tups,Y.frzs,Y.tbls⟩
theorem Fly.looks {M:Model}{outer:List Env}(Y:Fly X.prog X.w outer H s a cls H' s'):PySem.W.Looks M s'.heap (typeOf (.ref a)) cls:=by
 obtain ⟨B,t,hfl,_⟩:=Y.ex
 obtain ⟨ob,hob,hc⟩:=hfl.there
 subst hc
 exact (PySem.W.Looks.ld hob).andThen .now
theorem Fly.track (I:Inv X pins σ H s)(Y:Fly X.prog X.w X.stack H s a cls H' s'):H' a=none∧Inv X pins σ (upd H' a (.ext fun h=>∃ o,h.get? a=some o∧o.cls=cls)) s':=by
 obtain ⟨B,t,hfl,hokB,kp,th⟩:=Y.ex
 have J:=Y.inv I
 have na:H' a=none:=Pg hokB hfl.2.1
 obtain ⟨_,_,hfr,oe,vs,_,_,_,hoe,hcl,hda,_⟩:=id hfl
 have nfr:∀ b∈L2.frs X.stack,b≠a:=fun b hb z=>by
  obtain ⟨_,o,e,d⟩:=hfr.mem hb
  rw [z,hoe] at e
  cases e
  exact d vs hda
 have nold:∀ b o,s.heap.get? b=some o->b≠a:=fun b o e z=>by
  by_cases hb:b∈L2.frs X.stack
  ·exact nfr b hb z
  ·obtain ⟨o',e'⟩:=th b o e hb
   rw [z,hfl.2.1] at e'
   cases e'
 have n0:∀ b o,X.s₀.heap.get? b=some o->b∉X.ex->b≠a:=fun b o e hx=>by
  obtain ⟨o',e'⟩:=I.base.there b o e hx
  exact nold b o' e'
 obtain ⟨mL,⟨oL,_,_,hoL,_⟩,_⟩:=id I.loc
 have nL:X.env.locals≠a:=nold _ oL hoL
 refine ⟨na,J.ok,J.os,J.bare,⟨J.base.keep,J.base.slot,fun b o e n hx=>?_,J.base.there,fun b xs q=>?_,fun b o u q=>?_,fun b ps q=>?_⟩,J.loc,J.cell,?_,fun y c e=>?_,fun p hp=>?_,fun b u q=>?_,J.len⟩
 ·rw [aH (n0 b o e hx)]
  exact J.base.free b o e n hx
 ·have z:=J.base.tups b xs q
  rw [aH (aK z na)]
  exact z
 ·have z:=J.base.frzs b o u q
  rw [aH (aK z na)]
  exact z
 ·obtain ⟨m,z⟩:=J.base.tbls b ps q
  exact ⟨m,by rw [aH (aK z na)];exact z⟩
 ·rw [aH nL]
  exact J.free
 ·obtain ⟨v,o,ho,_⟩:=I.cell y c e
  rw [aH (nold c o ho)]
  exact J.freeC y c e
 ·obtain ⟨e,n,ne,nf,d⟩:=J.pin p hp
  refine ⟨e,?_,ne,nf,d⟩
  rw [aH (nold _ _ (I.pin p hp).1)]
  exact n
 ·by_cases hb:b=a
  ·subst hb
   rw [aC] at q
   cases q
   exact ⟨⟨oe,hoe,hcl.1⟩,⟨oe,hoe⟩,fun h1 h2 ⟨o,e,c⟩ k=>⟨o,k o e,c⟩⟩
  ·rw [aH hb] at q
   exact (J.hok b u q).stay (fun _ _ _ z=>z) (fun c z=>by rw [aH (aK z na)];exact z) fun c xs z=>by rw [aH (aK z na)];exact z
end
abbrev yW:List Value:=[.type "ValueError",.type "Exception",.type "BaseException",.type "object"]
set_option genInjectivity false in
structure Exc (K:PySem.W.Frag)(mg:Str->Option Value)(x:Str)(C:Addr):Prop where
 mg:mg x=some (.ref C)
 is:PySem.W.excIn K C yW "ValueError.__new__" = true
theorem Exc.own {K:PySem.W.Frag}{mg:Str->Option Value}{x:Str}{C:Addr}{h:Heap}(c:Exc K mg x C)(X:K.In h):OwnCls x C yW "ValueError.__new__" mg h:=by
 refine ⟨c.mg,?_⟩
 have q:=c.is
 unfold PySem.W.excIn at q
 split at q
 ·rename_i dd cd sl ho
  split at q
  ·rename_i C' bm k0 k1 k2 k3 n k5 hm hs
   simp only [beq_iff_eq,Bool.not_eq_true',Bool.and_eq_true] at q
   obtain ⟨⟨⟨⟨⟨g1,g2⟩,g3⟩,g4⟩,g5⟩,g6⟩:=q
   subst g1 g2
   obtain ⟨nm,bs,mro,ns,qn,hd,sn,sub,ab,col,del⟩:=cd
   have hsl:sl = #[k0,k1,k2,k3,some (.builtin "ValueError.__new__"),k5]:=by
    cases sl with
    | mk l =>
     have hs':l=_:=hs
     rw [hs']
   have hm':mro=_:=hm
   have g3':del=false:=g3
   subst hsl hm' g3'
   refine ⟨bm,ns,nm,qn,bs,hd,sn,sub,ab,col,dd,k0,k1,k2,k3,k5,h.nsMap ns,X _ _ ho,?_,?_,?_⟩
   ·exact .of_isNs (PySem.W.isNs_of_in X g5)
   ·exact PySem.W.nsMap_none_of_in X g5 g6
   ·exact PySem.W.tail_of_in X g4
  ·cases q
 ·cases q
def Ml (E:Value->Hp->Prop)(C:Addr)(t:TA):TS:=fun _ σ H=>t σ H fun vs H1=>vs.length<=sizeLine∧E (.ref C) H1
theorem dP {x:Str}{C:Addr}{e₀:Expr}{rest:List Expr}{np cpos pos:Pos}{t:TA}{E:Value->Hp->Prop}(c:Exc X.K X.mg x C)(hc:X.calm=true)
  (hE:∀ (pins:List (Addr×Obj)) (σ:St) (H:Hp) (s:Shared) (h:Heap) (a:Addr) (args:List Value),Inv X pins σ H s->Heap.MadeExcOf s.heap h a (.ref C) args->E (.ref C) H->X.xe (.ref a) { s with heap:=h })
  (ha:PA X (e₀::rest) t) (hg:Gl X x:=by rfl) (hd:(x==("__debug__" : Str))=false:=by decide)
  (he:starEach (e₀::rest) X.env=(false,eval e₀ X.env)::starEach rest X.env:=by rfl) (hpl:(backTo cpos (starEach rest X.env)).any (·.1)=false:=by rfl) :
  PS X (.Raise (some (.Call (.Name x np) (e₀::rest) [] cpos)) none pos) (Ml E C t):=by
 intro pins s σ H D I h
 have O:=c.own I.mod.kin
 obtain ⟨tl,N,nm,q,bs,hdct,sn,sub,ab,col,dd,k0,k1,k2,k3,k5,mN,hC,hN,hni,T⟩:=O.obj
 refine wpAny_Raise_call_subT (C:=C) (nm:=nm) (q:=q) (N:=N) (bs:=bs) (bm:=tl) (hdct:=hdct) (sn:=sn) (sub:=sub) (ab:=ab) (col:=col) (dd:=dd) (k0:=k0) (k1:=k1) (k2:=k2) (k3:=k3) (k5:=k5) PySem.F.excBase_ValueError (mN:=mN)
  (T.hasType (by decide +kernel)) (I.ok.hd hc) (by rw [he];show (false||(backTo cpos (starEach rest X.env)).any (·.1))=false;rw [hpl];rfl) hni (kL I hg c.mg ⟨rfl,?_⟩ hd)
 have hA:=ha cpos pins s σ H _ I h
 rw [he] at hA ⊢
 refine Calls.evalArgs_plain (thn hA fun us s2 ⟨vs,H2,I2,r2,hz,q2⟩=>?_)
 exact ⟨rfl,by rw [<- r2.length];exact hz,I2.bk _ _ hC,hN.keeps I2.bk,T.keeps I2.bk,fun h' e hx=>hE pins σ H2 s2 h' e us I2 hx q2⟩
section
variable {P:Program}{w:World}{K:PySem.W.Frag}{mg:Str->Option Value}{base:Heap}{N:List Str}{qual:Str}{scope:Scope}{f:Addr}{cdv:Value}{A:Around}{outer:List Env}{s:Shared}{H:Hp}{E:XK}
theorem Mz {CX:CXT}:Own (nU CX P w K mg base N qual scope f cdv A outer s H E):=⟨rfl,rfl,rfl⟩
theorem jJ:jU (CX1 P w) (nU (CX1 P w) P w K mg base N qual scope f cdv A outer s H E) E:=fun pins σ H1 s1 e s' I h=>by
 obtain ⟨a,cls,H',rfl,Y,q⟩:=h
 exact thn (Fly.on I Mz Y) fun _ s'' Z=>⟨a,cls,H',rfl,Z,q⟩
theorem fU {C:Addr}{pins:List (Addr×Obj)}{σ:St}{H1:Hp}{s1:Shared}{h:Heap}{a:Addr}{args:List Value}(I:Inv (nU (CX1 P w) P w K mg base N qual scope f cdv A outer s H E) pins σ H1 s1)(hx:Heap.MadeExcOf s1.heap h a (.ref C) args)(q:E (.ref C) none H1) :
 (nU (CX1 P w) P w K mg base N qual scope f cdv A outer s H E).xe (.ref a) { s1 with heap:=h }:=thn (Fly.raised I Mz hx) fun _ s'' Z=>⟨a,.ref C,H1,rfl,Z,q⟩
theorem aZ {X:Cx}:jU (CX1 P w) X E0:=fun _ _ _ _ _ _ _ h=>by
 obtain ⟨_,_,_,_,_,q⟩:=h
 exact q.elim
theorem Fun.okX {x qual:Str}{st:Stmt}{f:Addr}{fd:FuncData}{N ps:List Str}{k:Nat}{sp:Sp}(F:Fun K x qual st f fd)(S:aY N ps (aJ st))(len:∀ vs H Q E,sp vs H Q E->vs.length=ps.length)
  (hbody:∀ (cdv:Value) (A:Around) (outer:List Env) (s:Shared) (H:Hp) (vs:List V) (Q:VK) (E:XK),fI k (A.deeper (envOfC qual (aJ st) s.heap.objs.size f cdv))->sp vs H Q E ->
   ∃ t,PSs (nU (CX1 P w) P w K mg base N qual (aJ st) f cdv A outer s H E) (eR st) t∧t { nx:=fun _ H'=>Q .non H',rt:=Q } (lU N vs) H):cD P w K mg base (CX1 P w) (k+1) f fd ps sp:=by
 obtain ⟨oc,od,kV,doc,pm,an,cdv,ct,osl,rfl,lk,hcd⟩:=F.ex
 exact Ko lk hcd S len fun A outer s H vs Q E hr hsp=>hbody cdv A outer s H vs Q E hr hsp
end
end L2
namespace L2
open PySem PySem.Spec PyProof.Rows
def XP (X:Cx)(pins:List (Addr×Obj))(R:St->Value->Hp->Prop)(e:Value)(s':Shared):Prop :=
 ∃ a cls σ' H s1 H',e = .ref a∧Inv X pins σ' H s1∧Fly X.prog X.w X.stack H s1 a cls H' s'∧R σ' cls H'
abbrev TTy:=kT->(St->Value->Hp->Prop)->St->Hp->Prop
def PTy (X:Cx)(st:List Stmt)(t:TTy):Prop :=
 ∀ (pins:List (Addr×Obj)) (s:Shared) (σ:St) (H:Hp) (D:kT) (R:St->Value->Hp->Prop),Inv X pins σ H s->t D R σ H->wpAny (model X.prog X.w) X.A (execs st X.env) (SP X pins D) (XP X pins R) s
section
variable {X:Cx}
def Mq (sp:Sp)(t:TA):TTy:=fun D R σ H=>t σ H fun vs H1=>sp vs H1 (fun _ H2=>D.nx σ H2) fun cls _ H2=>R σ cls H2
theorem lY {x:Str}{j k:Nat}{ps:List Str}{sp:Sp}{e:Expr}{es:List Expr}{t:TA}{p cpos pos:Pos}(c:Cal X.prog X.w X.K X.mg X.base (CX1 X.prog X.w) x j ps sp)(hr:fI k X.A)(ha:PA X.nox (e::es) t)
  (hjk:j<=k:=by decide) (hg:Gl X x:=by rfl) (hdb:(x==("__debug__" : Str))=false:=by decide) (he:starEach (e::es) X.env=(false,eval e X.env)::starEach es X.env:=by rfl) (hpl:(backTo cpos (starEach es X.env)).any (·.1)=false:=by rfl)
  (hs:swapsWith (.Call (.Name x p) (e::es) [] cpos) none pos.line X.env=pure false:=by rfl) :
  PTy X [.Expr (.Call (.Name x p) (e::es) [] cpos) pos] (Mq sp t):=by
 intro pins s σ H D R I q
 obtain ⟨f,fd,F,hm,hk,hb⟩:=c.ex
 refine wpAny_execs_cons (wpAny_Expr_any (wpAny_Call_Name_kw (kL I hg hm ?_ hdb)) I.quiet hs)
 refine PySem.W.callWith_K (h₀:=X.base) I.ok.mod.kin hk (wpAny_mono (ha cpos pins s σ H _ (I.wish _) q) (fun us s1 z=>?_) fun _ _ z=>False.elim z) he hpl
 obtain ⟨vs,H1,I0,r,q1⟩:=z
 have I1:Inv X pins σ H1 s1:=I0.unwish
 refine ⟨I1.kIn,?_⟩
 have hl:us.length=ps.length:=by rw [<- r.length];exact F.len _ _ _ _ q1
 have hbt:=hb s1 us I1.kIn (by rw [List.append_nil];exact hl)
 rw [List.append_nil] at hbt
 refine wpAny_call (codeAny_mono (F.run X.A X.stack s1 H1 ⟨us,[]⟩ us vs _ _ (hr.mono hjk) I1.env0 hbt r q1) fun r' s' hq=>?_)
 cases r' with
 | error x' =>
  obtain ⟨a,cls,H',rfl,Y,q2⟩:=hq
  exact ⟨a,cls,σ,H1,s1,H',rfl,I1,Y,q2⟩
 | ok fl =>
  cases fl with
  | ret u =>
   obtain ⟨v,H',I2,_,q2⟩:=I1.after hq
   exact wpAny_execs_nil ⟨σ,H',I2,q2⟩
  | next=>exact False.elim hq
  | brk=>exact False.elim hq
  | cont=>exact False.elim hq
def Qa (c:TT)(t u:TTy):TTy:=fun D R σ H=>c σ H fun b H1=>if b=true then t D R σ H1 else u D R σ H1
theorem Bc {c:Expr}{a b:List Stmt}{tc:TT}{t u:TTy}{pos:Pos}(hc:PT X.nox c tc)(ha:PTy X a t)(hb:PTy X b u):PTy X [.If c a b pos] (Qa tc t u):=by
 intro pins s σ H D R I q
 refine wpAny_execs_cons (wpAny_If (wpAny_mono (hc pins s σ H _ (I.wish _) q) (fun d s1 z=>?_) fun _ _ z=>False.elim z))
 obtain ⟨H1,I0,q1⟩:=z
 have I1:Inv X pins σ H1 s1:=I0.unwish
 have fin:∀ (f:Flow) (s2:Shared),SP X pins D f s2->(match f with | .next=>wpAny (model X.prog X.w) X.A (execs [] X.env) (SP X pins D) (XP X pins R) s2 | f=>SP X pins D f s2):=fun f s2 z=>by
  cases f with
  | next=>exact wpAny_execs_nil z
  | ret v=>exact z
  | brk=>exact z
  | cont=>exact z
 cases d with
 | true=>exact wpAny_mono (ha pins s1 σ H1 D R I1 q1) (fun f s2 z=>fin f s2 z) fun _ _ z=>z
 | false=>exact wpAny_mono (hb pins s1 σ H1 D R I1 q1) (fun f s2 z=>fin f s2 z) fun _ _ z=>z
def kZ (a:Addr)(cls:Value):HO:=.ext fun h=>∃ o,h.get? a=some o∧o.cls=cls
abbrev TH:=kT->St->Value->Hp->Prop
def PH (X:Cx)(hs:List ExceptHandler)(t:TH):Prop :=
 ∀ (pins:List (Addr×Obj)) (σ:St) (H:Hp) (s:Shared) (a:Addr) (cls:Value) (H':Hp) (s':Shared) (D:kT),Inv X pins σ H s->Fly X.prog X.w X.stack H s a cls H' s'->t D σ cls H' ->
  wpAny (model X.prog X.w) X.A (handleBy (.ref a) X.env hs) (SP X pins D) X.xe s'
abbrev pW (X:Cx)(a:Addr):Cx:={ X with A:=X.A.mark (some (.ref a)),calm:=false,xe:=fun _ _=>False }
theorem Inv.mark {pins:List (Addr×Obj)}{σ:St}{H:Hp}{s:Shared}(I:Inv X pins σ H s)(a:Addr):Inv (pW X a) pins σ H s:=by
 have ok:=I.ok
 exact ⟨⟨ok.mod,ok.kind,ok.glob,ok.blt,ok.above,ok.inj,ok.has,ok.cab,fun z=>(by cases z),ok.frames,ok.stk,ok.exf,ok.bs,ok.bsz,ok.noex,ok.exfs,ok.funs,ok.frf⟩,I.os,I.bare,I.base,I.loc,I.cell,I.free,I.freeC,I.pin,I.hok,I.len⟩
theorem Inv.unmark {pins:List (Addr×Obj)}{σ:St}{H:Hp}{s:Shared}{a:Addr}(I:Inv (pW X a) pins σ H s)(J:X.Ok):Inv X pins σ H s:=⟨J,I.os,I.bare,I.base,I.loc,I.cell,I.free,I.freeC,I.pin,I.hok,I.len⟩
theorem Nv {h:Heap}{a:Addr}{m m':Str->Option Value}(x:h.Ns a m)(y:h.Ns a m'):∀ z,m z=m' z:=fun z=>by
 obtain ⟨o,es,ep,ho,hd,_,hf⟩:=x
 obtain ⟨o',es',ep',ho',hd',_,hf'⟩:=y
 rw [ho] at ho'
 cases ho'
 rw [hd] at hd'
 cases hd'
 rw [<- hf z,<- hf' z]
theorem Inv.turnFrame {pins:List (Addr×Obj)}{σ σ':St}{H:Hp}{s:Shared}{h':Heap}{m':Str->Option Value}(I:Inv X pins σ H s)(hn':h'.Ns X.env.locals m')(hs:Heap.SameBut X.env.locals s.heap h')(hl:σ'.length=σ.length)
  (hm:∀ (i:Nat) (x:Str) (v:V),X.N[i]?=some x->σ'[i]?=some (some v)->σ[i]?=some (some v)∧∀ m,s.heap.Ns X.env.locals m->m' x=m x):Inv X pins σ' H { s with heap:=h' }:=by
 have kp:∀ b o,b≠X.env.locals->s.heap.get? b=some o->h'.get? b=some o:=fun b o hb e=>(hs.2 b hb).trans e
 obtain ⟨m0,hn0,hl0⟩:=I.loc
 obtain ⟨oL,_,_,hoL,_⟩:=id hn0
 have ok:HOk X.prog X.w H h':=fun b ob e=>(I.hok b ob e).stay (fun c w' hc q=>kp c w' (fun z=>by
  subst z
  rcases hc with g | g
  ·rw [<- g,I.free] at e
   cases e
  ·rw [I.free] at g
   cases g) q) (fun _ q=>q) fun _ _ q=>q
 refine ⟨I.ok,I.os,I.bare,⟨fun b o e n hb hx=>kp b o (I.oldNe e) (I.base.keep b o e n hb hx),fun b o e n hb hx=>?_,I.base.free,fun b o e hx=>?_,I.base.tups,I.base.frzs,I.base.tbls⟩,⟨m',hn',fun i x v e1 e2 e3=>?_⟩,fun y c e=>?_,I.free,I.freeC,fun p hp=>?_,ok,hl.trans I.len⟩
 ·obtain ⟨sl,e1⟩:=I.base.slot b o e n hb hx
  exact ⟨sl,kp b _ (I.oldNe e) e1⟩
 ·obtain ⟨o',e1⟩:=I.base.there b o e hx
  exact ⟨o',kp b _ (I.oldNe e) e1⟩
 ·obtain ⟨g1,g2⟩:=hm i x v e1 e2
  obtain ⟨u,r,l⟩:=hl0 i x v e1 g1 e3
  refine ⟨u,r,?_⟩
  rcases l with ⟨k,z⟩ | ⟨k,c,e,o,ho,hd⟩
  ·exact .inl ⟨k,(g2 m0 hn0).trans z⟩
  ·exact .inr ⟨k,c,e,o,kp c o (I.cne x c e) ho,hd⟩
 ·obtain ⟨v,o,ho,hd⟩:=I.cell y c e
  exact ⟨v,o,kp c o (I.cne y c e) ho,hd⟩
 ·obtain ⟨e,n,ne,nf,d⟩:=I.pin p hp
  exact ⟨kp _ _ ne e,n,ne,nf,d⟩
def Lu:TH:=fun _ _ _ _=>False
theorem Ku:PH X [] Lu:=fun _ _ _ _ _ _ _ _ _ _ _ h=>False.elim h
def Qd (K:PySem.W.Frag)(c:Value)(i:Nat)(ts:TS)(tr:TH):TH:=fun D σ cls H' =>
 (PySem.W.exmOne K cls c=some true∧∀ a,H' a=none->ts { nx:=fun σ2 H2=>D.nx (σ2.set i none) H2,rt:=D.rt } (σ.set i (some (.ref a))) (upd H' a (kZ a cls)))∨(PySem.W.exmOne K cls c=some false∧tr D σ cls H')
theorem Ny {x n:Str}{c:Value}{np pos:Pos}{b₀:Stmt}{suite:List Stmt}{rest:List ExceptHandler}{ts:TS}{tr:TH}{i:Nat}(hm:X.mg x=some c)(hN:X.N.Nodup)(hi:X.N[i]?=some n)(hlo:X.env.scope.names.lookup n=some .local)
  (hsu:∀ a,PSs (pW X a) (b₀::suite) ts) (hr:PH X rest tr) (hg:Gl X x:=by rfl) (hd:(x==("__debug__" : Str))=false:=by decide) :
  PH X (.ExceptHandler (some (.Name x np)) (some n) (b₀::suite) pos::rest) (Qd X.K c i ts tr):=by
 intro pins σ H s a cls H' s' D I Y h
 have I1:=Y.inv I
 have hcls:(X.env.scope.kind == .class||(X.env.scope.kind == .module&&X.env.locals != X.env.globals))=false:=by rw [I.ok.kind];rfl
 refine wpAny_handleBy_cons (codeAny_handlers_test (kL (X:=pW X a) (I1.mark a) hg hm ?_ hd)) (by intro q;cases q)
 rcases h with ⟨e,h⟩ | ⟨e,h⟩
 ·refine (PySem.W.exm_one I1.kIn Y.looks e).here ?_
  refine codeAny_handlers_suite_as (Y.again I fun h6 Y6=>?_)
  obtain ⟨na,I7⟩:=Y6.track I
  refine jS (X:=pW X a) (i:=i) (v:=.ref a) (I7.mark a) hN hi (.inl hlo) rfl (fun s8 I8=>?_) (.inr hlo)
  have gone:∀ (σ2:St) (H2:Hp) (s2:Shared) (Q:Shared->Prop),Inv X pins σ2 H2 s2->(∀ s3,Inv X pins (σ2.set i none) H2 s3->Q s3) ->
    wpAny (model X.prog X.w) X.A (do bindName X.env n .none;unbindBehindTheSuite X.env n pos) (fun _ s3=>Q s3) X.xe s2:=fun σ2 H2 s2 Q I2 hQ=>by
   refine wpAny_bind (wpAny_bindName (jS (v:=.non) I2 hN hi (.inl hlo) rfl (fun s3 I3=>?_) (.inr hlo)))
   have hi2:i<(σ2.set i (some V.non)).length:=by rw [I3.len];exact (List.getElem?_eq_some_iff.mp hi).1
   obtain ⟨m,hn,hl⟩:=id I3.loc
   obtain ⟨u,r,l⟩:=hl i n .non hi (by rw [List.getElem?_set_self (by rw [List.length_set] at hi2;exact hi2)]) (.inl hlo)
   have hv:m n=some u:=by
    rcases l with ⟨_,z⟩ | ⟨k,_⟩
    ·exact z
    ·have k':X.env.scope.names.lookup n=some .cell∨X.env.scope.names.lookup n=some .free:=k
     rw [hlo] at k'
     rcases k' with z | z <;> cases z
   unfold unbindBehindTheSuite
   refine wpAny_onRaise (wpAny_unbindName_local hlo hn hv hcls fun h' u' hns hsb=>?_)
   refine hQ { s3 with heap:=h' } ?_
   have J:=I3.turnFrame (σ':=σ2.set i none) hns hsb (by rw [List.length_set,List.length_set]) (fun j y v e1 e2=>?_)
   ·exact J
   ·by_cases hj:j=i
    ·subst hj
     rw [List.getElem?_set_self (by rw [List.length_set] at hi2;exact hi2)] at e2
     cases e2
    ·rw [List.getElem?_set_ne (Ne.symm hj)] at e2
     refine ⟨by rw [List.getElem?_set_ne (Ne.symm hj)];exact e2,fun m2 hn2=>?_⟩
     have:y≠n:=fun z=>hj (pU hN e1 (z▸hi))
     show (if y=n then u' else m y)=m2 y
     rw [if_neg this]
     exact Nv hn hn2 y
  have hq:=h a na
  refine wpAny_mono (hsu a pins s8 _ _ _ I8 hq) (fun f s9 z=>?_) fun _ _ z=>False.elim z
  cases f with
  | next =>
   obtain ⟨σ9,H9,I9,q9⟩:=z
   exact gone σ9 H9 s9 _ (I9.unmark I.ok) fun s3 I3=>⟨_,H9,I3,q9⟩
  | ret u =>
   obtain ⟨v,σ9,H9,I9,r9,q9⟩:=z
   exact gone σ9 H9 s9 _ (I9.unmark I.ok) fun s3 I3=>⟨v,_,H9,I3,r9,q9⟩
  | brk =>
   obtain ⟨_,_,_,q9⟩:=z
   exact False.elim q9
  | cont =>
   obtain ⟨_,_,_,q9⟩:=z
   exact False.elim q9
 ·refine (PySem.W.exm_one I1.kIn Y.looks e).here ?_
  exact hr pins σ H s a cls H' s' D I Y h
def Qz (tb:TTy)(th:TH):TS:=fun D σ H=>tb D (fun σ' cls H'=>th D σ' cls H') σ H
theorem Lk {body:List Stmt}{h₀:ExceptHandler}{hs:List ExceptHandler}{pos:Pos}{tb:TTy}{th:TH}(O:Own X)(hb:PTy X body tb)(hh:PH X (h₀::hs) th):PS X (.Try body (h₀::hs) [] [] pos) (Qz tb th):=by
 intro pins s σ H D I q
 refine wpAny_Try_except (wpAny_mono (hb pins s σ H D _ I q) (fun f s1 z=>?_) fun e s1 z=>?_)
 ·cases f with
  | next=>exact wpAny_execs_nil z
  | ret v=>exact z
  | brk=>exact z
  | cont=>exact z
 ·obtain ⟨a,cls,σ',H1,s2,H',rfl,I2,Y,q2⟩:=z
  exact Y.look I2 O fun h' Y'=>hh pins σ' H1 s2 a cls H' _ D I2 Y' q2
end
end L2
namespace L2
open PySem PySem.Spec PyProof.Rows
namespace RV
section
variable {prog:Program}{w:World}{A:Around}{E:Value->Shared->Prop}{s:Shared}
end
end RV
section
variable {X:Cx}
theorem rV:∀ (x:List Nat) (ls:List (List Nat)),risingS (tx x) (ls.map tx)=true->(∀ y∈ls,¬ y<x)∧ls.Pairwise (fun a b=>¬ b<a)
 | x,[],_=>⟨fun _ h=>(by cases h),.nil⟩
 | x,y::ls,h=>by
  have h':(!ltCps (tx y).cps.toList (tx x).cps.toList&&risingS (tx y) (ls.map tx))=true:=h
  rw [Bool.and_eq_true,cW,cW,ltCps_eq] at h'
  obtain ⟨a,b⟩:=rV y ls h'.2
  have h1:¬ y<x:=by simpa using h'.1
  refine ⟨fun z hz=>?_,List.pairwise_cons.mpr ⟨a,b⟩⟩
  rcases List.mem_cons.mp hz with rfl | hz
  ·exact h1
  ·exact Wd.Qn h1 (a z hz)
theorem sA:∀ (ls:List (List Nat)),sortedS (ls.map tx)=true->ls.Pairwise (fun a b=>¬ b<a)
 | [],_=>.nil
 | x::ls,h=>List.pairwise_cons.mpr (rV x ls h)
theorem mR:∀ {us:List Value} {ss:List Str},StrsAre us ss->bR ((ss.map fun x=>x.cps.toList).map T) us
 | _,_,.nil=>.nil
 | _,_,.cons x t h=>.cons ⟨t,by show Value.str x t=Value.str (tx x.cps.toList) t;rw [iR]⟩ (mR h)
theorem uI:eO X (.builtin "sorted") (fun xs H Q=>∃ (p:Addr) (ls:List (List Nat)),xs=[.ref p]∧SqL X.K H p (ls.map T)∧ls.length<64∧∀ (ms:List (List Nat)) (D:Addr),H D=none->ms.Perm ls->ms.Pairwise (fun a b=>¬ b<a)->Q (.ref D) (upd H D (.lst (ms.map T)))):=by
 intro pins s σ H xs us Q I r h
 obtain ⟨p,ls,rfl,hq,h64,q⟩:=h
 obtain ⟨u,rfl,ru⟩:=fW r
 cases ru
 obtain ⟨its,rv,pl,hz⟩:=I.list hq
 have hlen:=rv.length
 rw [List.length_map] at hlen
 refine sorted_strs pl.isList (sE rv) (by omega) fun out ss' a1 a2 a3=>?_
 obtain ⟨e,he⟩:=sortedAll_at s.heap its out
 have em:(ss'.map fun x=>x.cps.toList).map tx=ss':=by
  rw [List.map_map]
  conv=>rhs;rw [<- List.map_id ss']
  exact List.map_congr_left fun x _=>iR x
 have hp:(ss'.map fun x=>x.cps.toList).Perm ls:=by
  have z:=a2.map fun x=>x.cps.toList
  have e2:(ls.map tx).map (fun x=>x.cps.toList)=ls:=by
   rw [List.map_map]
   conv=>rhs;rw [<- List.map_id ls]
   exact List.map_congr_left fun x _=>cW x
  rw [e2] at z
  exact z
 have hpl:=hp.length_eq
 refine ⟨.ref _,_,I.laid (t':=s.toks) (fun _ _=>sortedAll_old) (Nat.le_succ _) (o:=.lst ((ss'.map fun x=>x.cps.toList).map T)) ⟨by rw [List.length_map,hpl];rw [List.length_map] at hz;exact hz,out.toList,e,mR a1,by simpa using he⟩,rfl,q _ _ (I.hok.fresh (Nat.le_succ _)) hp (sA _ (by rw [em];exact a3))⟩
theorem wK (hu:X.A.units<cLine):OpR X (compareOp .NotEq) (fun x y H Q=>∃ (p b:Addr) (ls ms:List (List Nat)),x = .ref p∧y = .ref b∧SqL X.K H p (ls.map T)∧SqL X.K H b (ms.map T)∧Q (.bl (!decide (ls=ms))) H):=by
 intro pins s σ H x y v u Q I rx ry h
 obtain ⟨p,b,ls,ms,rfl,rfl,h1,h2,q⟩:=h
 cases rx
 cases ry
 obtain ⟨its,r,pl,_⟩:=I.list h1
 obtain ⟨its2,r2,pl2,_⟩:=I.list h2
 have l1:=r.length
 have l2:=r2.length
 rw [List.length_map] at l1 l2
 by_cases hl:ls.length=ms.length
 ·refine SeqAt.RcNeAt.lists (e:=fun j=>decide (ls[j]?=ms[j]?)) pl.isList pl2.isList (by rw [List.size_toArray,List.size_toArray];omega) hu (fun j g1 g2=>Me r r2 (by simp) (by simp)) _ _ _ _ ?_
  rw [List.size_toArray,<- l1,uB hl]
  exact ⟨.bl _,H,I,rfl,q⟩
 ·refine SeqAt.RcNeAt.lists_lengths pl.isList pl2.isList (by rw [List.size_toArray,List.size_toArray,bne_iff_ne];omega) hu _ _ _ _ ?_
  have e:decide (ls=ms)=false:=decide_eq_false fun z=>hl (by rw [z])
  rw [e] at q
  exact ⟨.bl _,H,I,rfl,q⟩
end
end L2
namespace L2
open PySem PySem.Spec PyProof.Rows
def nub:List (List Nat)->List (List Nat)->List (List Nat)
 | acc,[]=>acc
 | acc,l::ls=>if l∈acc then nub acc ls else nub (acc++[l]) ls
def eL (ls:List (List Nat)):Nat->List (List Nat)
 | 0=>[]
 | i+1=>if ls.getD i []∈eL ls i then eL ls i else eL ls i++[ls.getD i []]
theorem nH (ls:List (List Nat)):∀ i,(eL ls i).length<=i
 | 0=>Nat.le_refl _
 | i+1=>by
  have h:=nH ls i
  rw [eL]
  split
  ·omega
  ·rw [List.length_append,List.length_singleton]
   omega
theorem nT (ls:List (List Nat)):∀ i,(eL ls i).Nodup
 | 0=>List.nodup_nil
 | i+1=>by
  have h:=nT ls i
  rw [eL]
  split
  ·exact h
  ·rename_i hn
   refine List.nodup_append.mpr ⟨h,by simp,fun a ha b hb e=>?_⟩
   have hb':b=ls.getD i []:=by simpa using hb
   rw [e,hb'] at ha
   exact hn ha
theorem mK (ls:List (List Nat))(x:List Nat):∀ i,i<=ls.length->(x∈eL ls i↔x∈ls.take i)
 | 0,_=>by simp [eL]
 | i+1,hi=>by
  have h:=mK ls x i (by omega)
  have e:ls.take (i+1)=ls.take i++[ls.getD i []]:=by
   rw [List.take_add_one,List.getD_eq_getElem?_getD,List.getElem?_eq_getElem (by omega)]
   rfl
  rw [e,List.mem_append,eL]
  split
  ·rename_i hm
   rw [h]
   constructor
   ·exact .inl
   ·rintro (q | q)
    ·exact q
    ·have q':x=ls.getD i []:=by simpa using q
     rw [q',<- mK ls _ i (by omega)]
     exact hm
  ·rw [List.mem_append,h]
def uniq (ls:List (List Nat)):List (List Nat):=eL ls ls.length
theorem qJ (ls:List (List Nat)):(uniq ls).Nodup:=nT ls _
theorem gJ (ls:List (List Nat))(x:List Nat):x∈uniq ls↔x∈ls:=by
 rw [uniq,mK ls x _ (Nat.le_refl _),List.take_length]
namespace SE
section
variable {prog:Program}{w:World}{A:Around}{R:Result->Shared->Prop}{J:Addr}{fp wr:List Addr}{G:Array GenState->Array GenState->Prop}{n:Nat}{P:Nat->Value->Prop}{St:Nat->Shared->Prop}
abbrev Has (prog:Program)(w:World)(h:Heap)(D:Addr)(ms:List (List Nat)):Prop:=h.SetOf (PySem.strKind prog w) D (fun x=>decide (x.cps.toList∈ms)) ms.length
theorem Has.at {h h':Heap}{D:Addr}{ms:List (List Nat)}(x:Has prog w h D ms)(k:∀ o,h.get? D=some o->h'.get? D=some o):Has prog w h' D ms:=by
 obtain ⟨o,es,ep,tb,ho,r⟩:=x
 exact ⟨o,es,ep,tb,k o ho,r⟩
theorem loop (W:WalksS prog w A.in1 J fp wr G n P St){D:Addr}(hD:D∉fp)(ls:List (List Nat))(hv:∀ i v,P i v->∃ t,v=Value.str (tx (ls.getD i [])) t)(hn:n+1<scanBound) :
  ∀ (k i:Nat) (s:Shared),n-i=k->i<=n->St i s->Has prog w s.heap D (eL ls i) ->
   (∀ s',Moved (D::wr) G s s'->Has prog w s'.heap D (eL ls n)->R (.ok (.ret .none)) s')->codeAny (model prog w) A (.builtin "set.update.loop" ⟨[.ref D,.ref J],[]⟩) R s:=by
 have hDw:D∉wr:=fun z=>hD (W.sub _ z)
 have up:∀ b∈wr,b∈D::wr:=fun b hb=>.tail _ hb
 intro k
 induction k with
 | zero =>
  intro i s hk hi st hs hR
  obtain rfl:i=n:=by omega
  refine codeAny_builtin PyProof.Rows.F.entry_set_update_loop ?_
  rw [Around.under_plainId PyProof.Rows.F.plain_set_update_loop]
  refine wpAny_bind (m:=pyNext (.ref J)) (W.done s _ _ st fun s2 mv=>?_)
  exact (show wpAny _ A.in1 (ret Value.none) _ _ s2 from wpAny_pure (hR s2 (mv.mono up) (hs.at fun o e=>mv.heap D o hDw e)))
 | succ k ih =>
  intro i s hk hi st hs hR
  have hlt:i<n:=by omega
  refine codeAny_builtin PyProof.Rows.F.entry_set_update_loop ?_
  rw [Around.under_plainId PyProof.Rows.F.plain_set_update_loop]
  refine wpAny_bind (m:=pyNext (.ref J)) (W.item i s _ _ hlt st fun v s2 pv st2 mv=>?_)
  obtain ⟨t,rfl⟩:=hv i v pv
  have hs2:=hs.at fun o e=>mv.heap D o hDw e
  refine wpAny_bind (m:=holding [Value.str (tx (ls.getD i [])) t] (setAdd D (.str (tx (ls.getD i [])) t))) (wpAny_holding ?_)
  unfold setAdd
  refine wpAny_holding (wpAny_bind ((PySem.strKind prog w).pyHash (k:=tx (ls.getD i [])) (strKind_is _ _ _ _) ?_))
  have hl:=nH ls i
  refine wpAny_setAddHashed_of (knd:=PySem.strKind prog w) (s:={ s2 with toks:=s2.toks+1 }) (strKind_is _ _ _ _) rfl hs2 (by omega) fun h3 sb x3=>?_
  have x4:Has prog w h3 D (eL ls (i+1)):=by
   refine PyProof.Rows.SetOf_congr x3 (fun y=>?_) ?_
   ·rw [eL]
    split
    ·rename_i hm
     rw [Bool.eq_iff_iff,Bool.or_eq_true,decide_eq_true_iff,decide_eq_true_iff]
     constructor
     ·rintro (q | q)
      ·exact q
      ·rw [q,cW]
       exact hm
     ·exact .inl
    ·rw [Bool.eq_iff_iff,Bool.or_eq_true,decide_eq_true_iff,decide_eq_true_iff,decide_eq_true_iff,List.mem_append,List.mem_singleton]
     constructor
     ·rintro (q | q)
      ·exact .inl q
      ·right
       rw [q,cW]
     ·rintro (q | q)
      ·exact .inl q
      ·right
       rw [<- q,iR]
   ·rw [cW,eL]
    by_cases hm:ls.getD i []∈eL ls i
    ·rw [if_pos hm,if_pos (decide_eq_true hm)]
    ·rw [if_neg hm,if_neg (by rw [decide_eq_false hm];exact Bool.false_ne_true),List.length_append]
     rfl
  refine wpAny_pure ⟨plainId_quiet PyProof.Rows.F.plain_set_update_loop _,ih (i+1) _ (by omega) hlt (W.frame _ s2 _ _ st2 (Nat.le_succ _) fun b hb o e=>(sb.2 b fun z=>hD (z▸hb)).trans e) x4 fun s5 m5 x5=>?_⟩
  refine hR s5 (Moved.trans W.gtrans ((mv.mono up).then_heap (Nat.le_succ _) fun b o hb e=>(sb.2 b fun z=>hb (z▸.head _)).trans e) m5) x5
variable {E:Value->Shared->Prop}{s:Shared}
theorem Jr {l:Addr}{its:Array Value}{ls:List (List Nat)}{Q:Value->Shared->Prop}(hh:A.handled=none)(hl:s.heap.IsList l its)(hv:∀ i v,its[i]?=some v->∃ t,v=Value.str (tx (ls.getD i [])) t)(hn:its.size+1<scanBound)
  (h:∀ (h':Heap) (tk:Nat),Has prog w h' s.heap.objs.size (eL ls its.size)->(∀ b o,s.heap.get? b=some o->h'.get? b=some o)->Q (.ref s.heap.objs.size) { s with heap:=h',toks:=tk }) :
  wpAny (model prog w) A (call (.type "set") [.ref l]) Q E s:=by
 obtain ⟨mc,mt,f0⟩:=F.called_set.mro
 have f1:=F.called_set.made;have f2:=F.called_set.sub;have f3:=F.called_set.notType;have f4:=F.called_set.canCreate;have f5:=F.typeCall_set_1 (.ref l)
 refine wpAny_call (codeAny_of_tree (show wpAny _ _ (callAny (.type "set") _) _ _ _ from wpAny_pure ⟨Code.quiet_builtin _ (by decide +kernel),codeAny_builtin F.entry_type_call ?_⟩))
 rw [Around.under_plain (weight_type_call_type "set" [.ref l] []) rfl]
 repeat (any_goals (first | wp_step | assumption))
 refine codeAny_mono (code_set_new_1 (.ref l) (E:=E) (Q₁:=fun ob s1=>∃ b:Bool,ob = .ref s.heap.objs.size∧s1 = { s with heap:=s.heap.push { cls:=.type "set",dict:=none,data:=.set #[] 0 (.fresh 0 0 b) } }) fun b=>⟨b,rfl,rfl⟩) fun r s1 hr=>?_
 cases r with
 | error e=>exact hr
 | ok fl =>
  cases fl with
  | ret ob =>
   obtain ⟨b,rfl,rfl⟩:=hr
   generalize hob:({ cls:=.type "set",dict:=none,data:=.set #[] 0 (.fresh 0 0 b) }:Obj)=ob
   have hD:(s.heap.push ob).get? s.heap.objs.size=some ob:=Heap.get?_push_size _ (by rw [<- hob];rfl)
   have hT:Shared.TypeIs { s with heap:=s.heap.push ob } (.ref s.heap.objs.size) "set" := ⟨_,hD,by rw [<- hob]⟩
   have f6:=F.called_set.init.lookup;have f7:=F.called_set.init.bind (.ref s.heap.objs.size)
   repeat (any_goals (first | wp_step | assumption))
   refine codeAny_mono (codeAny_call_builtin (R:=wants (fun r s2=>r = .none∧∃ h' tk,s2 = { s with heap:=h',toks:=tk }∧Has prog w h' s.heap.objs.size (eL ls its.size)∧∀ b o,s.heap.get? b=some o->h'.get? b=some o) E)
    F.called_set.init.plain F.entry_set_init (check_set_init_1 hT ?_)) fun r2 s2 hr2=>?_
   ·obtain ⟨⟨oc,od,odt,osl⟩,hol,hcl,nl,hdl⟩:=id hl
    simp only at hcl hdl
    subst hcl hdl
    have hol':(s.heap.push ob).get? l=some { cls:=.type "list",dict:=od,data:=.seq its nl,slots:=osl }:=Heap.get?_push_of_some _ hol
    have f8:=F.sub_list_set;have f9:=F.sub_list_frozenset
    have f10:(Value.type "list" == Value.type "dict")=false:=by decide
    have hl1:(s.heap.push ob).IsList l its:=⟨_,hol',rfl,nl,rfl⟩
    subst hob
    unfold Builtin.«set.__init__» noKeywords Builtin.Frozenset.updateFrom
    generalize hPI:pyIter=PI
    wp_walk
    subst hPI
    refine wpAny_pyIter_list hl1 ?_
    refine wpAny_bind (wpAny_runValue ?_)
    have hlt:l<s.heap.objs.size:=Heap.lt_size hol
    have hh3:A.in1.in1.in1.handled=none:=by simp [hh]
    have hsz:(s.heap.push { cls:=.type "set",dict:=none,data:=.set #[] 0 (.fresh 0 0 b) }).objs.size=s.heap.objs.size+1:=Heap.size_push _ _
    have hne:l≠(s.heap.push { cls:=.type "set",dict:=none,data:=.set #[] 0 (.fresh 0 0 b) }).objs.size:=by rw [hsz];exact Nat.ne_of_lt (Nat.lt_succ_of_lt hlt)
    have hfp:s.heap.objs.size∉[(s.heap.push { cls:=.type "set",dict:=none,data:=.set #[] 0 (.fresh 0 0 b) }).objs.size,l]:=by
     rw [hsz]
     intro z
     rcases List.mem_cons.mp z with e | e
     ·exact Nat.ne_of_lt (Nat.lt_succ_self _) e
     ·exact Nat.ne_of_gt hlt (List.mem_singleton.mp e)
    refine loop ((Walks.list hh3 _ l hne its).toS) (D:=s.heap.objs.size) hfp ls hv hn (its.size-0) 0 _ (by omega) (Nat.zero_le _) ⟨⟨_,Heap.get?_push_size _ rfl,rfl,rfl⟩,hl1.push _⟩ ?_ fun s3 mv x3=>?_
    ·have hg:((s.heap.push { cls:=.type "set",dict:=none,data:=.set #[] 0 (.fresh 0 0 b) }).push { cls:=.type "list_iterator",data:=.fields #[.ref l,.int 0 0] }).get? s.heap.objs.size=some { cls:=.type "set",dict:=none,data:=.set #[] 0 (.fresh 0 0 b) }:=Heap.get?_push_of_some _ hD
     exact PyProof.Rows.SetOf_congr ((PyProof.Rows.setObjOf_fresh (knd:=PySem.strKind prog w) b).setOf hg (by unfold scanBound;omega)) (fun _=>rfl) rfl
    ·obtain ⟨h3,g3,d3,tk3,os3⟩:=s3
     obtain rfl:g3=s.gens:=mv.gens
     obtain rfl:d3=s.drawn:=mv.drawn
     obtain rfl:os3=s.os:=mv.os
     refine wpAny_pure (show wpAny _ _ (ret Value.none) _ _ _ from wpAny_pure ⟨rfl,h3,tk3,rfl,x3,fun c o e=>?_⟩)
     have hc:=Heap.lt_size e
     exact mv.heap c o (show c∉[s.heap.objs.size,(s.heap.push { cls:=.type "set",dict:=none,data:=.set #[] 0 (.fresh 0 0 b) }).objs.size] by
      rw [hsz]
      intro z
      rcases List.mem_cons.mp z with e | e
      ·exact Nat.ne_of_lt hc e
      ·exact Nat.ne_of_lt (Nat.lt_succ_of_lt hc) (List.mem_singleton.mp e)) (Heap.get?_push_of_some _ (Heap.get?_push_of_some _ e))
   ·cases r2 with
    | error e=>exact hr2
    | ok fl2 =>
     cases fl2 with
     | ret r =>
      obtain ⟨rfl,h3,tk,rfl,x3,k3⟩:=hr2
      repeat (any_goals (first | wp_step | assumption))
      exact h _ _ x3 k3
     | _=>exact hr2.elim
  | _=>exact hr.elim
end
end SE
def Gr (P:Program)(w:World)(D:Addr)(ms:List (List Nat)):HO:=.ext fun h=>SE.Has P w h D ms
section
variable {X:Cx}
theorem Eh {ls:List (List Nat)}{us:List Value}(r:bR (ls.map T) us){i:Nat}{v:Value}(h:us[i]?=some v):∃ t,v=Value.str (tx (ls.getD i [])) t:=by
 have hl:=r.length
 rw [List.length_map] at hl
 have hi:i<ls.length:=by have:=(List.getElem?_eq_some_iff.mp h).1;omega
 obtain ⟨u,h1,h2⟩:=r.get (i:=i) (x:=T ls[i]) (by rw [List.getElem?_map,List.getElem?_eq_getElem hi];rfl)
 rw [h] at h1
 cases h1
 rw [List.getD_eq_getElem?_getD,List.getElem?_eq_getElem hi]
 exact h2
theorem Ct (hc:X.calm=true):eO X (.type "set") (fun xs H Q=>∃ (p:Addr) (ls:List (List Nat)),xs=[.ref p]∧SqL X.K H p (ls.map T)∧ls.length+1<4096∧∀ D,H D=none->Q (.ref D) (upd H D (Gr X.prog X.w D (uniq ls)))):=by
 intro pins s σ H xs us Q I r h
 obtain ⟨p,ls,rfl,hq,hz,q⟩:=h
 obtain ⟨u,rfl,ru⟩:=fW r
 cases ru
 obtain ⟨its,rv,pl,_⟩:=I.list hq
 have hlen:=rv.length
 rw [List.length_map] at hlen
 refine SE.Jr (I.ok.hd hc) pl.isList (ls:=ls) (fun i v e=>Eh rv (by simpa using e)) (by rw [List.size_toArray];unfold scanBound;omega) fun h' tk x k=>?_
 have e:eL ls its.toArray.size=uniq ls:=by rw [List.size_toArray,<- hlen];rfl
 rw [e] at x
 have hf:H s.heap.objs.size=none:=I.hok.fresh (Nat.le_refl _)
 refine ⟨.ref s.heap.objs.size,_,I.laid (t':=tk) k (Nat.le_refl _) (o:=Gr X.prog X.w s.heap.objs.size (uniq ls)) ?_,rfl,q _ hf⟩
 refine ⟨x,?_,fun h1 h2 x1 kk=>x1.at kk⟩
 obtain ⟨o,_,_,_,ho,_⟩:=x
 exact ⟨o,ho⟩
theorem By:eO X (.builtin "len") (fun xs H Q=>∃ (D:Addr) (ms:List (List Nat)),xs=[.ref D]∧H D=some (Gr X.prog X.w D ms)∧Q (.int (ms.length:Nat)) H):=by
 intro pins s σ H xs us Q I r h
 obtain ⟨D,ms,rfl,hD,q⟩:=h
 obtain ⟨u,rfl,ru⟩:=fW r
 cases ru
 obtain ⟨⟨o,es,ep,tb,ho,hex,hd,_,_,hb,hf,hn⟩,_⟩:=(show cY X.prog X.w H s.heap D (Gr X.prog X.w D ms) from I.hok D _ hD)
 have hb':es.size<4096:=hb
 exact call_len_set ho hex hd hf (by omega) ⟨.int (ms.length:Nat),H,I.tok _,⟨s.toks+1,by rw [<- hn]⟩,q⟩
end
end L2
namespace L2
open PySem PySem.Spec PyProof.Rows
section
variable {X:Cx}
namespace LM
end LM
theorem xS (K:PySem.W.Frag)(hK:X.K=K):eO X (.builtin "len") (fun xs H Q=>∃ p ys,xs=[.ref p]∧(SqL K H p ys∨SqT K H p ys)∧Q (.int ys.length) H):=by
 subst hK
 exact aV
theorem tI (K:PySem.W.Frag)(hK:X.K=K):IxR X (Oa K):=by
 subst hK
 exact cH
end
end L2
namespace L2
open PySem PySem.Spec PyProof.Rows
def Itx (l:List Nat):It:=⟨fun i _=>i<l.length,fun i H x H'=>H'=H∧∃ c,l[i]?=some c∧x=T [c],fun i _=>l.length<=i⟩
theorem Dp {P:Program}{w:World}{K:PySem.W.Frag}{tg:Expr}{it:Addr}{ty:String}{l:List Nat}{t:Tok}(hty:ty = "str_ascii_iterator" ∨ ty = "str_iterator")
  (W:∀ A:Around,A.handled=none->Walks P w A it [it] [it] (tx l).cps.size (SignAt (tx l)) (fun i h=>h.IsStrIter it ty (tx l) t i)):tY P w K tg (Itx l) [it] it (fun i h=>h.IsStrIter it ty (tx l) t i) where
 mem:=by simp
 obj:=fun i h st b hb=>by
  have e:b=it:=by simpa using hb
  subst e
  obtain ⟨o,e,c,d⟩:=st
  exact ⟨o,e,fun v z=>by rw [d] at z;cases z⟩
 keep:=fun i h h' st k=>by
  obtain ⟨o,e,r⟩:=st
  exact ⟨o,k it (by simp) o e,r⟩
 item:=by
  intro X hP hw hK hc i pins s σ H E I hf st hg
  subst hP hw hK
  obtain ⟨f0,f1,f2,f3,f4,f5⟩:=hf it (by simp)
  refine (W X.A (I.ok.hd hc)).item i s _ _ (by have:i<l.length:=hg;simpa [tx] using this) st fun v h' tk hv st' kk=>?_
  obtain ⟨c,u,hcu,rfl⟩:=hv
  have I1:Inv X pins σ H { s with heap:=h',toks:=tk }:=I.turned (fun b o hb e=>kk b o (by simpa using hb) e) f0 f1 f3 f4 f5
  obtain ⟨o,e,cl,d⟩:=id st'
  refine ⟨_,rfl,Af (s:={ s with heap:=h',toks:=tk }) (n:=ty) e cl d (by rcases hty with rfl | rfl <;> decide) ⟨T [c],H,I1,⟨u,rfl⟩,⟨rfl,c,?_,rfl⟩,st',fun b hb=>(hf b hb).1⟩⟩
  simpa [tx] using hcu
 done:=by
  intro X hP hw hK hc i pins s σ H E I hf st hg
  subst hP hw hK
  obtain ⟨f0,f1,f2,f3,f4,f5⟩:=hf it (by simp)
  have hn:l.length<=i:=hg
  obtain ⟨o,e,cl,d⟩:=id st
  rcases hty with rfl | rfl
  ·exact wpAny_pyNext_ascii_end (I.ok.hd hc) st (by simpa [tx] using hn) fun h' eb=>⟨rfl,I.turned (t':=s.toks) (fun b o hb e=>eb b o hb e) f0 f1 f3 f4 f5⟩
  ·exact wpAny_pyNext_wide_end (I.ok.hd hc) st (by simpa [tx] using hn) fun h' eb=>⟨rfl,I.turned (t':=s.toks) (fun b o hb e=>eb b o hb e) f0 f1 f3 f4 f5⟩
 self:=fun A i s Q E st h=>by
  rcases hty with rfl | rfl
  ·exact wpAny_pyIter_striter_ascii st h
  ·exact wpAny_pyIter_striter_wide st h
def Qq (tl:TE):TI:=fun σ H R=>tl σ H fun x H1=>∃ l,x=T l∧R (Itx l) H1
section
variable {X:Cx}{tg:Expr}
theorem jX {e:Expr}{tl:TE}(hl:PE X e tl):PI X tg e (Qq tl):=by
 intro pins s σ H R I h
 refine thn (hl pins s σ H _ I h) fun v s1 ⟨x,H1,I1,r1,q1⟩=>?_
 obtain ⟨l,rfl,q⟩:=q1
 obtain ⟨t,rfl⟩:=r1
 have fin:∀ (ty:String) (o:Obj),(ty = "str_ascii_iterator" ∨ ty = "str_iterator")->(∀ A:Around,A.handled=none->Walks X.prog X.w A s1.heap.objs.size [s1.heap.objs.size] [s1.heap.objs.size] (tx l).cps.size (SignAt (tx l)) (fun i h=>h.IsStrIter s1.heap.objs.size ty (tx l) t i)) ->
   (s1.heap.push o).IsStrIter s1.heap.objs.size ty (tx l) t 0->PIE X pins σ tg R (.ref s1.heap.objs.size) { s1 with heap:=s1.heap.push o }:=fun ty o hty W st=>by
  refine ⟨s1.heap.objs.size,[s1.heap.objs.size],_,_,H1,rfl,I1.kept (t':=s1.toks) fun b o e=>Heap.get?_push_of_some _ e,Dp hty W,st,fun b hb=>?_,q⟩
  have e:b=s1.heap.objs.size:=by simpa using hb
  subst e
  exact I1.fpOk (Nat.le_refl _) (I1.hok.fresh (Nat.le_refl _))
 cases ha:(tx l).cps.all (· < 128)
 ·exact wpAny_pyIter_wide ha (fin "str_iterator" _ (.inr rfl) (fun A hA=>Walks.strWide hA _ (tx l) t) ⟨_,Heap.get?_push_size _ rfl,rfl,rfl⟩)
 ·exact wpAny_pyIter_ascii ha (fin "str_ascii_iterator" _ (.inl rfl) (fun A hA=>Walks.strAscii hA _ (tx l) t) ⟨_,Heap.get?_push_size _ rfl,rfl,rfl⟩)
end
theorem pF {l:List Nat}{g:TG}{tb:TS}{D:kT}{σ:St}{H:Hp}(Pv:Nat->St->Hp->Prop)(h0:Pv 0 σ H)
  (hs:∀ i c σ H,l[i]?=some c->Pv i σ H->g (T [c]) σ H fun σ2 H2=>tb { D with nx:=Pv (i+1),ct:=Pv (i+1),bk:=D.nx } σ2 H2) (hd:∀ σ H,Pv l.length σ H->D.nx σ H) :
  ∃ W:Nat->Nat->St->Hp->Prop,(∃ m,W 0 m σ H)∧∀ i m σ H,W i m σ H ->
   ((Itx l).stop i H∧D.nx σ H)∨((Itx l).go i H∧∃ N:St->Hp->Prop,(∀ σ' H',N σ' H'->∃ m',m'<m∧W (i+1) m' σ' H')∧∀ x H',(Itx l).yld i H x H'->g x σ H' fun σ2 H2=>tb { D with nx:=N,ct:=N,bk:=D.nx } σ2 H2):=by
 refine ⟨fun i m σ H=>m=l.length-i∧i<=l.length∧Pv i σ H,⟨l.length,by simp,Nat.zero_le _,h0⟩,?_⟩
 rintro i m σ H ⟨rfl,hi,p⟩
 by_cases hlt:i<l.length
 ·refine .inr ⟨hlt,Pv (i+1),fun σ' H' p'=>⟨l.length-(i+1),by omega,rfl,hlt,p'⟩,fun x H' y=>?_⟩
  obtain ⟨rfl,c,hc,rfl⟩:=y
  exact hs i c σ _ hc p
 ·obtain rfl:i=l.length:=by omega
  exact .inl ⟨Nat.le_refl _,hd σ H p⟩
section
variable {X:Cx}
theorem wY:OpR X (compareOp .NotIn) (fun x y H Q=>∃ c,x=T [c]∧∃ l,y=T l∧Q (.bl (!decide (c∈l))) H):=by
 intro pins s σ H x y v u Q I rx ry h
 obtain ⟨c,e1,l,e2,q⟩:=h
 exact uM pins s σ H x y v u Q I rx ry ⟨tx [c],tx l,e1,e2,by rw [show tx [c]=⟨#[c]⟩ from rfl,StrLaws.found_one,cW];exact q⟩
namespace RV
variable {prog:Program}{w:World}{A:Around}{E:Value->Shared->Prop}{s:Shared}
end RV
end
end L2
namespace L2
open PySem PySem.Spec PyProof.Rows
section
variable {P:Program}{w:World}{K:PySem.W.Frag}{mg:Str->Option Value}{base:Heap}
theorem Fun.okN {x qual:Str}{st:Stmt}{f:Addr}{fd:FuncData}{N ps:List Str}{k:Nat}{sp:Sp}(F:Fun K x qual st f fd)(S:aY N ps (aJ st))(len:∀ vs H Q E,sp vs H Q E->vs.length=ps.length)
  (hbody:∀ (cdv:Value) (A:Around) (outer:List Env) (s:Shared) (H:Hp) (vs:List V) (Q:VK) (E:XK),fI k (A.deeper (envOfC qual (aJ st) s.heap.objs.size f cdv))->sp vs H Q E ->
   ∃ t,PSs (nU (CX1 P w) P w K mg base N qual (aJ st) f cdv A outer s H E).nox (eR st) t∧t { nx:=fun _ H'=>Q .non H',rt:=Q } (lU N vs) H):cD P w K mg base (CX1 P w) (k+1) f fd ps sp:=by
 obtain ⟨oc,od,kV,doc,pm,an,cdv,ct,osl,rfl,lk,hcd⟩:=F.ex
 refine Ko lk hcd S len fun A outer s H vs Q E hr hsp=>?_
 obtain ⟨t,h,q⟩:=hbody cdv A outer s H vs Q E hr hsp
 exact ⟨t,h.nox,q⟩
end
open PySem.W in
set_option genInjectivity false in
structure Knd (K:PySem.W.Frag)(C:Addr):Prop where
 ga:findIn K (.ref C) "__getattribute__" = some (some (.builtin "BaseException.__getattribute__"))
 hk:findIn K (.ref C) "__getattr__" = some none
 ha:findIn K (.ref C) "__class__" = some (some (.builtin "object.__class__"))
 hn:specialIn K (.builtin "object.__class__") "__get__" = some (some (.builtin "getset_descriptor.__get__"))
 htk:takesIn K (.builtin "object.__class__")=some true
 hm:mroIn K C (.type "object")=some true
 hb:mroIn K C (.type "BaseException")=some true
 cl:(clsIn K C).isSome=true
namespace EX
open PySem.W PySem.Calls PySem.Builtin PySem.Builtin.ObjectAttr PySem.Builtin.Getset_descriptor
variable {prog:Program}{w:World}{A:Around}{E:Value->Shared->Prop}{s:Shared}{K:PySem.W.Frag}{a C:Addr}
theorem ty {M:Model}{h:Heap}(p:∃ o,h.get? a=some o∧o.cls = .ref C):Looks M h (typeOf (.ref a)) (.ref C):=by
 obtain ⟨o,h1,h2⟩:=p
 exact h2▸(Looks.ld h1).andThen .now
theorem Nm {M:Model}{h:Heap}(X:K.In h)(k:Knd K C):Looks M h (find (.ref a) (.ref C) "__class__") (.bind (.builtin "getset_descriptor.__get__") (.builtin "object.__class__")):=by
 have L1:=looks_findIn (M:=M) X k.ha
 have L2:Looks M h (getOf (some (.builtin "object.__class__"))) (some (.builtin "getset_descriptor.__get__")):=looks_specialIn X k.hn
 have L3:=looks_takesIn (M:=M) X k.htk
 refine L1.andThen (L2.andThen ?_)
 exact (show Looks M h (dataDescriptor? (some (.builtin "object.__class__")) (some (.builtin "getset_descriptor.__get__"))) (some (.builtin "getset_descriptor.__get__",.builtin "object.__class__")) from L3.andThen .now).andThen (Looks.tag .now)
theorem get {tp:Value}{R:Result->Shared->Prop}(X:K.In s.heap)(k:Knd K C)(p:∃ o,s.heap.get? a=some o∧o.cls = .ref C)(h:R (.ok (.ret (.ref C))) s) :
  codeAny (model prog w) A (.call (.builtin "getset_descriptor.__get__") ⟨[.builtin "object.__class__",.ref a,tp],[]⟩) R s:=by
 obtain ⟨hh,g,dr,t,os⟩:=s
 have L0:=ty (M:=model prog w) p
 have L1:=looks_mroIn (M:=model prog w) X k.hm
 refine codeAny_call_builtin KF.slot_gs.plain KF.entry_gs (KF.slot_gs.check _ _ _ _ _ _ _ _ KF.type_class (KF.args_gs _ _ _) ?_)
 unfold Builtin.«getset_descriptor.__get__» descrGet
 rw [dga_obj]
 refine wpAny_bind (wpAny_pure ?_)
 unfold descrGetter descrCheckInstance descrNameAndClass isInstance
 simp only [KF.owner_class]
 repeat lk
 refine ⟨Code.quiet_builtin _ (by decide +kernel),codeAny_builtin KF.entry_class ?_⟩
 unfold Builtin.«object.__class__» shownTypeOf
 repeat lk
 exact h
theorem Qb {Q:Option Value->Shared->Prop}(X:K.In s.heap)(k:Knd K C)(p:∃ o,s.heap.get? a=some o∧o.cls = .ref C)(h:Q (some (.ref C)) { s with toks:=s.toks+1 }) :
  wpAny (model prog w) A (getAttr? (.ref a) "__class__") Q E s:=by
 obtain ⟨hh,g,d,t,os⟩:=s
 have L0:=ty (M:=model prog w) p
 have L1:=looks_findIn (M:=model prog w) X k.ga
 have L2:=looks_findIn (M:=model prog w) X k.hk
 have L3:=Nm (M:=model prog w) (a:=a) X k
 have L4:=looks_mroIn (M:=model prog w) X k.hb
 unfold getAttr? getAttrBy? getAttrBy
 refine wpAny_bind (wpAny_mkText (wpAny_bind (wpAny_attempt (wpAny_holding (wpAny_bind (L0.at (wpAny_bind (L1.at ?_))))))))
 dsimp only
 have hx:(Value.builtin "BaseException.__getattribute__" == Value.builtin "object.__getattribute__")=false:=by decide +kernel
 rw [if_neg (by rw [hx,Bool.and_false];exact Bool.false_ne_true)]
 unfold getAttrByItsOwn hookBefore
 refine wpAny_bind (L2.at (wpAny_bind (wpAny_attempt (wpAny_holding ?_))))
 unfold callGetattribute boundAndCalled
 rw [if_neg (show ¬ (false&&onTheHeap (Value.builtin "BaseException.__getattribute__"))=true by decide)]
 refine wpAny_bind (wpAny_of_eq (F.attr_ValueError.ga.bind (.ref a)) ?_)
 have hk0:builtinKind "BaseException.__getattribute__" = some .slot:=by decide +kernel
 have hs0:splitId "BaseException.__getattribute__" = some ("BaseException", "__getattribute__"):=by decide +kernel
 have ha0:=F.args_bexc_ga (.ref a) (.str "__class__" t)
 refine wpAny_call (codeAny_call_builtin F.attr_ValueError.ga.plain F.entry_bexc_ga ?_)
 simp only [checkBuiltinCall,hk0,hs0]
 unfold isInstance
 refine wpAny_bind (wpAny_bind (L0.at (L4.at ?_)))
 rw [if_neg (by decide)]
 refine wpAny_of_eq ha0 ?_
 show wpAny _ A.in1 («object.__getattribute__» ⟨[.ref a,.str "__class__" t],[]⟩) _ _ _
 unfold «object.__getattribute__» slotArgs attrName
 iterate 8 lk
 refine wpAny_bind (wpAny_pure (wpAny_bind (L0.at (wpAny_bind (L3.at ?_)))))
 dsimp only
 unfold bindTo
 refine wpAny_bind (wpAny_holding (wpAny_call (get (a:=a) (C:=C) X k p (show wpAny _ _ (ret (Value.ref C)) _ _ _ from wpAny_pure (handed_on rfl (wpAny_pure h))))))
theorem kit (k:Knd K C):KitX K (.ref a) (.ref C) (fun h=>∃ o,h.get? a=some o∧o.cls = .ref C) where
 ty:=fun _ _ _ p=>ty p
 it:=fun _ _ X _=>by
  obtain ⟨cd,hc⟩:=Option.isSome_iff_exists.mp k.cl
  unfold clsIn at hc
  split at hc
  ·rename_i ho
   intro A' Q' E' s' kp q
   unfold isType loadHead
   exact wpAny_bind (wpAny_loadPart (kp _ _ (X _ _ ho)) (wpAny_pure q))
  ·cases hc
 ne:=fun h tp dd its n sl X htp=>by
  obtain ⟨cd,hc⟩:=Option.isSome_iff_exists.mp k.cl
  refine Bool.eq_false_iff.mpr fun q=>?_
  obtain rfl:C=tp:=Value.ref.inj (beq_iff_eq.mp q)
  unfold clsIn at hc
  split at hc
  ·rename_i ho
   have z:=(X _ _ ho).symm.trans htp
   cases z
  ·cases hc
 ca:=fun X p h=>Qb X k p h
end EX
section
variable {X:Cx}
def Oc:Value->Option V
 | .ref c=>some (.ref c)
 | .type n=>some (.ty n)
 | _=>none
theorem Dr {c:Value}{v:V}{u:Value}(h:Oc c=some v)(r:bH v u):u=c:=by
 cases c <;> first
  | (cases h;exact r)
  | cases h
theorem jF:eO X (.builtin "isinstance") (fun xs H Q=>∃ (a C:Addr) (c:Value) (v:V) (b:Bool),xs=[.ref a,v]∧Oc c=some v∧H a=some (kZ a (.ref C))∧Knd X.K C∧PySem.W.kitOne X.K (.ref C) c=some b∧Q (.bl b) H):=by
 intro pins s σ H xs us Q I r h
 obtain ⟨a,C,c,v,b,rfl,hv,ha,k,e,q⟩:=h
 obtain ⟨u,w',rfl,ru,rw'⟩:=Ob r
 cases ru
 obtain rfl:=Dr hv rw'
 obtain ⟨p,_⟩:=(show cY X.prog X.w H s.heap a (kZ a (.ref C)) from I.hok a _ ha)
 exact PySem.W.kia_one (EX.kit k) I.kIn p e (fun z=>nomatch z) fun tk=>⟨.bl b,H,I.tok tk,rfl,q⟩
end
end L2
namespace L2
open PySem PySem.Spec PyProof.Rows
section
variable {X:Cx}{es:List Expr}{te:TE}{t:TA}
theorem Ks {c:Const}{j:Nat}{p:Pos}(ha:PE X (.Constant c j p) te)(hr:PA X es t):PA X (.Constant c j p::es) (qF te t):=aA ha hr rfl
theorem vR {x:Str}{p:Pos}(ha:PE X (.Name x p) te)(hr:PA X es t):PA X (.Name x p::es) (qF te t):=aA ha hr rfl
theorem Om {a b:Expr}{o:Operator}{p:Pos}(ha:PE X (.BinOp a o b p) te)(hr:PA X es t):PA X (.BinOp a o b p::es) (qF te t):=aA ha hr rfl
theorem Pn {as:List Expr}{k}{p:Pos}(ha:PE X (.Tuple as k p) te)(hr:PA X es t):PA X (.Tuple as k p::es) (qF te t):=aA ha hr rfl
def Gn:List ((Int×Nat×Pos)×(Int×Nat×Pos)×Nat×Pos)->List Expr
 | []=>[]
 | ((i,j,p),(i',j',p'),k,q)::r=>.Tuple [.Constant (.int i) j p,.Constant (.int i') j' p'] k q::Gn r
def yM:List (Int×Int)->TA
 | []=>fun _ H Q=>Q [] H
 | (a,b)::r=>fun σ H Q=>∀ t,H t=none->yM r σ (upd H t (.tup [.int a,.int b])) fun vs H1=>Q (.ref t::vs) H1
theorem vP:∀ l:List ((Int×Nat×Pos)×(Int×Nat×Pos)×Nat×Pos),PA X (Gn l) (yM (l.map fun x=>(x.1.1,x.2.1.1)))
 | []=>aD
 | ((i,j,p),(i',j',p'),k,q)::r=>fun pos pins s σ H Q I h=>by
  have h0:PE X (.Tuple [.Constant (.int i) j p,.Constant (.int i') j' p'] k q) (Pr (qF (tC (.int i)) (qF (tC (.int i')) On))):=Fw (Ks aE (Ks aE aD))
  refine Pn (X:=X) h0 (vP r) pos pins s σ H Q I ⟨?_,fun t ht=>h t ht⟩
  have hs:sizeLine=16777216:=sizeLine_eq
  show 2<=sizeLine
  omega
theorem tF:∀ (l:List (Int×Int)) {σ:St} {H:Hp} {Q:List V->Hp->Prop},
  (∀ vs H1,vs.length=l.length->aM H H1->(∀ (j:Nat) (p:Int×Int),l[j]?=some p->∃ t,vs[j]?=some (.ref t)∧H1 t=some (.tup [.int p.1,.int p.2]))->Q vs H1)->yM l σ H Q
 | [],_,H,_,h=>h [] H rfl (aM.refl _) fun j p e=>by cases e
 | (a,b)::r,σ,H,Q,h=>fun t ht=>by
  refine tF r fun vs H1 hl hs hv=>h (.ref t::vs) H1 (by rw [List.length_cons,hl,List.length_cons]) (fun c o e=>hs c o (by rw [aH (aK e ht)];exact e)) fun j p e=>?_
  cases j with
  | zero =>
   have e':(a,b)=p:=by simpa using e
   subst e'
   exact ⟨t,rfl,hs t _ aC⟩
  | succ j =>
   obtain ⟨t',h1,h2⟩:=hv j p (by simpa using e)
   exact ⟨t',by simpa using h1,h2⟩
end
end L2
namespace L2
open PySem PySem.Spec PyProof.Rows
section
variable {X:Cx}{tg:Expr}
end
end L2
namespace L2
open PySem
section
variable {X:Cx}{N':List Str}{scope:Scope}{x:Str}{px:Pos}{elt iter cd:Expr}{pos:Pos}{te:TE}{tc:TT}{wi:TI}
theorem Dy (S:cI X.N N' X.env.scope scope x)(hc:X.calm=true)(hi:PI X (.Name x px) iter wi)(ht:∀ cl C s H fp,PT (bV X N' scope cl C s H fp) cd tc)(he:∀ cl C s H fp,PE (bV X N' scope cl C s H fp) elt te)
  (hs:∀ x,foldedSetIterable iter X.env x=pure x:=by intro _;rfl):PE X (.ListComp elt [⟨.Name x px,iter,[cd],0⟩] scope pos) (Ed wi tc te) :=
 xB (at':=fun σ Q=>gS tc te σ Q) S hc hi (fun cl C s H fp=>zG (ht cl C s H fp)) he (fun _ _ _ _ h=>h) hs
theorem nK {i:Nat}{y:Str}{py spos:Pos}(S:cI X.N N' X.env.scope scope x)(hc:X.calm=true)(hi:PI X (.Name x px) iter wi)(ht:∀ cl C s H fp,PT (bV X N' scope cl C s H fp) cd tc)(he:∀ cl C s H fp,PE (bV X N' scope cl C s H fp) elt te)
  (hN:X.N.Nodup) (hy:X.N[i]?=some y) (hyl:X.env.scope.names.lookup y=some .local)
  (hsw:swapsWith (.ListComp elt [⟨.Name x px,iter,[cd],0⟩] scope pos) (some (.Name y py)) spos.line X.env=pure true:=by rfl)
  (hs:∀ x,foldedSetIterable iter X.env x=pure x:=by intro _;rfl):PS X (.Assign [.Name y py] (.ListComp elt [⟨.Name x px,iter,[cd],0⟩] scope pos) spos) (En (Ed wi tc te) (sB i)) :=
 nO (at':=fun σ Q=>gS tc te σ Q) S hc hi (fun cl C s H fp=>zG (ht cl C s H fp)) he (fun _ _ _ _ h=>h) hN hy hyl hsw hs
end
section
variable {X:Cx}
end
theorem nS {α:Type}(p:α->Bool)(l:List α)(i:Nat)(v:α)(h:l[i]?=some v):(l.take (i+1)).filter p=(l.take i).filter p++(if p v then [v] else []):=by
 rw [List.take_add_one,h,List.filter_append]
 cases hp:p v <;> simp [hp]
theorem oC {α:Type}(p:α->Bool)(l:List α)(i:Nat):((l.take i).filter p).length<=i:=by
 have h1:=List.length_filter_le p (l.take i)
 rw [List.length_take] at h1
 omega
theorem iG (w:List Nat)(k:Nat):fE w none (some (k:Int))=w.take k:=by
 unfold fE
 rw [HT.dB,HT.eC,List.drop_zero,Nat.sub_zero]
 by_cases h:k<=w.length
 ·rw [Nat.min_eq_left h]
 ·rw [Nat.min_eq_right (by omega),List.take_length,List.take_of_length_le (by omega)]
end L2
set_option autoImplicit false
namespace SR
open PySem PyProof.Rows
set_option genInjectivity false in
structure SB (kd:SortKind)(z:Array Keyed)(st:SortSt):Prop where
 prm:(arrOf st).Perm z
 knd:kindOf st=kd
 ffl:failedOf st=none
section
variable {prog:Program}{w:World}{A:Around}{E:Value->Shared->Prop}{s:Shared}{z:Array Keyed}{κ:KeyKind}{kd:SortKind}
end
end SR
set_option autoImplicit false
namespace SR
open PySem PyProof.Rows
def Rk:Bool->Keyed->Array Keyed->Nat->Nat->Nat->StateT SortSt Sem (Option Nat):=sortPriv% PySem.Builtin.gallop
def bq (left:Bool)(key:Keyed)(arr:Array Keyed)(base:Nat)(i:Nat):StateT SortSt Sem (Option Bool):=do
 let x <- elem' arr (base+i)
 if left then lt' x key else return (<- lt' key x).map (!·)
section
variable {prog:Program}{w:World}{A:Around}{E:Value->Shared->Prop}{s:Shared}{z:Array Keyed}{κ:KeyKind}{kd:SortKind}
end
end SR
set_option autoImplicit false
namespace SR
open PySem PyProof.Rows
def kf (κ:KeyKind)(p:Keyed):κ.α:=(κ.keyOf p.1).getD κ.dflt
def Hk (κ:KeyKind)(x:Keyed):Prop:=∃ c,κ.keyOf x.1=some c
section
variable {prog:Program}{w:World}{A:Around}{E:Value->Shared->Prop}{s:Shared}{z:Array Keyed}{κ:KeyKind}{kd:SortKind}
end
end SR
set_option autoImplicit false
namespace SR
open PySem PyProof.Rows
section
variable {prog:Program}{w:World}{A:Around}{E:Value->Shared->Prop}{s:Shared}{κ:KeyKind}{kd:SortKind}
end
end SR
set_option autoImplicit false
namespace SR
open PySem PyProof.Rows
def rt (a:Array Keyed)(n:Nat):List Keyed:=(a.toList.take n).reverse
section
variable {prog:Program}{w:World}{A:Around}{E:Value->Shared->Prop}{s:Shared}{κ:KeyKind}{kd:SortKind}
abbrev Ph:=Option (Array Keyed)×Nat×Nat×Array Keyed×Nat×Nat×Nat
def hi3 (a b o:Array Keyed)(i j g p q:Nat):StateT SortSt Sem (ForInStep Ph):=do
 let x <- elem' a (i-1)
 if (i-1==0)=true then pure (ForInStep.done (some (a.extract 0 (i-1)++b.extract 0 j++(o.push x).reverse),i-1,j,o.push x,g,p,q))
 else if (decide (p<7)&&decide (q<7))=true then pure (ForInStep.done (none,i-1,j,o.push x,g,p,q)) else pure (ForInStep.yield (none,i-1,j,o.push x,g,p,q))
def hi2 (a b o:Array Keyed)(i j g p q:Nat):StateT SortSt Sem (ForInStep Ph):=do
 let x <- elem' b j
 if (j==1)=true then pure (ForInStep.done (some (b.extract 0 j++a.extract 0 i++(o.push x).reverse),i,j,o.push x,g,p,q))
 else do
  let u <- elem' a (i-1)
  let z <- Rk true u b 0 j (j-1)
  match z with
  | some y =>
   if j-y>0 then
    if (y==1)=true then pure (ForInStep.done (some (b.extract 0 y++a.extract 0 i++(o.push x++(b.extract y j).reverse).reverse),i,y,o.push x++(b.extract y j).reverse,g,p,j-y))
    else if (y==0)=true then pure (ForInStep.done (some (a.extract 0 i++b.extract 0 y++(o.push x++(b.extract y j).reverse).reverse),i,y,o.push x++(b.extract y j).reverse,g,p,j-y))
    else hi3 a b (o.push x++(b.extract y j).reverse) i y g p (j-y)
   else hi3 a b (o.push x) i j g p (j-y)
  | _=>pure (ForInStep.done (some (a.extract 0 i++b.extract 0 j++(o.push x).reverse),i,j,o.push x,g,p,q))
end
end SR
set_option autoImplicit false
namespace SR
open PySem PyProof.Rows
def sg (xs:Array Keyed)(l n:Nat):List Keyed:=(xs.toList.drop l).take n
section
variable {κ:KeyKind}{kd:SortKind}
end
end SR
set_option autoImplicit false
namespace SR
open PySem PyProof.Rows
section
variable {prog:Program}{w:World}{A:Around}{E:Value->Shared->Prop}{s:Shared}{z:Array Keyed}{κ:KeyKind}{kd:SortKind}
end
end SR
set_option autoImplicit false
namespace SR
open PySem PyProof.Rows
section
variable {κ:KeyKind}{kd:SortKind}
end
section
variable {prog:Program}{w:World}{A:Around}{E:Value->Shared->Prop}{s:Shared}{z:Array Keyed}{κ:KeyKind}{kd:SortKind}
end
end SR
set_option autoImplicit false
namespace SR
open PySem PyProof.Rows PySem.Spec
section
variable {prog:Program}{w:World}{A:Around}{E:Value->Shared->Prop}{s:Shared}
end
end SR
namespace L2
open PySem PyProof.Rows PySem.Spec
section
variable {X:Cx}
end
end L2
namespace L2
open PySem PyProof.Rows PySem.Spec
section
variable {X:Cx}
theorem nP {x:V}:∀ {xs:List V} {us:List Value},bR xs us->xs.all eS=true->us.countP (eqU x)=xs.countP (fun y=>eqV y x)
 | _,_,.nil,_=>rfl
 | y::xs,u::us,.cons r t,f=>by
  rw [List.all_cons,Bool.and_eq_true] at f
  rw [List.countP_cons,List.countP_cons,nP t f.2,tM r f.1]
theorem Bm:MtR X "list.count" (fun x xs H Q=>∃ (p:Addr) (ys:List V) (a:V),x = .ref p∧xs=[a]∧SqL X.K H p ys∧ys.all eS=true∧eS a=true∧Q (.int ((ys.countP (fun y=>eqV y a):Nat):Int)) H):=by
 intro pins s σ H x xs v us Q I rx rs h
 obtain ⟨p,ys,a,rfl,rfl,hq,hf,ha,q⟩:=h
 cases rx
 obtain ⟨u,rfl,ru⟩:=fW rs
 obtain ⟨its,r,⟨⟨cls,dd,data,sl⟩,n,ho,hc,hdd,hd⟩,hz⟩:=I.list hq
 simp only at hc hd
 subst hc hd
 refine call_meets PySem.F.slot_list_count ⟨_,ho,rfl⟩ PySem.F.entry_list_count (PySem.F.args_list_count_2 _ _) (SeqAt.list_countAt p its.toArray n dd sl u (eqU a))
  ⟨ho,fun y hy=>gB ru ha r hf y (by simpa using hy),⟨.int ((ys.countP (fun y=>eqV y a):Nat):Int),H,I.tok _,⟨s.toks,by rw [<- nP r hf]⟩,q⟩⟩
theorem Bz:MtR X "list.index" (fun x xs H Q=>∃ (p:Addr) (ys:List V) (a y:V) (j:Nat),x = .ref p∧xs=[a]∧SqL X.K H p ys∧ys.all eS=true∧eS a=true∧ys[j]?=some y∧eqV y a=true∧(∀ i z,i<j->ys[i]?=some z->eqV z a=false)∧Q (.int (j:Nat)) H):=by
 intro pins s σ H x xs v us Q I rx rs h
 obtain ⟨p,ys,a,y,j,rfl,rfl,hq,hf,ha,hj,hy,hno,q⟩:=h
 cases rx
 obtain ⟨u,rfl,ru⟩:=fW rs
 obtain ⟨its,r,⟨⟨cls,dd,data,sl⟩,n,ho,hc,hdd,hd⟩,hz⟩:=I.list hq
 simp only at hc hd
 subst hc hd
 have hlen:=r.length
 have hjl:j<ys.length:=(List.getElem?_eq_some_iff.mp hj).1
 have hs:sizeLine=16777216:=sizeLine_eq
 have hfa:∀ z∈ys,eS z=true:=List.all_eq_true.mp hf
 have eu:∀ (i:Nat) (z:V) (w:Value),ys[i]?=some z->its[i]?=some w->eqU a w=eqV z a:=fun i z w h1 h2=>by
  obtain ⟨w',g1,g2⟩:=r.get h1
  rw [h2] at g1
  cases g1
  exact tM g2 (hfa z (List.mem_of_getElem? h1))
 refine call_meets PySem.F.slot_list_index ⟨_,ho,rfl⟩ PySem.F.entry_list_index (PySem.F.args_list_index_2 _ _) (SeqAt.list_indexAt p its.toArray n dd sl u (eqU a) j (by rw [List.size_toArray];omega) (by omega) ?_ ?_)
  ⟨ho,fun y hy=>gB ru ha r hf y (by simpa using hy),⟨.int (j:Nat),H,I.tok _,⟨_,rfl⟩,q⟩⟩
 ·have hu:its[j]?=some its.toArray[j]:=by simp
  rw [eu j y _ hj hu]
  exact hy
 ·intro m hm hmj
  rw [List.size_toArray] at hm
  have hu:its[m]?=some its.toArray[m]:=by simp
  have hl:ys[m]?=some ys[m]:=List.getElem?_eq_getElem (by omega)
  rw [eu m _ _ hl hu]
  exact hno m _ hmj hl
theorem Cu (hc:X.calm=true):eO X (.builtin "sum") (fun xs H Q=>∃ (p:Addr) (ns:List Int),xs=[.ref p]∧SqL X.K H p (ns.map V.int)∧Q (.int ns.sum) H):=by
 intro pins s σ H xs us Q I r h
 obtain ⟨p,ns,rfl,hq,q⟩:=h
 obtain ⟨u,rfl,ru⟩:=fW r
 cases ru
 obtain ⟨its,rv,pl,_⟩:=I.list hq
 have hia:=yF rv
 have hnum:=hia.numsOf
 obtain ⟨ys,hx⟩:=hia.allInts.items
 have hl:=pl.isList
 rw [hx] at hl
 have e:preSum (numAt ys) ys.size=ns.sum:=by
  rw [preSum_eq,List.take_of_length_le (by simp)]
  rw [<- hnum,show its=its.toArray.toList from by simp,hx,nums_intItems]
 exact sum_intListG (I.ok.hd hc) hl fun h' tk t' hk=>⟨.int ns.sum,H,I.kept hk,⟨t',by rw [e]⟩,q⟩
end
end L2
namespace L2
open PySem PyProof.Rows PySem.Spec
section
variable {X:Cx}
theorem mM (K:PySem.W.Frag)(hK:X.K=K):MtR X "list.count" (fun x xs H Q=>∃ (p:Addr) (ys:List V) (a:V),x = .ref p∧xs=[a]∧SqL K H p ys∧ys.all eS=true∧eS a=true∧Q (.int ((ys.countP (fun y=>eqV y a):Nat):Int)) H):=by
 subst hK
 exact Bm
theorem Dm (K:PySem.W.Frag)(hK:X.K=K):MtR X "list.index" (fun x xs H Q=>∃ (p:Addr) (ys:List V) (a y:V) (j:Nat),x = .ref p∧xs=[a]∧SqL K H p ys∧ys.all eS=true∧eS a=true∧ys[j]?=some y∧eqV y a=true∧(∀ i z,i<j->ys[i]?=some z->eqV z a=false)∧Q (.int (j:Nat)) H):=by
 subst hK
 exact Bz
theorem uT (K:PySem.W.Frag)(hK:X.K=K){o e:Expr}{es:List Expr}{to:TE}{t:TA}{name:Str}{apos cpos:Pos}{T id:String}{r:V->List V->Hp->VK->Prop}
  (pa:PlainAttrs T) (slot:Slot T name id) (hty:typeOf (.builtin id)=pure (.type "method_descriptor")) (hm:MtR X id r) (ho:PE X o to) (ha:PA X (e::es) t)
  (b1:attributeBase o name X.env (eval o X.env)=eval o X.env:=by rfl)
  (b2:((backTo cpos (starEach (e::es) X.env)).all (fun x=>!x.1)&&(backToKw cpos (keywordEach [] X.env)).all (fun x=>x.1.isSome)&&decide ((e::es).length+([]:List Keyword).length+(if ([]:List Keyword).isEmpty then 0 else 1)<30))=true:=by rfl)
  (b3:(apos.endLine==cpos.line)=true:=by rfl) (b4:starEach (e::es) X.env=(false,eval e X.env)::starEach es X.env:=by rfl) (b5:(backTo cpos (starEach es X.env)).any (·.1)=false:=by rfl) :
  PE X (.Call (.Attribute o name apos) (e::es) [] cpos) (tBM K T r to t):=by
 subst hK
 exact kB pa slot hty hm ho ha b1 b2 b3 b4 b5
end
end L2
namespace L2
open PySem PySem.Spec PyProof.Rows
end L2
namespace L2
open PySem PySem.Spec PyProof.Rows
section
variable (P:Program)(w:World)
end
section
variable {P:Program}{w:World}{H H':Hp}{h h':Heap}{a:Addr}{o:HO}
end
section
variable {P:Program}{w:World}{H:Hp}{h h':Heap}{x e:Addr}{o':HO}
end
section
variable {fs fs' ex ex':List Addr}{H H1 H2:Hp}{h h1 h2 h':Heap}{a x e:Addr}{o:HO}
end
end L2
namespace L2
open PySem PySem.Spec PyProof.Rows
section
variable {X:Cx}{pins:List (Addr×Obj)}{σ:List (Option V)}{H H':Hp}{s:Shared}{h':Heap}
end
end L2
namespace L2
open PySem PySem.Spec PyProof.Rows
section
variable {X:Cx}
variable {a b:Expr}{ta tb:TE}{pos:Pos}
variable {tA tB':TT}{rest:List Expr}
end
end L2
namespace L2
open PySem PySem.Spec PyProof.Rows
section
variable {X:Cx}{pins:List (Addr×Obj)}{σ:St}{H:Hp}{s:Shared}{a:Addr}{xs ys:List V}
end
section
variable {X:Cx}{pins:List (Addr×Obj)}{σ:St}{H:Hp}{s:Shared}{E:Value->Shared->Prop}
end
section
variable {X:Cx}{st:Stmt}{rest:List Stmt}{t u:TS}{e:Expr}{te:TE}{pos:Pos}
end
section
variable {X:Cx}{pos:Pos}
end
section
variable {X:Cx}{pos:Pos}
end
end L2
namespace L2
open PySem PySem.Spec PyProof.Rows
section
variable {X:Cx}{tg:Expr}
end
end L2
namespace L2
open PySem PySem.Spec PyProof.Rows
section
variable {X:Cx}{a b c:Expr}{ta tb tc:TE}{pos:Pos}
end
section
variable {X:Cx}{a b c:Expr}{ta tb tc:TE}{pos:Pos}
end
end L2
namespace L2
open PySem PySem.Spec PyProof.Rows
section
variable {prog:Program}{w:World}{A:Around}{E:Value->Shared->Prop}{s:Shared}{K:PySem.W.Frag}{x dx C f:Addr}{mA:Str->Option Value}{name:Str}{v:Value}
end
section
variable {P:Program}{w:World}{H H':Hp}{h h':Heap}{a C dx:Addr}{fs fs':List (Str×V)}
end
section
variable {X:Cx}{pins:List (Addr×Obj)}{σ:St}{H:Hp}{s:Shared}{a C dx:Addr}{fs:List (Str×V)}{f:Str}{v:V}{A:Around}{E:Value->Shared->Prop}
end
section
variable {X:Cx}{o e value:Expr}{f:Str}{pos pos' tpos:Pos}{ta tv:TE}
end
section
variable {X:Cx}{pins:List (Addr×Obj)}{σ:St}{H:Hp}{s:Shared}{A:Around}{E:Value->Shared->Prop}{Q:Value->Shared->Prop}{c:Value}{b:Bool}
end
end L2
namespace L2
open PySem PySem.Spec PyProof.Rows
section
variable {X:Cx}{e:Expr}{es:List Expr}{te:TE}{t:TA}{pos:Pos}
end
section
variable {X:Cx}{pins:List (Addr×Obj)}{σ:St}{H:Hp}{s s':Shared}
end
section
variable {X:Cx}{CX:CXT}{k:Nat}{f C:Addr}{fd:FuncData}{ps:List Str}{sp:Sp}{dvs:List V}{ds:List Value}{E:XK}{x m:Str}{p pos apos:Pos}{e o:Expr}{es:List Expr}{ta:TE}{t:TA}
end
section
variable {X:Cx}{CX:CXT}{k:Nat}{f C:Addr}{fd:FuncData}{ps ks:List Str}{sp:Sp}{E:XK}{x m:Str}{p pos apos kpos:Pos}{e o:Expr}{es:List Expr}{kws:List Keyword}{te ta:TE}{t tk:TA}{nm:Option Str}
variable {g:List Value->List Value->List Value}{gV:List V->List V->List V}
end
end L2
namespace L2
open PySem PySem.Spec PyProof.Rows
section
variable {X:Cx}{x:Str}{p pos:Pos}{e:Expr}{es:List Expr}{t:TA}{id T:String}{r:List V->Hp->VK->Prop}
end
end L2
namespace L2
open PySem PySem.Spec PyProof.Rows
section
variable {κ:Type}[DecidableEq κ]
def fF (kvs:List (κ×V))(k:κ):Option V:=(kvs.find? fun kv=>decide (kv.1=k)).map (·.2)
def cN (kvs:List (κ×V))(k:κ)(v:V):List (κ×V) :=
 if (kvs.any fun kv=>decide (kv.1=k))=true then kvs.map (fun kv=>if kv.1=k then (kv.1,v) else kv) else kvs++[(k,v)]
theorem gG {p:κ×V}{r:List (κ×V)}{k:κ}(e:p.1=k):fF (p::r) k=some p.2:=by simp [fF,List.find?_cons,e]
theorem fO {p:κ×V}{r:List (κ×V)}{k:κ}(e:¬ p.1=k):fF (p::r) k=fF r k:=by simp [fF,List.find?_cons,e]
theorem xI (k:κ):∀ kvs:List (κ×V),(kvs.any fun kv=>decide (kv.1=k))=(fF kvs k).isSome
 | []=>rfl
 | p::r=>by
  rw [List.any_cons]
  by_cases e:p.1=k
  ·simp only [gG e,decide_eq_true e,Bool.true_or,Option.isSome_some]
  ·rw [fO e,decide_eq_false e,Bool.false_or];exact xI k r
theorem gO (kvs:List (κ×V))(k:κ)(v:V):(cN kvs k v).length<=kvs.length+1:=by
 unfold cN
 split
 ·rw [List.length_map];omega
 ·rw [List.length_append,List.length_cons,List.length_nil];omega
theorem hG.isSome_eq {o:Option V}{u:Option Value}(r:hG o u):o.isSome=u.isSome:=by
 cases o with
 | none=>cases u with
  | none=>rfl
  | some _=>exact (show False from r).elim
 | some _=>cases u with
  | none=>exact (show False from r).elim
  | some _=>rfl
theorem hG.getD {o:Option V}{u:Option Value}{d:V}{d':Value}(r:hG o u)(rd:bH d d'):bH (o.getD d) (u.getD d'):=by
 cases o with
 | none=>cases u with
  | none=>exact rd
  | some _=>exact (show False from r).elim
 | some _=>cases u with
  | none=>exact (show False from r).elim
  | some _=>exact r
theorem KV.val {kvs:List (κ×V)}{vs:List (κ×Value)}(r:KV kvs vs)(k:κ):hG (fF kvs k) (valueAt vs k):=by
 unfold KV at r
 induction r with
 | nil=>exact True.intro
 | @cons p q ps qs h t ih =>
  obtain ⟨h1,h2⟩:=h
  by_cases e:p.1=k
  ·have e':q.1=k:=h1.symm.trans e
   have b:valueAt (q::qs) k=some q.2:=by simp [valueAt,List.find?_cons,e']
   rw [gG e,b];exact h2
  ·have e':¬ q.1=k:=fun z=>e (h1.trans z)
   have b:valueAt (q::qs) k=valueAt qs k:=by simp [valueAt,List.find?_cons,e']
   rw [fO e,b];exact ih
theorem KV.any {kvs:List (κ×V)}{vs:List (κ×Value)}(r:KV kvs vs)(k:κ):(kvs.any fun kv=>decide (kv.1=k))=vs.any fun kv=>decide (kv.1=k):=by
 unfold KV at r
 induction r with
 | nil=>rfl
 | cons h t ih=>rw [List.any_cons,List.any_cons,ih,h.1]
theorem KV.repl {kvs:List (κ×V)}{vs:List (κ×Value)}(r:KV kvs vs)(k:κ){y:V}{u:Value}(ry:bH y u) :
  KV (kvs.map fun kv=>if kv.1=k then (kv.1,y) else kv) (vs.map fun kv=>if kv.1=k then (kv.1,u) else kv):=by
 unfold KV at r ⊢
 induction r with
 | nil=>exact .nil
 | @cons p q ps qs h t ih =>
  rw [List.map_cons,List.map_cons]
  refine .cons ?_ ih
  obtain ⟨h1,h2⟩:=h
  by_cases e:p.1=k
  ·rw [if_pos e,if_pos (h1.symm.trans e)];exact ⟨h1,ry⟩
  ·rw [if_neg e,if_neg (fun z=>e (h1.trans z))];exact ⟨h1,h2⟩
theorem KV.put {kvs:List (κ×V)}{vs:List (κ×Value)}(r:KV kvs vs)(k:κ){y:V}{u:Value}(ry:bH y u):KV (cN kvs k y) (stored vs k u):=by
 unfold cN stored
 rw [r.any k]
 by_cases e:(vs.any fun kv=>decide (kv.1=k))=true
 ·rw [if_pos e,if_pos e];exact r.repl k ry
 ·rw [if_neg e,if_neg e];exact Paired.snoc r ⟨rfl,ry⟩
theorem KV.length {kvs:List (κ×V)}{vs:List (κ×Value)}(r:KV kvs vs):kvs.length=vs.length:=Paired.length r
end
theorem qE {P:Program}{w:World}{k:Key}{u:Value}(r:bH (kV k) u):(bO P w).is k u=true:=by
 cases k with
 | inl i=>obtain ⟨t,e⟩:=(show ∃ t,u=Value.int i t from r);subst e;exact vY P w i t
 | inr x=>obtain ⟨t,e⟩:=(show ∃ t,u=Value.str x t from r);subst e;exact xE P w x t
theorem rX {P:Program}{w:World}:∀ {ks:List Key} {us:List Value},bR (ks.map kV) us->ItemsAre (bO P w) ks us
 | [],_,r=>by rw [List.map_nil] at r;cases r;exact .nil
 | k::ks,_,r=>by
  rw [List.map_cons] at r
  cases r with
  | cons h t=>exact .cons (qE h) (rX t)
abbrev KT (H:Hp):List (List Key×V)->List (List Key×Addr×Value)->Prop:=Paired fun p q=>p.1=q.1∧H q.2.1=some (.tup (p.1.map kV))∧bH p.2 q.2.2
theorem KT.val {H:Hp}{kvs:List (List Key×V)}{xs:List (List Key×Addr×Value)}(r:KT H kvs xs)(k:List Key):hG (fF kvs k) ((atKey xs k).map (·.2)):=by
 induction r with
 | nil=>exact True.intro
 | @cons p q ps qs h t ih =>
  obtain ⟨h1,_,h2⟩:=h
  by_cases e:p.1=k
  ·have e':q.1=k:=h1.symm.trans e
   have b:atKey (q::qs) k=some q.2:=by simp [atKey,List.find?_cons,e']
   rw [gG e,b];exact h2
  ·have e':¬ q.1=k:=fun z=>e (h1.trans z)
   have b:atKey (q::qs) k=atKey qs k:=by simp [atKey,List.find?_cons,e']
   rw [fO e,b];exact ih
theorem KT.repl {H:Hp}{kvs:List (List Key×V)}{xs:List (List Key×Addr×Value)}(r:KT H kvs xs)(k:List Key){y:V}{u:Value}(ry:bH y u) :
  KT H (kvs.map fun kv=>if kv.1=k then (kv.1,y) else kv) (xs.map (putAt k u)):=by
 induction r with
 | nil=>exact .nil
 | @cons p q ps qs h t ih =>
  rw [List.map_cons,List.map_cons]
  refine .cons ?_ ih
  obtain ⟨h1,h2,h3⟩:=h
  unfold putAt
  by_cases e:p.1=k
  ·rw [if_pos e,if_pos (h1.symm.trans e)];exact ⟨h1,h2,ry⟩
  ·rw [if_neg e,if_neg (fun z=>e (h1.trans z))];exact ⟨h1,h2,h3⟩
theorem KT.put {H:Hp}{kvs:List (List Key×V)}{xs:List (List Key×Addr×Value)}(r:KT H kvs xs)(k:List Key){b:Addr}{y:V}{u:Value}(hb:H b=some (.tup (k.map kV)))(ry:bH y u) :
  KT H (cN kvs k y) (storedH xs k b u):=by
 have e:(kvs.any fun kv=>decide (kv.1=k))=(atKey xs k).isSome:=by
  rw [xI,(r.val k).isSome_eq,Option.isSome_map]
 unfold cN storedH
 rw [e]
 by_cases q:(atKey xs k).isSome=true
 ·rw [if_pos q,if_pos q];exact r.repl k ry
 ·rw [if_neg q,if_neg q];exact Paired.snoc r ⟨rfl,hb,ry⟩
theorem KT.keeps {H H':Hp}{kvs:List (List Key×V)}{xs:List (List Key×Addr×Value)}(r:KT H kvs xs)(ht:∀ b ys,H b=some (.tup ys)->H' b=some (.tup ys)):KT H' kvs xs :=
 Paired.mapP r fun _ _ z=>⟨z.1,ht _ _ z.2.1,z.2.2⟩
section
variable {P:Program}{w:World}{H:Hp}{h:Heap}{a:Addr}
theorem Kt {u:HO}(ok:HOk P w H h)(e:Rd H a u):cY P w H h a u:=e.ok ok
theorem qI {kvs:List (Key×V)}(ok:HOk P w H h)(e:Rd H a (.dK kvs)):kvs.length<=sizeLine∧(a==sysModules)=false∧∃ vs,KV kvs vs∧h.DictOf (bO P w) a vs :=
 show cY P w H h a (.dK kvs) from Kt ok e
theorem vL {kvs:List (Key×V)}(ok:HOk P w H h)(e:H a=some (.dK kvs)):kvs.length<=sizeLine∧(a==sysModules)=false∧∃ vs,KV kvs vs∧h.DictOf (bO P w) a vs:=qI ok (.inl e)
theorem qG {ks:List Key}(ok:HOk P w H h)(e:H a=some (.tup (ks.map kV))):(tupleKind (bO P w)).is h ks a:=by
 obtain ⟨_,its,r,o,h1,h2,n,h3⟩:=(show cY P w H h a (.tup (ks.map kV)) from ok a _ e)
 exact ⟨o,its.toArray,n,h1,h2,h3,by simpa using rX r⟩
theorem sM {kvs:List (List Key×V)}(ok:HOk P w H h)(e:Rd H a (.dT kvs)):kvs.length<=sizeLine∧(a==sysModules)=false ∧
  ∃ xs,KT H kvs xs∧h.DictOfH (tupleKind (bO P w)) a xs:=by
 obtain ⟨z,y,xs,r,o,es,ep,h1,h2,h3,h4,h5⟩:=(show cY P w H h a (.dT kvs) from Kt ok e)
 refine ⟨z,y,xs,r,o,es,ep,h1,h2,h3,h4,fun x hx=>?_,h5⟩
 have all:∀ {l:List (List Key×V)} {m:List (List Key×Addr×Value)},KT H l m->∀ x∈m,(tupleKind (bO P w)).is h x.1 x.2.1:=by
  intro l m q
  induction q with
  | nil=>intro x hx;exact nomatch hx
  | @cons p q ps qs hq t ih =>
   intro x hx
   rcases List.mem_cons.mp hx with e | hx
   ·subst e
    exact qG ok (by rw [<- hq.1];exact hq.2.1)
   ·exact ih x hx
 exact all r x hx
theorem No {kvs:List (List Key×V)}(ok:HOk P w H h)(e:H a=some (.dT kvs)):kvs.length<=sizeLine∧(a==sysModules)=false ∧
 ∃ xs,KT H kvs xs∧h.DictOfH (tupleKind (bO P w)) a xs:=sM ok (.inl e)
end
def lQ (H:Hp)(a:Addr)(y:V)(r:Option V):Prop :=
 (∃ kvs k,Rd H a (.dK kvs)∧y=kV k∧r=fF kvs k)∨∃ kvs k b,Rd H a (.dT kvs)∧y = .ref b∧H b=some (.tup (k.map kV))∧r=fF kvs k
def tR (H:Hp)(a:Addr)(y v:V)(H':Hp):Prop :=
 (∃ kvs k,H a=some (.dK kvs)∧y=kV k∧kvs.length<sizeLine∧H'=upd H a (.dK (cN kvs k v))) ∨
 ∃ kvs k b,H a=some (.dT kvs)∧y = .ref b∧H b=some (.tup (k.map kV))∧kvs.length<sizeLine∧H'=upd H a (.dT (cN kvs k v))
theorem lQ.k {H:Hp}{a:Addr}{kvs:List (Key×V)}{k:Key}(e:H a=some (.dK kvs)):lQ H a (kV k) (fF kvs k):=.inl ⟨kvs,k,.inl e,rfl,rfl⟩
theorem tR.k {H:Hp}{a:Addr}{kvs:List (Key×V)}{k:Key}{v:V}(e:H a=some (.dK kvs))(hl:kvs.length<sizeLine):tR H a (kV k) v (upd H a (.dK (cN kvs k v))):=.inl ⟨kvs,k,e,rfl,hl,rfl⟩
section
variable {X:Cx}{pins:List (Addr×Obj)}{σ:St}{H:Hp}{s:Shared}{a:Addr}{y v:V}{u r:Value}{o:Option V}{A:Around}{E:Value->Shared->Prop}
theorem Inv.big (I:Inv X pins σ H s):sysModules<s.heap.objs.size:=by
 have h:mainGlobals<s.heap.objs.size:=(I.mod.glob.keeps I.bk).lt
 exact Nat.lt_trans (by decide) h
theorem Bq {Q:Value->Shared->Prop}(hu:A.units+1<cLine)(I:Inv X pins σ H s)(g:lQ H a y (some v))(ry:bH y u)(h:∀ w' s',Inv X pins σ H s'->bH v w'->Q w' s') :
  wpAny (model X.prog X.w) A (getItem (.ref a) u) Q E s:=by
 rcases g with ⟨kvs,k,e,ey,l⟩ | ⟨kvs,k,b,e,ey,eb,l⟩
 ·subst ey
  obtain ⟨z,hd,vs,rel,dd⟩:=qI I.hok e
  obtain ⟨w',hw,rw'⟩:=hG.some_of (v:=v) (o:=valueAt vs k) (by rw [l];exact rel.val k)
  exact wpAny_getItem_of (qE ry) dd.mapOf hw (h w' _ (I.tok _) rw')
 ·subst ey
  cases (show u=Value.ref b from ry)
  obtain ⟨z,hd,xs,rel,dd⟩:=sM I.hok e
  obtain ⟨w',hw,rw'⟩:=hG.some_of (v:=v) (o:=(atKey xs k).map (·.2)) (by rw [l];exact rel.val k)
  obtain ⟨p,hp,hp2⟩:=Option.map_eq_some_iff.mp hw
  refine wpAny_getItem_heap (tupleKind_room_in1 hu) (qG I.hok eb) dd hp ?_
  rw [hp2]
  exact h w' _ (I.tok _) rw'
theorem Jz {Q:Value->Shared->Prop}(hu:A.units+1<cLine)(I:Inv X pins σ H s)(g:lQ H a y o)(ry:bH y u)(h:∀ s',Inv X pins σ H s'->Q (.bool (!o.isSome)) s') :
  wpAny (model X.prog X.w) A (compareOp .NotIn u (.ref a)) Q E s:=by
 rcases g with ⟨kvs,k,e,ey,l⟩ | ⟨kvs,k,b,e,ey,eb,l⟩
 ·subst ey
  obtain ⟨z,hd,vs,rel,dd⟩:=qI I.hok e
  refine wpAny_notIn_of (qE ry) hd dd.mapOf ?_
  rw [<- (rel.val k).isSome_eq,<- l]
  exact h _ (I.tok _)
 ·subst ey
  cases (show u=Value.ref b from ry)
  obtain ⟨z,hd,xs,rel,dd⟩:=sM I.hok e
  refine wpAny_notIn_heap (tupleKind_room_in1 hu) (qG I.hok eb) hd dd ?_
  have q:=(rel.val k).isSome_eq
  rw [Option.isSome_map] at q
  rw [<- q,<- l]
  exact h _ (I.tok _)
theorem oQ {h':Heap}{t':Nat}{ob:HO}(I:Inv X pins σ H s)(mu:Mut (H a))(hs:Heap.SameBut a s.heap h')(he:∃ q,h'.get? a=some q)(new:cY X.prog X.w (upd H a ob) h' a ob) :
  Inv X pins σ (upd H a ob) { s with heap:=h',toks:=t' } :=
 I.write (x:=a) (e:=a) mu (.inl rfl) (fun b q hb z=>(hs.2 b hb).trans z) he new
theorem zA {P:Program}{w:World}{H':Hp}{h':Heap}{kvs:List (Key×V)}{vs:List (Key×Value)}(z:kvs.length<=sizeLine)(hd:(a==sysModules)=false)(rel:KV kvs vs)(dd:h'.DictOf (bO P w) a vs) :
 cY P w H' h' a (.dK kvs):=⟨z,hd,vs,rel,dd⟩
theorem Cf {H':Hp}{Q:Unit->Shared->Prop}(hu:A.units+1<cLine)(I:Inv X pins σ H s)(g:tR H a y v H')(ry:bH y u)(rv:bH v r)(h:∀ s',Inv X pins σ H' s'->Q () s') :
  wpAny (model X.prog X.w) A (setItem (.ref a) u r) Q E s:=by
 rcases g with ⟨kvs,k,e,ey,l,eH⟩ | ⟨kvs,k,b,e,ey,eb,l,eH⟩
 ·subst ey eH
  obtain ⟨z,hd,vs,rel,dd⟩:=vL I.hok e
  have hz:vs.length<=sizeLine:=by rw [<- rel.length];exact z
  have hl:(cN kvs k v).length<=sizeLine:=by have:=gO kvs k v;omega
  refine wpAny_setItem_pairs (hsz:=hz) (qE ry) dd fun h' dd' hs=>h _ ?_
  have he:∃ q,h'.get? a=some q:=let ⟨q,_,_,hq,_⟩:=dd';⟨q,hq⟩
  exact oQ I (by rw [e];exact True.intro) hs he (zA hl hd (rel.put k rv) dd')
 ·subst ey eH
  cases (show u=Value.ref b from ry)
  obtain ⟨z,hd,xs,rel,dd⟩:=No I.hok e
  have hz:xs.length<=sizeLine:=by rw [<- Paired.length rel];exact z
  have hl:(cN kvs k v).length<=sizeLine:=by have:=gO kvs k v;omega
  refine wpAny_setItem_heap (hsz:=hz) (tupleKind_room_in1 hu) (qG I.hok eb) dd fun h' dd' hs=>h _ ?_
  obtain ⟨q,es,ep,hq,h2,h3,h4,_,h5⟩:=dd'
  refine oQ I (by rw [e];exact True.intro) hs ⟨q,hq⟩ ⟨hl,hd,_,(rel.put k eb rv).keeps fun c ys ec=>?_,q,es,ep,hq,h2,h3,h4,h5⟩
  rw [aH (Py ec e (fun z=>nomatch z))]
  exact ec
end
section
variable {X:Cx}{pins:List (Addr×Obj)}{σ:St}{H:Hp}{s:Shared}{a:Addr}{kvs:List (Key×V)}{k:Key}{u:Value}{A:Around}{E:Value->Shared->Prop}
theorem Ou {Q:Value->Shared->Prop}(I:Inv X pins σ H s)(e:Rd H a (.dK kvs))(h:∀ t s',Inv X pins σ H s'->Q (.int kvs.length t) s'):wpAny (model X.prog X.w) A (call (.builtin "len") [.ref a]) Q E s:=by
 obtain ⟨z,hd,vs,rel,dd⟩:=qI I.hok e
 refine call_len_dict hd dd (by rw [<- rel.length];rw [sizeLine_eq] at z;omega) ?_
 rw [<- rel.length]
 exact h _ _ (I.tok _)
end
def Oe (i:Expr):Prop:=∀ ov iv,subscripted i false ov iv=operate [ov,iv] (getItem ov iv)
theorem Ij {prog:Program}{w:World}{A:Around}{E:Value->Shared->Prop}{s:Shared}{env:Env}{value slice:Expr}{pos:Pos}{T id:String}{Q:Value->Shared->Prop}
  (hl:typeLookup (.type T) "__getitem__" = pure (some (.builtin id))) (hs:Oe slice)
  (h:wpAny (model prog w) A (eval value env) (fun o s₁=>wpAny (model prog w) A (eval slice env) (fun i s₂=>s₂.TypeIs o T∧wpAny (model prog w) A (getItem o i) Q E s₂) E s₁) E s) :
  wpAny (model prog w) A (eval (.Subscript value slice pos) env) Q E s:=by
 refine Subscript_ (wpAny_mono h (fun o s₁ h₁=>wpAny_mono h₁ (fun i s₂ h₂=>?_) fun _ _ x=>x) fun _ _ x=>x)
 obtain ⟨hT,h₂⟩:=h₂
 unfold subscriptTail
 refine wpAny_bind ?_
 rw [getitemInPython_of_ne hT.not_modules]
 refine wpAny_bind (wpAny_specialOf hT hl ?_)
 have fin:wpAny (model prog w) A (subscripted slice false o i) (fun r s₃=>wpAny (model prog w) A (letTemporaryGo value o r >>= fun _=>pure r) Q E s₃) E s₂:=by
  rw [hs o i]
  exact wpAny_operating (wpAny_mono h₂ (fun r s₃ h₃=>wpAny_bind (wpAny_letTemporaryGo (wpAny_pure h₃))) fun _ _ x=>x)
 first
  | exact wpAny_pure (wpAny_bind fin)
  | exact wpAny_bind (wpAny_pure (wpAny_bind fin))
  | exact wpAny_bind fin
theorem vT {X:Cx}{pins:List (Addr×Obj)}{σ:St}{H:Hp}{s:Shared}{a:Addr}{y:V}{o:Option V}(I:Inv X pins σ H s)(g:lQ H a y o):s.TypeIs (.ref a) "dict" := by
 rcases g with ⟨kvs,k,e,_,_⟩ | ⟨kvs,k,b,e,_,_,_⟩
 ·obtain ⟨_,_,vs,_,dd⟩:=qI I.hok e
  exact dd.typeIs
 ·obtain ⟨_,_,xs,_,dd⟩:=sM I.hok e
  exact dd.typeIs
def Oo (td ty:TE):TE:=fun σ H Q=>td σ H fun x H1=>ty σ H1 fun y H2=>∃ a v,x = .ref a∧lQ H2 a y (some v)∧Q v H2
def Hz (ty td:TE):TE:=fun σ H Q=>ty σ H fun y H1=>td σ H1 fun x H2=>∃ a o,x = .ref a∧lQ H2 a y o∧Q (.bl (!o.isSome)) H2
def Nt (td ty tv:TE):TS:=fun D σ H=>tv σ H fun v H1=>td σ H1 fun x H2=>ty σ H2 fun y H3=>∃ a H4,x = .ref a∧tR H3 a y v H4∧D.nx σ H4
section
variable {X:Cx}{o i e value:Expr}{pos pos' tpos:Pos}{td ty tv:TE}
theorem Ak (hu:X.A.units+1<cLine)(ho:PE X o td)(hi:PE X i ty)(hs:Oe i):PE X (.Subscript o i pos) (Oo td ty):=by
 intro pins s σ H Q I h
 refine Ij PySem.F.slot_dict_getitem.lookup hs (thn (ho pins s σ H _ I h) fun u s1 ⟨x,H1,I1,rx,q1⟩=>thn (hi pins s1 σ H1 _ I1 q1) fun iv s2 ⟨y,H2,I2,ry,a,v,ex,g,q2⟩=>?_)
 subst ex
 obtain rfl:u=Value.ref a:=rx
 exact ⟨vT I2 g,Bq hu I2 g ry fun w' s3 I3 rw'=>⟨v,H2,I3,rw',q2⟩⟩
theorem Cm (hu:X.A.units+1<cLine)(hi:PE X i ty)(ho:PE X o td):PC X .NotIn i o (Hz ty td):=by
 intro pins s σ H Q I h
 refine thn (hi pins s σ H _ I h) fun iv s1 ⟨y,H1,I1,ry,q1⟩=>thn (ho pins s1 σ H1 _ I1 q1) fun u s2 ⟨x,H2,I2,rx,a,ov,ex,g,q2⟩=>?_
 subst ex
 obtain rfl:u=Value.ref a:=rx
 exact Jz hu I2 g ry fun s3 I3=>⟨.bl (!ov.isSome),H2,I3,rfl,q2⟩
theorem mI (hu:X.A.units+1<cLine)(ho:PE X o td)(hi:PE X i ty)(hv:PE X value tv)(hs:swapsWith value (some (.Subscript o i pos')) pos.line X.env=pure false) :
  PS X (.Assign [.Subscript o i pos'] value pos) (Nt td ty tv):=by
 intro pins s σ H D I h
 refine wpAny_Assign_Subscript (thn (hv pins s σ H _ I h) fun r s1 ⟨v,H1,I1,rv,q1⟩=>thn (ho pins s1 σ H1 _ I1 q1) fun u s2 ⟨x,H2,I2,rx,q2⟩=>thn (hi pins s2 σ H2 _ I2 q2) fun iv s3 ⟨y,H3,I3,ry,a,H4,ex,g,q3⟩=>?_) hs
 subst ex
 obtain rfl:u=Value.ref a:=rx
 exact Cf hu I3 g ry rv fun s4 I4=>⟨σ,H4,I4,q3⟩
end
theorem wP {P:Program}{w:World}{H:Hp}(h:Heap)(hb:sysModules<h.objs.size):cY P w H (h.push { cls:=.type "dict",data:=.dict #[] }) h.objs.size (.dK []) :=
 ⟨Nat.zero_le _,beq_eq_false_iff_ne.mpr (Ne.symm (Nat.ne_of_lt hb)),[],.nil,Heap.DictOf.new h⟩
def Kz:TE:=fun _ H Q=>∀ p,H p=none->Q (.ref p) (upd H p (.dK []))
section
variable {X:Cx}{pos:Pos}
theorem xH:PE X (.Dict [] [] pos) Kz:=fun pins s σ H Q I h =>
 wpAny_Dict_empty ⟨.ref s.heap.objs.size,_,I.laid (a:=s.heap.objs.size) (o:=.dK []) (t':=s.toks) (fun _ _ q=>Heap.get?_push_of_some _ q) (Nat.le_refl _) (wP s.heap I.big),rfl,h _ (I.hok.fresh (Nat.le_refl _))⟩
end
def vF:List (TE×TE)->St->Hp->(List (V×V)->Hp->Prop)->Prop
 | [],_,H,Q=>Q [] H
 | (tk,tv)::r,σ,H,Q=>tk σ H fun x H1=>tv σ H1 fun y H2=>vF r σ H2 fun ps H3=>Q ((x,y)::ps) H3
abbrev VV:List (V×V)->List (Value×Value)->Prop:=Paired fun p q=>bH p.1 q.1∧bH p.2 q.2
def PPs (X:Cx)(pos:Pos)(keys:List (Option Expr))(values:List Expr)(trs:List (TE×TE)):Prop :=
 ∀ (pins:List (Addr×Obj)) (s:Shared) (σ:St) (H:Hp) (Q:List (V×V)->Hp->Prop),Inv X pins σ H s->vF trs σ H Q ->
  wpAny (model X.prog X.w) X.A (evalPairs (pairTrees keys values X.env pos)) (fun vs s'=>∃ ps H',Inv X pins σ H' s'∧VV ps vs∧Q ps H') X.xe s
theorem Hx {X:Cx}{pos:Pos}:PPs X pos [] [] []:=fun pins s σ H Q I h=>pairTrees_nil_walk ⟨[],H,I,.nil,h⟩
theorem Ha {X:Cx}{pos:Pos}{k v:Expr}{ks:List (Option Expr)}{vs:List Expr}{tk tv:TE}{trs:List (TE×TE)}(hk:PE X k tk)(hv:PE X v tv)(hr:PPs X pos ks vs trs) :
  PPs X pos (some k::ks) (v::vs) ((tk,tv)::trs):=fun pins s σ H Q I h =>
 pairTrees_cons_walk (thn (hk pins s σ H _ I h) fun u s1 ⟨x,H1,I1,rx,q1⟩=>thn (hv pins s1 σ H1 _ I1 q1) fun w2 s2 ⟨y,H2,I2,ry,q2⟩ =>
  thn (hr pins s2 σ H2 _ I2 q2) fun ws s3 ⟨ps,H3,I3,rel,q3⟩=>⟨(x,y)::ps,H3,I3,.cons ⟨rx,ry⟩ rel,q3⟩)
def mV (kvs more:List (Key×V)):List (Key×V):=more.foldl (fun acc kv=>cN acc kv.1 kv.2) kvs
theorem KV.merge:∀ {more:List (Key×V)} {rs:List (Key×Value)} {kvs:List (Key×V)} {vs:List (Key×Value)},KV more rs->KV kvs vs->KV (mV kvs more) (merged vs rs):=by
 intro more rs kvs vs r
 unfold KV at r
 induction r generalizing kvs vs with
 | nil=>intro q;exact q
 | @cons p q ps qs h t ih =>
  intro r0
  have e:KV (cN kvs p.1 p.2) (stored vs q.1 q.2):=by
   have:=r0.put p.1 h.2
   rw [<- h.1];exact this
  exact ih e
theorem kX:∀ (more kvs:List (Key×V)),(mV kvs more).length<=kvs.length+more.length
 | [],kvs=>by show kvs.length<=kvs.length+0;omega
 | p::r,kvs=>by
  have h1:=kX r (cN kvs p.1 p.2)
  have h2:=gO kvs p.1 p.2
  show (mV (cN kvs p.1 p.2) r).length<=_
  rw [List.length_cons];omega
theorem qX {P:Program}{w:World}:∀ {kvs:List (Key×V)} {ws:List (Value×Value)},VV (kvs.map fun kv=>(kV kv.1,kv.2)) ws->∃ rs,Carries (bO P w) ws rs∧KV kvs rs
 | [],_,r=>by rw [List.map_nil] at r;cases r;exact ⟨[],True.intro,.nil⟩
 | p::kvs,_,r=>by
  rw [List.map_cons] at r
  cases r with
  | @cons a b as bs h t =>
   obtain ⟨rs,c,q⟩:=qX (P:=P) (w:=w) t
   obtain ⟨b1,b2⟩:=b
   exact ⟨(p.1,b2)::rs,⟨qE h.1,rfl,c⟩,.cons ⟨rfl,h.2⟩ q⟩
def Ps (trs:List (TE×TE)):TE:=fun σ H Q=>∀ p,H p=none->vF trs σ (upd H p (.dK [])) fun ps H2=>H2 p=some (.dK [])∧∃ kvs:List (Key×V),ps=kvs.map (fun kv=>(kV kv.1,kv.2))∧kvs.length<=15∧Q (.ref p) (upd H2 p (.dK (mV [] kvs)))
theorem Iu {X:Cx}{pos:Pos}{keys:List (Option Expr)}{values:List Expr}{trs:List (TE×TE)}(h:PPs X pos keys values trs)(hall:keys.all (·.isSome)=true)(hl:keys.length=values.length)(h0:keys≠[])
  (h15:keys.length<=15):PE X (.Dict keys values pos) (Ps trs):=by
 intro pins s σ H Q I q
 have hn:=I.hok.fresh (Nat.le_refl s.heap.objs.size)
 have I1:=I.laid (a:=s.heap.objs.size) (o:=.dK []) (h':=s.heap.push { cls:=.type "dict",data:=.dict #[] }) (t':=s.toks) (fun _ _ q=>Heap.get?_push_of_some _ q) (Nat.le_refl _) (wP s.heap I.big)
 refine wpAny_Dict_walk (knd:=bO X.prog X.w) hall hl h0 h15 (thn (h pins _ σ _ _ I1 (q _ hn)) fun ws s2 ⟨ps,H2,I2,rel,e,kvs,ep,lk,q2⟩=>?_)
 subst ep
 obtain ⟨rs,c,rk⟩:=qX (P:=X.prog) (w:=X.w) rel
 obtain ⟨z,hd,vs0,r0,dd⟩:=vL I2.hok e
 cases r0
 refine ⟨rs,c,dd,fun h' dd' hs=>⟨.ref s.heap.objs.size,_,?_,rfl,q2⟩⟩
 have hz:(mV [] kvs).length<=sizeLine:=by
  have h1:=kX kvs []
  rw [List.length_nil] at h1
  rw [sizeLine_eq];omega
 have he:∃ q,h'.get? s.heap.objs.size=some q:=let ⟨q,_,_,hq,_⟩:=dd';⟨q,hq⟩
 exact oQ I2 (by rw [e];exact True.intro) hs he (zA hz hd (rk.merge .nil) dd')
set_option genInjectivity false in
structure M1 (X:Cx)(o:Expr)(m:Str)(apos:Pos)(e:Expr)(cpos:Pos):Prop where
 base:attributeBase o m X.env (eval o X.env)=eval o X.env
 few:((backTo cpos (starEach [e] X.env)).all (fun x=>!x.1)&&(backToKw cpos (keywordEach [] X.env)).all (fun x=>x.1.isSome)
  && decide (([e]:List Expr).length+([]:List Keyword).length+(if ([]:List Keyword).isEmpty then 0 else 1)<30))=true
 line:(apos.endLine==cpos.line)=true
 trees:backTo cpos (starEach [e] X.env)=[(false,eval e X.env)]
set_option genInjectivity false in
structure M2 (X:Cx)(o:Expr)(m:Str)(apos:Pos)(e f:Expr)(cpos:Pos):Prop where
 base:attributeBase o m X.env (eval o X.env)=eval o X.env
 few:((backTo cpos (starEach [e,f] X.env)).all (fun x=>!x.1)&&(backToKw cpos (keywordEach [] X.env)).all (fun x=>x.1.isSome)
  && decide (([e,f]:List Expr).length+([]:List Keyword).length+(if ([]:List Keyword).isEmpty then 0 else 1)<30))=true
 line:(apos.endLine==cpos.line)=true
 trees:backTo cpos (starEach [e,f] X.env)=[(false,eval e X.env),(false,eval f X.env)]
def IsD (H:Hp)(a:Addr):Prop:=(∃ kvs,Rd H a (.dK kvs))∨∃ kvs,Rd H a (.dT kvs)
theorem Ms {X:Cx}{pins:List (Addr×Obj)}{σ:St}{H:Hp}{s:Shared}{a:Addr}(I:Inv X pins σ H s)(d:IsD H a) :
  s.TypeIs (.ref a) "dict" ∧ (∀ b,Value.ref a = .ref b->∃ ob,s.heap.get? b=some ob∧ob.dict=none)∧(a==sysModules)=false:=by
 rcases d with ⟨kvs,e⟩ | ⟨kvs,e⟩
 ·obtain ⟨_,hd,vs,_,dd⟩:=qI I.hok e
  refine ⟨dd.typeIs,fun b q=>?_,hd⟩
  cases q
  obtain ⟨ob,_,_,h1,h2,_⟩:=dd
  exact ⟨ob,h1,h2.2.1⟩
 ·obtain ⟨_,hd,xs,_,dd⟩:=sM I.hok e
  refine ⟨dd.typeIs,fun b q=>?_,hd⟩
  cases q
  obtain ⟨ob,_,_,h1,h2,_⟩:=dd
  exact ⟨ob,h1,h2.2.1⟩
section
variable {X:Cx}{pins:List (Addr×Obj)}{σ:St}{H:Hp}{s:Shared}{a:Addr}{y d:V}{u r:Value}{o:Option V}{A:Around}{E:Value->Shared->Prop}
theorem Ky {Q:Value->Shared->Prop}(hu:A.units+1<cLine)(I:Inv X pins σ H s)(g:lQ H a y o)(ry:bH y u)(rd:bH d r)(h:∀ w' s',Inv X pins σ H s'->bH (o.getD d) w'->Q w' s') :
  wpAny (model X.prog X.w) A (call (.builtin "dict.get") [.ref a,u,r]) Q E s:=by
 rcases g with ⟨kvs,k,e,ey,l⟩ | ⟨kvs,k,b,e,ey,eb,l⟩
 ·subst ey
  obtain ⟨z,hd,vs,rel,dd⟩:=qI I.hok e
  refine call_meetsIn PySem.F.slot_dict_get dd.typeIs PySem.F.entry_dict_get (PySem.F.args_dict_get_3 _ _ _) (meets_dict_get_default (bO X.prog X.w) a (qE ry) hd r) ⟨_,dd.mapOf,h _ _ (I.tok _) ?_⟩
  rw [l]
  exact (rel.val k).getD rd
 ·subst ey
  cases (show u=Value.ref b from ry)
  obtain ⟨z,hd,xs,rel,dd⟩:=sM I.hok e
  refine call_meetsIn PySem.F.slot_dict_get dd.typeIs PySem.F.entry_dict_get (PySem.F.args_dict_get_3 _ _ _) (meetsH_dict_get_default (tupleKind (bO X.prog X.w)) a b hd r) ⟨tupleKind_room_in1 hu,k,xs,qG I.hok eb,dd,h _ _ (I.tok _) ?_⟩
  rw [l]
  exact (rel.val k).getD rd
end
def Lw (td ty tx:TE):TE:=fun σ H Q=>td σ H fun x H1=>∃ a,x = .ref a∧IsD H1 a∧ty σ H1 fun y H2=>tx σ H2 fun z H3=>∃ o,lQ H3 a y o∧Q (o.getD z) H3
section
variable {X:Cx}{o e f:Expr}{apos cpos:Pos}{td ty tx:TE}
theorem Hs (hu:X.A.units+1<cLine)(ho:PE X o td)(he:PE X e ty)(hf:PE X f tx)(m:M2 X o "get" apos e f cpos):PE X (.Call (.Attribute o "get" apos) [e,f] [] cpos) (Lw td ty tx):=by
 intro pins s σ H Q I h
 refine wpAny_Call_method m.base m.few m.line PySem.F.plainAttrs_dict PySem.F.slot_dict_get PySem.F.type_dict_get (thn (ho pins s σ H _ I h) fun u s1 ⟨x,H1,I1,rx,a,ex,d,q1⟩=>?_)
 subst ex
 obtain rfl:u=Value.ref a:=rx
 obtain ⟨t1,t2,_⟩:=Ms I1 d
 refine ⟨t1,t2,?_⟩
 rw [m.trees]
 refine Calls.callWith_builtin rfl (Calls.evalArgs_plain (Calls.spliced_cons (thn (he pins s1 σ H1 _ I1 q1) fun iv s2 ⟨y,H2,I2,ry,q2⟩ =>
  Calls.spliced_cons (thn (hf pins s2 σ H2 _ I2 q2) fun fv s3 ⟨z,H3,I3,rz,ov,g,q3⟩=>Calls.spliced_nil ?_))))
 exact Ky hu I3 g ry rz fun w' s4 I4 rw'=>⟨_,H3,I4,rw',q3⟩
end
section
variable {X:Cx}{pins:List (Addr×Obj)}{σ:St}{H:Hp}{s:Shared}{a:Addr}{kvs:List (Key×V)}{A:Around}{E:Value->Shared->Prop}
end
section
variable {X:Cx}{pins:List (Addr×Obj)}{σ:St}{H:Hp}{s:Shared}{a:Addr}{y:V}{u:Value}{A:Around}{E:Value->Shared->Prop}
end
end L2
namespace Att
open PySem PySem.W PySem.Calls PyProof.Rows
section
variable {prog:Program}{w:World}{A:Around}{E:Value->Shared->Prop}{s:Shared}{K:Frag}
end
end Att
namespace L2
open PySem PySem.Spec PyProof.Rows
end L2
namespace L2
open PySem PySem.Spec PyProof.Rows
end L2
namespace L2
open PySem PySem.Spec PyProof.Rows
section
variable {P:Program}{w:World}{K:PySem.W.Frag}{mg:Str->Option Value}{base:Heap}
end
section
variable {X:Cx}
theorem kG:eO X (.builtin "len") (fun xs H Q=>∃ a kvs,xs=[V.ref a]∧H a=some (.dK kvs)∧Q (.int kvs.length) H):=by
 intro pins s σ H xs us Q I r h
 obtain ⟨a,kvs,rfl,ha,q⟩:=h
 obtain ⟨u,rfl,ru⟩:=fW r
 cases ru
 exact Ou I (.inl ha) fun t s' I'=>⟨.int kvs.length,H,I',⟨t,rfl⟩,q⟩
end
section
variable {κ:Type}[DecidableEq κ]
end
end L2
namespace L2
open PySem PySem.Spec PyProof.Rows
namespace RT
def obj (x:Str)(t:Tok)(i:Int):Obj:={ cls:=.type "reversed",data:=.fields #[.str x t,rawInt i] }
def Is (h:Heap)(a:Addr)(x:Str)(t:Tok)(i:Int):Prop:=∃ o,h.get? a=some o∧o.cls = .type "reversed" ∧ o.data = .fields #[.str x t,rawInt i]
section
variable {prog:Program}{w:World}{A:Around}{E:Value->Shared->Prop}{s:Shared}
end
section
variable {prog:Program}{w:World}{A:Around}{E:Value->Shared->Prop}{s:Shared}
end
end RT
section
variable {X:Cx}
end
end L2
namespace L2
open PySem PySem.Spec PyProof.Rows
section
variable {X:Cx}
end
end L2
namespace L2
open PySem PySem.Spec PyProof.Rows
set_option genInjectivity false in
structure Cam (P:Program)(w:World)(K:PySem.W.Frag)(mg:Str->Option Value)(base:Heap)(CX:CXT)(x:Str)(C:Addr)(k:Nat)(ps:List Str)(sp:Sp):Prop where
 ex:∃ (f:Addr) (fd:FuncData),cD P w K mg base CX k f fd ps sp∧Mk K C f∧mg x=some (.ref C)∧lD K fd ps []
section
variable {X:Cx}
theorem tW {CX:CXT}{x:Str}{C:Addr}{j k:Nat}{ps:List Str}{sp:Sp}{E:XK}{e:Expr}{es:List Expr}{t:TA}{p pos:Pos}(c:Cam X.prog X.w X.K X.mg X.base CX x C j ps sp)(hr:fI k X.A)(hx:jU CX X E)(ha:PA X (e::es) t)
  (hjk:j+1<=k:=by decide) (hg:Gl X x:=by rfl) (b1:(x==("__debug__" : Str))=false:=by decide) (b2:starEach (e::es) X.env=(false,eval e X.env)::starEach es X.env:=by rfl) (b3:(backTo pos (starEach es X.env)).any (·.1)=false:=by rfl) :
  PE X (.Call (.Name x p) (e::es) [] pos) (Kh C sp [] E t):=by
 obtain ⟨f,fd,F,M,hm,hb⟩:=c.ex
 exact Im M F (hr.mono hjk) hg hm hb .nil hx ha b1 b2 b3
end
end L2
namespace L2
open PySem PySem.Spec PyProof.Rows
section
variable {X:Cx}
end
namespace SE
section
variable {prog:Program}{w:World}{A:Around}{E:Value->Shared->Prop}{s:Shared}
end
end SE
section
variable {X:Cx}
end
end L2
namespace ST
open PySem PySem.SetTable
def it (M:Nat):Nat->Nat->Nat
 | 0,i=>i
 | s+1,i=>it M s ((i*5+1) % M)
theorem uD (M:Nat):∀ s t i,it M (s+t) i=it M t (it M s i)
 | 0,t,i=>by rw [Nat.zero_add];rfl
 | s+1,t,i=>by rw [Nat.add_right_comm];exact uD M s t _
def zX (M:Nat):Nat->Nat->List Nat
 | 0,_=>[]
 | s+1,i=>i::zX M s ((i*5+1) % M)
theorem xA {M:Nat}:∀ {n i j:Nat},j∈zX M n i->∃ s,s<n∧it M s i=j
 | n+1,i,j,h=>by
  rw [zX,List.mem_cons] at h
  rcases h with h | h
  ·exact ⟨0,by omega,h.symm⟩
  ·obtain ⟨s,h1,h2⟩:=xA h
   exact ⟨s+1,by omega,h2⟩
def full (M:Nat):Bool:=it M M 0==0&&(List.range M).all fun j=>(zX M M 0).contains j
theorem Bl {M:Nat}(h:full M=true){a j:Nat}(ha:a<M)(hj:j<M):∃ s,s<M∧it M s a=j:=by
 rw [full,Bool.and_eq_true,beq_iff_eq,List.all_eq_true] at h
 have hit:∀ x,x<M->∃ s,s<M∧it M s 0=x:=fun x hx=>xA (by have:=h.2 x (List.mem_range.mpr hx);simpa using this)
 obtain ⟨s0,h0,e0⟩:=hit a ha
 obtain ⟨s1,h1,e1⟩:=hit j hj
 rcases Nat.lt_or_ge s1 s0 with z | z
 ·refine ⟨M-s0+s1,by omega,?_⟩
  have w:it M (M-s0) a=0:=by rw [<- e0,<- uD,show s0+(M-s0)=M by omega,h.1]
  rw [uD,w,e1]
 ·refine ⟨s1-s0,by omega,?_⟩
  rw [<- e0,<- uD,show s0+(s1-s0)=s1 by omega,e1]
def rF (M:Nat):Prop:=M=8∨M=16∨M=32∨M=64∨M=128∨M=256∨M=512
theorem rF.full {M:Nat}(h:rF M):full M=true:=by
 rcases h with rfl | rfl | rfl | rfl | rfl | rfl | rfl <;> decide +kernel
theorem rF.pos {M:Nat}(h:rF M):8<=M:=by
 rcases h with rfl | rfl | rfl | rfl | rfl | rfl | rfl <;> decide
def lp (mask:Nat):Nat->Nat->Nat->Nat×Nat
 | 0,i,p=>(i,p)
 | s+1,i,p=>lp mask s (leap mask i p).1 (leap mask i p).2
theorem Hr (mask:Nat):∀ s t i p,lp mask (s+t) i p=lp mask t (lp mask s i p).1 (lp mask s i p).2
 | 0,t,i,p=>by rw [Nat.zero_add];rfl
 | s+1,t,i,p=>by rw [Nat.add_right_comm];exact Hr mask s t _ _
theorem Np (mask:Nat):∀ s i p,(lp mask s i p).2=p/32 ^ s
 | 0,i,p=>by rw [Nat.pow_zero,Nat.div_one];rfl
 | s+1,i,p=>by
  show (lp mask s _ (p/32)).2=_
  rw [Np mask s,Nat.div_div_eq_div_mul,Nat.pow_succ,Nat.mul_comm]
theorem Kb (mask:Nat):∀ s i,(lp mask s i 0).1=it (mask+1) s i
 | 0,i=>rfl
 | s+1,i=>by
  show (lp mask s ((i*5+1+0/32) % (mask+1)) (0/32)).1=_
  rw [Nat.zero_div,Nat.add_zero]
  exact Kb mask s _
theorem Ke (mask:Nat):∀ s i p,i<mask+1->(lp mask s i p).1<mask+1
 | 0,i,p,h=>h
 | s+1,i,p,h=>Ke mask s _ _ (Nat.mod_lt _ (Nat.succ_pos _))
theorem Bn (mask i:Nat):i<=runEnd mask i:=by
 unfold runEnd
 split <;> omega
theorem sR {mask:Nat}{owner:Array (Option Nat)}:∀ {fuel i p:Nat},layClean.free mask owner fuel i p=none->∀ s,s<fuel->(owner.getD (lp mask s i p).1 (some 0)).isNone=false
 | fuel+1,i,p,h,s,hs=>by
  rw [layClean.free] at h
  split at h
  ·cases h
  ·rename_i hf
   cases s with
   | zero =>
    have:=List.find?_eq_none.mp hf 0 (List.mem_range.mpr (by have:=Bn mask i;omega))
    rw [Nat.add_zero] at this
    exact Bool.eq_false_iff.mpr this
   | succ s=>exact sR h s (by omega)
theorem tJ {mask:Nat}{owner:Array (Option Nat)}:∀ {fuel i p j:Nat},layClean.free mask owner fuel i p=some j->(owner.getD j (some 0)).isNone=true
 | fuel+1,i,p,j,h=>by
  rw [layClean.free] at h
  split at h
  ·rename_i k hf
   cases h
   have:=List.find?_some hf
   exact this
  ·exact tJ h
theorem Ib {mask:Nat}{owner:Array (Option Nat)}{i p j:Nat}(hM:rF (mask+1))(hi:i<mask+1)(hp:p<2 ^ 64)(hj:j<mask+1)(he:(owner.getD j (some 0)).isNone=true) :
  ∃ k,layClean.free mask owner (turns mask) i p=some k∧(owner.getD k (some 0)).isNone=true:=by
 cases hf:layClean.free mask owner (turns mask) i p with
 | some k=>exact ⟨k,rfl,tJ hf⟩
 | none =>
  exfalso
  have h13:(lp mask 13 i p).2=0:=by
   rw [Np]
   exact Nat.div_eq_of_lt (Nat.lt_trans hp (by decide))
  obtain ⟨s,hs,e⟩:=Bl hM.full (Ke mask 13 i p hi) hj
  have z:=sR hf (13+s) (by unfold turns;omega)
  rw [Hr,h13,Kb,e,he] at z
  cases z
theorem pS {α β:Type}{f g:α->Option β}:∀ l:List α,(∀ i∈l,f i=g i)->l.filterMap f=l.filterMap g
 | [],_=>rfl
 | x::l,h=>by
  have ih:=pS l fun i hi=>h i (List.mem_cons_of_mem _ hi)
  rw [List.filterMap_cons,List.filterMap_cons,h x (List.mem_cons_self ..),ih]
def vals (N:Nat)(f:Nat->Option Nat):List Nat:=(List.range N).filterMap f
theorem Eu {f g:Nat->Option Nat}{j v:Nat}(hf:f j=none)(hg:g j=some v)(he:∀ i,i≠j->g i=f i):∀ l:List Nat,l.Nodup->j∈l->(l.filterMap g).Perm (v::l.filterMap f)
 | x::l,nd,hm=>by
  rw [List.nodup_cons] at nd
  by_cases e:x=j
  ·subst e
   rw [List.filterMap_cons_some hg,List.filterMap_cons_none hf]
   have:l.filterMap g=l.filterMap f:=pS l fun i hi=>he i fun z=>nd.1 (z▸hi)
   rw [this]
  ·have hm':j∈l:=by
    rcases List.mem_cons.mp hm with z | z
    ·exact absurd z.symm e
    ·exact z
   have ih:=Eu hf hg he l nd.2 hm'
   have hx:=he x e
   cases h:f x with
   | none=>rw [List.filterMap_cons_none (hx.trans h),List.filterMap_cons_none h];exact ih
   | some y =>
    rw [List.filterMap_cons_some (hx.trans h),List.filterMap_cons_some h]
    exact (ih.cons y).trans (List.Perm.swap ..)
theorem Bd {f:Nat->Option Nat}:∀ l:List Nat,(∀ i∈l,(f i).isNone=false)->(l.filterMap f).length=l.length
 | [],_=>rfl
 | x::l,h=>by
  have hx:=h x (List.mem_cons_self ..)
  cases e:f x with
  | none=>rw [e] at hx;cases hx
  | some y=>rw [List.filterMap_cons_some e,List.length_cons,List.length_cons,Bd l fun i hi=>h i (List.mem_cons_of_mem _ hi)]
def tZ (mask:Nat)(owner:Array (Option Nat))(k:Nat):Prop:=owner.size=mask+1∧(vals (mask+1) fun j=>owner.getD j none).Perm (List.range k)
theorem getD_some {owner:Array (Option Nat)}{j:Nat}(h:j<owner.size):owner.getD j (some 0)=owner.getD j none:=by
 simp [Array.getD,h]
theorem Ie {mask:Nat}(hM:rF (mask+1)){owner:Array (Option Nat)}{k:Nat}(g:tZ mask owner k)(hk:k<mask+1)(h:Int) :
  ∃ j,layClean.free mask owner (turns mask) (bits h % (mask+1)) (bits h)=some j∧tZ mask (owner.setIfInBounds j (some k)) (k+1):=by
 obtain ⟨hs,hp⟩:=g
 obtain ⟨j0,hj0,he0⟩:∃ j,j<mask+1∧(owner.getD j (some 0)).isNone=true:=by
  apply Classical.byContradiction
  intro hno
  have:=Bd (f:=fun j=>owner.getD j none) (List.range (mask+1)) fun i hi=>by
   have hi':=List.mem_range.mp hi
   have e:=getD_some (owner:=owner) (j:=i) (by omega)
   cases z:(owner.getD i none).isNone with
   | false=>rfl
   | true=>exact absurd ⟨i,hi',by rw [e];exact z⟩ hno
  rw [List.length_range] at this
  have h2:=hp.length_eq
  rw [List.length_range] at h2
  unfold vals at h2
  omega
 obtain ⟨j,e1,e2⟩:=Ib hM (i:=bits h % (mask+1)) (p:=bits h) (Nat.mod_lt _ (Nat.succ_pos _)) (by unfold bits;omega) hj0 he0
 have hj:j<owner.size:=by
  rcases Nat.lt_or_ge j owner.size with z | z
  ·exact z
  ·rw [Array.getD,dif_neg (by omega)] at e2
   cases e2
 refine ⟨j,e1,by rw [Array.size_setIfInBounds];exact hs,?_⟩
 have hf:(fun i=>owner.getD i none) j=none:=by
  show owner.getD j none=none
  rw [getD_some hj] at e2
  cases z:owner.getD j none with
  | none=>rfl
  | some y=>rw [z] at e2;cases e2
 have hg:(fun i=>(owner.setIfInBounds j (some k)).getD i none) j=some k:=by
  show (owner.setIfInBounds j (some k)).getD j none=some k
  simp [Array.getD,hj]
 have q:=Eu hf hg (fun i hi=>by
  show (owner.setIfInBounds j (some k)).getD i none=owner.getD i none
  rw [Array.getD_eq_getD_getElem?,Array.getD_eq_getD_getElem?,Array.getElem?_setIfInBounds_ne (Ne.symm hi)]) (List.range (mask+1)) List.nodup_range (List.mem_range.mpr (by omega))
 refine q.trans ?_
 rw [show List.range (k+1)=List.range k++[k] from List.range_succ]
 exact (hp.cons k).trans (List.perm_append_singleton ..).symm
theorem Fq {mask:Nat}(hM:rF (mask+1)):∀ (hs:List Int) (owner:Array (Option Nat)) (k:Nat),tZ mask owner k->k+hs.length<=mask+1 ->
  ∃ o',(hs.foldl (fun acc h=>do
   let (owner,k) <- acc
   let j <- layClean.free mask owner (turns mask) (bits h % (mask+1)) (bits h)
   pure (owner.setIfInBounds j (some k),k+1)) (some (owner,k)))=some (o',k+hs.length)∧tZ mask o' (k+hs.length)
 | [],owner,k,g,_=>⟨owner,rfl,g⟩
 | h::hs,owner,k,g,hk=>by
  rw [List.length_cons] at hk
  obtain ⟨j,e,g'⟩:=Ie hM g (by omega) h
  obtain ⟨o',e',g''⟩:=Fq hM hs _ _ g' (by omega)
  refine ⟨o',?_,by rw [List.length_cons,show k+(hs.length+1)=k+1+hs.length by omega];exact g''⟩
  rw [List.foldl_cons,List.length_cons,show k+(hs.length+1)=k+1+hs.length by omega,<- e']
  congr 1
  show (layClean.free mask owner (turns mask) (bits h % (mask+1)) (bits h)).bind _=_
  rw [e]
  rfl
theorem Gv (mask:Nat):tZ mask (Array.replicate (mask+1) none) 0:=by
 refine ⟨Array.size_replicate,?_⟩
 have:vals (mask+1) (fun j=>(Array.replicate (mask+1) (none:Option Nat)).getD j none)=[]:=by
  unfold vals
  refine List.filterMap_eq_nil_iff.mpr fun i _=>?_
  rw [Array.getD_eq_getD_getElem?,Array.getElem?_replicate]
  split <;> rfl
 rw [this]
 exact List.Perm.refl _
theorem Ay {mask finger moves:Nat}{led plain:Bool}{hashes:Array Int}(hM:rF (mask+1))(hn:hashes.size<=mask) :
  ∃ (t:SetTable) (order:Array Nat),laid mask finger moves led plain hashes=some (t,order)∧order.toList.Perm (List.range hashes.size)∧t.place.size=hashes.size∧t.mask=mask∧t.dummies = #[]∧t.led=led∧t.plain=plain:=by
 obtain ⟨o,e,g⟩:=Fq hM hashes.toList _ 0 (Gv mask) (by rw [Array.length_toList];omega)
 have hc:layClean mask hashes=some o:=by
  unfold layClean
  rw [<- Array.foldl_toList]
  refine (congrArg (Option.map (·.1)) e).trans ?_
  rfl
 have em:((List.range (mask+1)).filterMap fun j=>(o.getD j none).map (j,·)).map (·.2)=vals (mask+1) fun j=>o.getD j none:=by
  rw [List.map_filterMap]
  unfold vals
  refine pS _ fun i _=>?_
  cases o.getD i none <;> rfl
 have gp:(vals (mask+1) fun j=>o.getD j none).Perm (List.range hashes.size):=by
  have:=g.2
  rw [Nat.zero_add,Array.length_toList] at this
  exact this
 refine ⟨_,_,by unfold laid;rw [hc];rfl,by rw [em];exact gp,?_,rfl,rfl,rfl,rfl⟩
 show (((List.range (mask+1)).filterMap fun j=>(o.getD j none).map (j,·)).map (·.1)).toArray.size=_
 have hl:=congrArg List.length em
 rw [List.length_map] at hl
 rw [List.size_toArray,List.length_map,hl,gp.length_eq,List.length_range]
end ST
namespace SS
open PySem PyProof.Rows
def byT (w:World):Bool:=w.params.followText "set-order"
def lG:Value->Str
 | .str x _=>x
 | _=>Str.empty
def El (w:World)(e:Int×Value):Prop:=e.1=hashStr w (lG e.2)∧∃ t,e.2 = .str (lG e.2) t
def Els (w:World)(es:List (Int×Value))(ms:List Str):Prop:=(∀ e∈es,El w e)∧(es.map fun e=>lG e.2).Perm ms
theorem Els.perm {w:World}{es es':List (Int×Value)}{ms:List Str}(h:Els w es ms)(p:es'.Perm es):Els w es' ms:=⟨fun e he=>h.1 e (p.mem_iff.mp he),(p.map _).trans h.2⟩
theorem Els.of {w:World}{prog:Program}{es:List (Int×Value)}{ms:List Str}(h:Els w es ms):ElemsOf (PySem.strKind prog w) es:=fun e he=>by
 obtain ⟨h1,t,h2⟩:=h.1 e he
 refine ⟨⟨lG e.2,?_,h1⟩,?_⟩
 ·rw [h2]
  exact strKind_is prog w _ t
 ·rw [h2]
  rfl
theorem Els.len {w:World}{es:List (Int×Value)}{ms:List Str}(h:Els w es ms):es.length=ms.length:=by
 have:=h.2.length_eq
 rwa [List.length_map] at this
theorem Els.has {w:World}{prog:Program}{es:List (Int×Value)}{ms:List Str}(h:Els w es ms)(k:Str):k∈ms↔∃ e∈es,(PySem.strKind prog w).is k e.2=true:=by
 rw [<- h.2.mem_iff,List.mem_map]
 constructor
 ·rintro ⟨e,he,rfl⟩
  obtain ⟨_,t,h2⟩:=h.1 e he
  refine ⟨e,he,?_⟩
  conv=>lhs;arg 3;rw [h2]
  exact strKind_is prog w _ t
 ·rintro ⟨e,he,hk⟩
  obtain ⟨t,ht⟩:=Value.isStrOf_shape hk
  exact ⟨e,he,by rw [ht];rfl⟩
def Is (w:World)(h:Heap)(a:Addr)(ms:List Str):Prop :=
 ∃ o es ep t,h.get? a=some o∧o.ExactSet∧o.data = .set es ep t∧Els w es.toList ms∧ms.Nodup∧es.size<scanBound∧t.fits es.size=true∧(byT w=true∨t.led=true)∧(es.size=0∨t.plain=false)
theorem Is.at {w:World}{h h':Heap}{a:Addr}{ms:List Str}(x:Is w h a ms)(e:∀ o,h.get? a=some o->h'.get? a=some o):Is w h' a ms:=let ⟨o,es,ep,t,ho,r⟩:=x;⟨o,es,ep,t,e o ho,r⟩
theorem Is.there {w:World}{h:Heap}{a:Addr}{ms:List Str}(x:Is w h a ms):∃ o,h.get? a=some o:=let ⟨o,_,_,_,ho,_⟩:=x;⟨o,ho⟩
theorem yS (t:SetTable)(es:Array (Int×Value))(h:Int)(x:Value):(layNew t es h x).2.1.led=t.led:=by
 unfold layNew
 split
 ·rename_i slot wd _
  show ((t.put slot).1.orStandIn _).led=t.led
  unfold SetTable.orStandIn
  split <;> rfl
 ·rfl
theorem yB {mask finger moves:Nat}{led plain:Bool}{hs:Array Int}{t:SetTable}{o:Array Nat}(h:SetTable.laid mask finger moves led plain hs=some (t,o)):t.led=led∧t.plain=plain:=by
 unfold SetTable.laid at h
 cases hc:SetTable.layClean mask hs with
 | none=>rw [hc] at h;cases h
 | some ow =>
  rw [hc] at h
  have h':=Option.some.inj h
  rw [<- (Prod.mk.inj h').1]
  exact ⟨rfl,rfl⟩
theorem qZ (t:SetTable)(es:Array (Int×Value))(n:Nat)(hp:t.plain=false):(relayAll t es n).2.1.led=t.led∧(relayAll t es n).2.1.plain=false:=by
 unfold relayAll
 split
 ·rename_i t' order e
  obtain ⟨h1,h2⟩:=yB e
  dsimp only
  split
  ·exact ⟨h1,h2.trans hp⟩
  ·exact ⟨rfl,rfl⟩
 ·exact ⟨rfl,rfl⟩
section
variable {prog:Program}{w:World}{A:Around}{E:Value->Shared->Prop}{s:Shared}
theorem Is.store (prog:Program){a:Addr}{o:Obj}{es es':Array (Int×Value)}{ep:Nat}{t t':SetTable}{h:Heap}{ms:List Str}(ho:h.get? a=some o)(hex:o.ExactSet)(hd:o.data = .set es ep t)(hel:Els w es'.toList ms)(hnd:ms.Nodup)(hb:es'.size<scanBound)(hf:t'.fits es'.size=true)
  (hl:byT w=true∨t'.led=true) (hp:es'.size=0∨t'.plain=false):(h.update a (Obj.putSet es' t')).get? a=some { o with data:=.set es' (ep+1) t' }∧Is w (h.update a (Obj.putSet es' t')) a ms:=by
 have hg:=(SetOf_store (knd:=PySem.strKind prog w) (S':=fun k=>decide (k∈ms)) ho hex hd hel.of (fun k=>by rw [decide_eq_true_iff];exact hel.has k) hb hf).1
 exact ⟨hg,_,es',ep+1,t',hg,hex,rfl,hel,hnd,hb,hf,hl,hp⟩
theorem Ff {a : Addr} {ms : List Str} {k : Str} {tk : Tok} {Q : Bool → Shared → Prop} (hS : Is w s.heap a ms) (hroom : ms.length + 1 < scanBound)
    (h : ∀ h' ms', Heap.SameBut a s.heap h' → Is w h' a ms' → (∀ x, x ∈ ms' ↔ x ∈ ms ∨ x = k) → ms'.length ≤ ms.length + 1 → Q (!decide (k ∈ ms)) { s with heap := h' }) :
    wpAny (model prog w) A (setAddHashed a (.str k tk) (hashStr w k)) Q E s := by
  obtain ⟨o, es, ep, t, ho, hex, hd, hel, hnd, hb, hf, hl, hp⟩ := hS
  have hn : es.size = ms.length := by rw [← hel.len, Array.length_toList]
  have hkey : (PySem.strKind prog w).is k (.str k tk) = true := strKind_is prog w k tk
  unfold setAddHashed setAddHashedIn
  refine wpAny_holding (wpAny_bind (wpAny_setState_of ho hd hf ?_))
  dsimp only
  rw [byScan_of (knd := PySem.strKind prog w) (x := .str k tk) rfl hb hel.of]
  simp only [↓reduceIte]
  unfold setAddByScan
  refine wpAny_bind (wpAny_bind (wpAny_rule (wpAny_bind (wpAny_setScan_of (knd := PySem.strKind prog w) hkey ho hd hf hel.of ?_))))
  cases hr : List.findIdx? (fun e => (PySem.strKind prog w).is k e.2) es.toList with
  | some j =>
    dsimp only
    obtain ⟨hj, hpj, _⟩ := List.findIdx?_eq_some_iff_getElem.mp hr
    have hm : k ∈ ms := (hel.has (prog := prog) k).mpr ⟨es.toList[j], List.getElem_mem hj, hpj⟩
    refine wpAny_pure (wpAny_pure ?_)
    have z := h s.heap ms (Heap.SameBut.refl a s.heap) ⟨o, es, ep, t, ho, hex, hd, hel, hnd, hb, hf, hl, hp⟩ (fun x => ⟨.inl, fun q => q.elim id fun e => e ▸ hm⟩) (by omega)
    rw [decide_eq_true hm] at z
    exact z
  | none =>
    dsimp only
    have hm : ¬ k ∈ ms := fun z => by
      obtain ⟨e, he, q⟩ := (hel.has (prog := prog) k).mp z
      have := List.findIdx?_eq_none_iff.mp hr e he
      rw [q] at this
      cases this
    have gw : ∀ (b : Bool) {s₁ : Shared} {Q' : Unit → Shared → Prop}, Q' () s₁ → wpAny (model prog w) A (match b with | true => rule "set.scan.the-table-gave-way" | false => pure ()) Q' E s₁ := fun b s₁ Q' hq => by
      cases b
      · exact wpAny_pure hq
      · exact wpAny_rule hq
    have hperm := layNew_perm t es (hashStr w k) (.str k tk)
    have hfits := layNew_fits t es (hashStr w k) (.str k tk)
    have hled := yS t es (hashStr w k) (.str k tk)
    generalize hL : layNew t es (hashStr w k) (.str k tk) = L at hperm hfits hled ⊢
    obtain ⟨es1, t1, wasDummy, gave⟩ := L
    dsimp only at hperm hfits hled ⊢
    rw [Array.toList_push] at hperm
    have hel1 : Els w es1.toList (ms ++ [k]) := by
      refine Els.perm ⟨fun e he => ?_, ?_⟩ hperm
      · rcases List.mem_append.mp he with z | z
        · exact hel.1 e z
        · have e' : e = (hashStr w k, .str k tk) := by simpa using z
          rw [e']
          exact ⟨rfl, tk, rfl⟩
      · rw [List.map_append]
        exact hel.2.append_right _
    have hnd1 : (ms ++ [k]).Nodup := List.nodup_append.mpr ⟨hnd, by simp, fun x hx y hy e => hm (by have : y = k := (by simpa using hy); rw [← this, ← e]; exact hx)⟩
    have hsz1 : es1.size = ms.length + 1 := by rw [← Array.length_toList, hel1.len, List.length_append, List.length_singleton]
    have hb1 : es1.size < scanBound := by omega
    have fin : ∀ h', Heap.SameBut a s.heap h' → Is w h' a (ms ++ [k]) → Q true { s with heap := h' } := fun h' sb x => by
      have z := h h' (ms ++ [k]) sb x (fun y => by rw [List.mem_append, List.mem_singleton]) (by rw [List.length_append, List.length_singleton]; omega)
      rw [decide_eq_false hm] at z
      exact z
    have tail : ∀ t2 : SetTable, t2.fits es1.size = true → (byT w = true ∨ t2.led = true) → t2.plain = false → wpAny (model prog w) A (do
        storeSet a es1 t2
        if (!wasDummy && t2.tooFull) = true then do
            (match (relayAll t2 es1 (SetTable.grown es1.size)).2.2 with | true => rule "set.scan.the-table-gave-way" | false => pure ())
            storeSet a (relayAll t2 es1 (SetTable.grown es1.size)).1 (relayAll t2 es1 (SetTable.grown es1.size)).2.1
            pure (some true)
          else pure (some true)) (fun r s' => wpAny (model prog w) A (match r with | some added => pure added | none => setAddHashedIn a (.str k tk) (hashStr w k) 99999) Q E s') E s := fun t2 hf2 hl2 hp2 => by
      refine wpAny_bind (wpAny_storeSet_of ho hd ?_ (fits_of_scanBound hb1))
      obtain ⟨ho1, hS1⟩ := Is.store prog ho hex hd hel1 hnd1 hb1 hf2 hl2 (.inr hp2)
      have sb1 := Heap.SameBut.update s.heap a (Obj.putSet es1 t2)
      split
      · have q1 := relayAll_perm t2 es1 (SetTable.grown es1.size)
        have q2 := relayAll_fits t2 es1 (SetTable.grown es1.size)
        have q3 := qZ t2 es1 (SetTable.grown es1.size) hp2
        generalize relayAll t2 es1 (SetTable.grown es1.size) = Rl at q1 q2 q3 ⊢
        obtain ⟨es2, t3, g2⟩ := Rl
        dsimp only at q1 q2 q3 ⊢
        have hel2 := hel1.perm q1
        have hsz : es2.size = es1.size := by rw [← Array.length_toList, q1.length_eq, Array.length_toList]
        have hb2 : es2.size < scanBound := by omega
        refine wpAny_bind (gw _ (wpAny_bind (wpAny_storeSet_of ho1 rfl ?_ (fits_of_scanBound hb2))))
        obtain ⟨_, hS2⟩ := Is.store prog ho1 hex rfl hel2 hnd1 hb2 q2 (hl2.imp id fun z => q3.1.trans z) (.inr q3.2)
        exact wpAny_pure (wpAny_pure (fin _ (sb1.trans (Heap.SameBut.update _ a _)) hS2))
      · exact wpAny_pure (wpAny_pure (fin _ sb1 hS1))
    refine wpAny_bind (gw _ ?_)
    have hl1 : byT w = true ∨ t1.led = true := hl.imp id fun z => hled.trans z
    split
    · refine wpAny_bind (wpAny_pure ?_)
      simp only [Bool.false_eq_true, ↓reduceIte]
      exact tail { t1 with plain := false } (SetTable.fits_plain_off hfits) hl1 rfl
    · rename_i hpl
      refine wpAny_bind (wpAny_pure ?_)
      simp only [↓reduceIte]
      exact tail t1 hfits hl1 (Bool.eq_false_iff.mpr hpl)
end
end SS
namespace SS
open PySem PyProof.Rows
theorem pH:∀ n,n<=256->ST.rF (SetTable.sizeAbove n)∧n<SetTable.sizeAbove n:=by
 have key:∀ n,n<257->(SetTable.sizeAbove n=8∨SetTable.sizeAbove n=16∨SetTable.sizeAbove n=32∨SetTable.sizeAbove n=64∨SetTable.sizeAbove n=128∨SetTable.sizeAbove n=256∨SetTable.sizeAbove n=512)∧n<SetTable.sizeAbove n:=by decide +kernel
 exact fun n h=>key n (by omega)
theorem lX {es:Array (Int×Value)}{order:Array Nat}(h:order.toList.Perm (List.range es.size)):(order.filterMap (es[·]?)).toList.Perm es.toList:=by
 rw [Array.toList_filterMap]
 exact (h.filterMap _).trans (by rw [filterMap_getElem?_range])
theorem lO {α:Type}:∀ (l:List α) (i:Nat) (h:i<l.length),(l[i]::l.eraseIdx i).Perm l
 | x::l,0,_=>List.Perm.refl _
 | x::l,i+1,h=>by
  have h':i<l.length:=by simpa using h
  have ih:=lO l i h'
  exact (List.Perm.swap x (l[i]'h') (l.eraseIdx i)).trans (ih.cons x)
theorem sH {α:Type}(next:Nat->Nat)(xs:Array α):(pickOrder next xs).toList.Perm xs.toList:=by
 have key:∀ (fuel k:Nat) (left:List α) (out:Array α),left.length=fuel->(pickOrder.go next fuel k left out).toList.Perm (out.toList++left):=by
  intro fuel
  induction fuel with
  | zero =>
   intro k left out hl
   obtain rfl:=List.length_eq_zero_iff.mp hl
   rw [pickOrder.go,List.append_nil]
  | succ fuel ih =>
   intro k left out hl
   have hlt:next k % left.length<left.length:=Nat.mod_lt _ (by omega)
   rw [pickOrder.go,List.getElem?_eq_getElem hlt]
   dsimp only
   refine (ih _ _ _ (by rw [List.length_eraseIdx_of_lt hlt];omega)).trans ?_
   rw [Array.toList_push,List.append_assoc]
   refine List.Perm.append_left _ ?_
   exact lO left _ hlt
 have z:=key xs.size 0 xs.toList #[] (Array.length_toList)
 simpa [pickOrder] using z
section
variable {prog:Program}{w:World}{A:Around}{E:Value->Shared->Prop}{s:Shared}
theorem fG {Q:Bool->Shared->Prop}(h:Q (byT w) s):wpAny (model prog w) A setsByText Q E s:=by
 unfold setsByText
 exact wpAny_bind (wpAny_askSetting (wpAny_pure h))
theorem xK {a:Addr}{ms:List Str}{n:Nat}{Q:Unit->Shared->Prop}{o:Obj}{es:Array (Int×Value)}{ep:Nat}{t:SetTable}(ho:s.heap.get? a=some o)(hd:o.data = .set es ep t)(hf:t.fits es.size=true)(hn:n<=256)(hm:es.size<=n)
  (h:∀ (es':Array (Int×Value)) (t':SetTable),es'.toList.Perm es.toList->t'.place.size=es.size->t'.mask+1=SetTable.sizeAbove n->t'.dummies = #[]->t'.led=t.led->t'.plain=t.plain->Q () { s with heap:=s.heap.update a (Obj.putSet es' t') }) :
  wpAny (model prog w) A (setRelay a n) Q E s:=by
 obtain ⟨hM,hlt⟩:=pH n hn
 have h8:=hM.pos
 unfold setRelay
 refine wpAny_bind (wpAny_setState_of ho hd hf ?_)
 dsimp only
 have hs:sizeLine=16777216:=sizeLine_eq
 have hsl:¬ SetTable.sizeAbove n>sizeLine:=by
  rcases hM with e | e | e | e | e | e | e <;> omega
 rw [if_neg hsl]
 obtain ⟨t',order,e1,e2,e3,e4,e5,e6,e7⟩:=ST.Ay (mask:=SetTable.sizeAbove n-1) (finger:=t.finger) (moves:=t.movedTo (SetTable.sizeAbove n-1)) (led:=t.led) (plain:=t.plain) (hashes:=es.map (·.1)) (by rw [Nat.sub_add_cancel (by omega)];exact hM) (by rw [Array.size_map];omega)
 have e1':t.relaid (es.map (·.1)) n=some (t',order):=e1
 rw [e1']
 rw [Array.size_map] at e2 e3
 have hp:=lX e2
 have hsz:(order.filterMap (es[·]?)).size=es.size:=by rw [<- Array.length_toList,hp.length_eq,Array.length_toList]
 refine wpAny_bind (m:=(do
  if ((order.filterMap (es[·]?)).size != es.size)=true then unsupported "internal:set-table-lost-an-element"
  pure (order.filterMap (es[·]?),t'))) ?_
 rw [hsz,bne_self_eq_false,if_neg Bool.false_ne_true]
 refine wpAny_pure ?_
 exact wpAny_storeSet_of ho hd (h _ _ hp e3 (by rw [e4];omega) e5 e6 e7) (by rw [hsz];omega)
theorem Es {a b:Addr}{ms ms':List Str}{Q:Bool->Shared->Prop}(h1:Is w s.heap a ms)(h2:Is w s.heap b ms')(h:Q true s):wpAny (model prog w) A (setsQuiet [a,b]) Q E s:=by
 unfold setsQuiet
 refine wpAny_bind ?_
 refine wpAny_forIn_list _ (fun rest r s'=>r=(none,())∧s'=s∧∀ c∈rest,∃ ks,Is w s.heap c ks) _ ?_ ?_ _ _ ⟨rfl,rfl,fun c hc=>?_⟩
 ·rintro c rest r s' ⟨rfl,rfl,hall⟩
  obtain ⟨ks,hc⟩:=hall c (List.mem_cons_self ..)
  obtain ⟨o,es,ep,t,ho,hex,hd,hel,hnd,hb,hf,_⟩:=hc
  refine wpAny_bind (wpAny_setEntries_of ho hd hf (wpAny_bind ?_))
  rw [<- Array.forIn_toList]
  refine wpAny_forIn_list _ (fun rest r s2=>r=(none,())∧s2=s'∧∀ e∈rest,El w e) _ ?_ ?_ _ _ ⟨rfl,rfl,hel.1⟩
  ·rintro ⟨hh,x⟩ rest2 r s2 ⟨rfl,rfl,hall2⟩
   obtain ⟨_,tk,e⟩:=hall2 _ (List.mem_cons_self ..)
   dsimp only at e ⊢
   rw [e]
   exact wpAny_pure ⟨rfl,rfl,fun u hu=>hall2 u (List.mem_cons_of_mem _ hu)⟩
  ·rintro r s2 ⟨rfl,rfl,_⟩
   exact wpAny_pure ⟨rfl,rfl,fun u hu=>hall u (List.mem_cons_of_mem _ hu)⟩
 ·rintro r s' ⟨rfl,rfl,_⟩
  exact wpAny_pure h
 ·rcases List.mem_cons.mp hc with rfl | hc
  ·exact ⟨ms,h1⟩
  ·rcases List.mem_cons.mp hc with rfl | hc
   ·exact ⟨ms',h2⟩
   ·cases hc
theorem Ov {a b:Addr}{ms1 ms2:List Str}{Q:Array (Int×Value)->Shared->Prop}(h1:Is w s.heap a ms1)(hne:ms1≠[])(h2:Is w s.heap b ms2)(h:∀ es:Array (Int×Value),Els w es.toList ms2->Q es s) :
  wpAny (model prog w) A (setWalkUnseen b [a] (some a)) Q E s:=by
 obtain ⟨o,es,ep,t,ho,hex,hd,hel,hnd,hb,hf,hl,hp⟩:=id h2
 unfold setWalkUnseen
 refine wpAny_bind (wpAny_setState_of ho hd hf ?_)
 dsimp only
 refine wpAny_bind (fG ?_)
 have walk:∀ Q':Array (Int×Value)->Shared->Prop,(byT w=true∨es.size<=1)->(∀ es':Array (Int×Value),Els w es'.toList ms2->Q' es' s)->wpAny (model prog w) A (setWalk b) Q' E s:=fun Q' hc hQ=>by
  unfold setWalk
  refine wpAny_bind (wpAny_setState_of ho hd hf ?_)
  dsimp only
  refine wpAny_bind (fG ?_)
  by_cases hby:byT w=true
  ·rw [if_pos hby]
   refine wpAny_bind (wpAny_askSetting (wpAny_pure (hQ _ (hel.perm (sH _ _)))))
  ·rw [if_neg hby]
   have h1:es.size<=1:=hc.resolve_left hby
   have hdr:(!t.plain&&decide (es.size>1))=false:=by
    rw [decide_eq_false (by omega),Bool.and_false]
   have hml:(!t.led&&decide (es.size>1))=false:=by
    rw [decide_eq_false (by omega),Bool.and_false]
   show wpAny _ _ (if (!t.plain&&decide (es.size>1))=true then _ else _) _ _ s
   rw [hdr,if_neg Bool.false_ne_true]
   refine wpAny_bind (m:=if (!t.led&&decide (es.size>1))=true then unsupported "set:maker-not-led" else pure ()) ?_
   rw [hml,if_neg Bool.false_ne_true]
   exact wpAny_pure (wpAny_pure (hQ _ hel))
 by_cases hc:byT w=true∨es.size<=1
 ·have e:(byT w||(t.led&&t.plain)||decide (es.size<=1))=true:=by
   rcases hc with z | z
   ·rw [z];simp
   ·rw [decide_eq_true z];simp
  rw [e,if_pos rfl]
  exact walk _ hc h
 ·have hby:byT w=false:=Bool.eq_false_iff.mpr fun z=>hc (.inl z)
  have hs1:¬ es.size<=1:=fun z=>hc (.inr z)
  have hpl:t.plain=false:=hp.resolve_left (by omega)
  have hld:t.led=true:=hl.resolve_left (by rw [hby];exact Bool.false_ne_true)
  have e:(byT w||(t.led&&t.plain)||decide (es.size<=1))=false:=by
   rw [hby,hpl,decide_eq_false hs1];simp
  rw [e,if_neg Bool.false_ne_true]
  refine wpAny_bind (Es h2 h1 ?_)
  simp only [Bool.not_true,Bool.false_eq_true,↓reduceIte]
  refine wpAny_bind (wpAny_rule ?_)
  obtain ⟨o1,es1,ep1,t1,ho1,hex1,hd1,hel1,hnd1,hb1,hf1,hl1,hp1⟩:=id h1
  refine wpAny_bind (wpAny_setState_of ho1 hd1 hf1 ?_)
  dsimp only
  have hs0:es1.size≠0:=fun z=>hne (List.length_eq_zero_iff.mp (by rw [<- hel1.len,Array.length_toList];exact z))
  have hpl1:t1.plain=false:=hp1.resolve_left hs0
  have hc2:(t1.led && !t.led||t1.plain && !t.plain)=false:=by
   rw [hld,hpl1];simp
  rw [hc2,if_neg Bool.false_ne_true]
  exact wpAny_pure (h es hel)
theorem Jc {a:Addr}{ms:List Str}{m:Nat}{Q:Unit->Shared->Prop}(hS:Is w s.heap a ms)(hm:ms.length+m<=128)(h:∀ h',Heap.SameBut a s.heap h'->Is w h' a ms->Q () { s with heap:=h' }):wpAny (model prog w) A (setRoomFor a m) Q E s:=by
 obtain ⟨o,es,ep,t,ho,hex,hd,hel,hnd,hb,hf,hl,hp⟩:=id hS
 have hn:es.size=ms.length:=by rw [<- hel.len,Array.length_toList]
 have hpsz:t.place.size=es.size:=by
  simp only [SetTable.fits,Bool.and_eq_true,beq_iff_eq] at hf
  exact hf.1
 unfold setRoomFor
 refine wpAny_bind (wpAny_setState_of ho hd hf ?_)
 dsimp only
 unfold SetTable.roomFor
 by_cases hc:(t.fill+m)*5≥t.mask*3
 ·rw [if_pos hc]
  refine xK (ms:=ms) ho hd hf (by omega) (by omega) fun es' t' p1 p2 p3 p4 p5 p6=>?_
  have hsz:es'.size=es.size:=by rw [<- Array.length_toList,p1.length_eq,Array.length_toList]
  have h8:=(pH ((t.place.size+m)*2) (by omega)).2
  have hf':t'.fits es'.size=true:=by
   simp only [SetTable.fits,Bool.and_eq_true,beq_iff_eq,decide_eq_true_eq,SetTable.fill,p4]
   exact ⟨by omega,by show t'.place.size+0<=t'.mask;omega⟩
  exact h _ (Heap.SameBut.update _ a _) (Is.store prog ho hex hd (hel.perm p1) hnd (by omega) hf' (hl.imp id fun z=>p5.trans z) (hp.imp (fun z=>by omega) fun z=>p6.trans z)).2
 ·rw [if_neg hc]
  exact wpAny_pure (h s.heap (Heap.SameBut.refl a _) hS)
theorem Fj {a b:Addr}{ms1 ms2:List Str}{each:Sem Unit}{Q:Unit->Shared->Prop}(hab:a≠b)(h1:Is w s.heap a ms1)(h2:Is w s.heap b ms2)(hne:ms1≠[])(hsz:ms1.length+ms2.length<=128)
  (heach:∀ (s':Shared) (Q':Unit->Shared->Prop),(∀ o,s.heap.get? b=some o->s'.heap.get? b=some o)->Q' () s'->wpAny (model prog w) A each Q' E s')
  (h:∀ h' ms',Heap.SameBut a s.heap h'->Is w h' a ms'->(∀ x,x∈ms'↔x∈ms1∨x∈ms2)->ms'.length<=ms1.length+ms2.length->Q () { s with heap:=h' }):wpAny (model prog w) A (setMerge a b each) Q E s:=by
 obtain ⟨o,es,ep,t,ho,hex,hd,hel,hnd,hb,hf,hl,hp⟩:=id h2
 have hn:es.size=ms2.length:=by rw [<- hel.len,Array.length_toList]
 unfold setMerge
 rw [if_neg (show ¬ ((a==b)=true) by rw [beq_iff_eq];exact hab)]
 refine wpAny_bind (wpAny_setState_of ho hd hf ?_)
 dsimp only
 by_cases h0:es.isEmpty=true
 ·rw [if_pos h0]
  have e0:ms2=[]:=List.length_eq_zero_iff.mp (by rw [<- hn];simpa using h0)
  exact wpAny_pure (h s.heap ms1 (Heap.SameBut.refl a _) h1 (fun x=>by rw [e0];simp) (by omega))
 rw [if_neg h0]
 refine wpAny_bind (Jc h1 (by omega) fun h3 sb3 i3=>?_)
 have hb3:h3.get? b=some o:=(sb3.2 b (Ne.symm hab)).trans ho
 have h2':Is w h3 b ms2:=⟨o,es,ep,t,hb3,hex,hd,hel,hnd,hb,hf,hl,hp⟩
 obtain ⟨o3,es3,ep3,t3,ho3,hex3,hd3,hel3,hnd3,hb3',hf3,hl3,hp3⟩:=id i3
 refine wpAny_bind (wpAny_setState_of (s:={ s with heap:=h3 }) ho3 hd3 hf3 ?_)
 dsimp only
 have hroad:t3.road t = .oneByOne:=by
  unfold SetTable.road
  have hp:t3.place.size=es3.size:=by
   simp only [SetTable.fits,Bool.and_eq_true,beq_iff_eq] at hf3
   exact hf3.1
  have hpos:0<es3.size:=by
   rw [<- Array.length_toList,hel3.len]
   exact List.length_pos_iff.mpr hne
  rw [if_pos]
  rw [bne_iff_ne]
  unfold SetTable.fill
  omega
 rw [hroad]
 dsimp only
 refine wpAny_bind (Ov (s:={ s with heap:=h3 }) i3 hne h2' fun es4 hel4=>wpAny_bind ?_)
 rw [<- Array.forIn_toList]
 refine wpAny_forIn_list _ (fun rest _ s'=>∃ dn ms',es4.toList=dn++rest∧s' = { s with heap:=s'.heap }∧Heap.SameBut a s.heap s'.heap∧Is w s'.heap a ms'∧(∀ x,x∈ms'↔x∈ms1∨∃ e∈dn,x=lG e.2)∧ms'.length<=ms1.length+dn.length) _ ?_ ?_ _ _ ⟨[],ms1,rfl,rfl,sb3,i3,fun x=>by simp,by simp⟩
 ·rintro ⟨hh,x⟩ rest u s' ⟨dn,ms',e1,e2,sb,i4,hm,hle⟩
  obtain ⟨q1,tk,q2⟩:=hel4.1 (hh,x) (by rw [e1];simp)
  dsimp only at q1 q2 ⊢
  have hlen:dn.length+(rest.length+1)=ms2.length:=by
   have:=congrArg List.length e1
   rw [hel4.len,List.length_append,List.length_cons] at this
   omega
  rw [q2,q1]
  have sb128:scanBound=4096:=rfl
  refine wpAny_bind (wpAny_holding (Ff (s:=s') i4 (by omega) fun h5 ms5 sb5 i5 hm5 hl5=>?_))
  have hb5:h5.get? b=some o:=(sb5.2 b (Ne.symm hab)).trans ((sb.2 b (Ne.symm hab)).trans ho)
  refine wpAny_bind (heach _ _ (fun o' z=>?_) ?_)
  ·rw [ho] at z
   cases z
   exact hb5
  ·refine wpAny_bind (wpAny_setState_of (s:={ s' with heap:=h5 }) hb5 hd hf ?_)
   dsimp only
   rw [bne_self_eq_false,if_neg Bool.false_ne_true]
   refine wpAny_pure ⟨dn++[(hh,x)],ms5,by rw [e1,List.append_assoc];rfl,by rw [e2],sb.trans sb5,i5,fun y=>?_,by rw [List.length_append,List.length_singleton];omega⟩
   rw [hm5,hm]
   constructor
   ·rintro ((z | ⟨e,he,rfl⟩) | rfl)
    ·exact .inl z
    ·exact .inr ⟨e,List.mem_append_left _ he,rfl⟩
    ·exact .inr ⟨(hh,x),by simp,rfl⟩
   ·rintro (z | ⟨e,he,rfl⟩)
    ·exact .inl (.inl z)
    ·rcases List.mem_append.mp he with z | z
     ·exact .inl (.inr ⟨e,z,rfl⟩)
     ·have:e=(hh,x):=by simpa using z
      subst this
      exact .inr rfl
 ·rintro u s' ⟨dn,ms',e1,e2,sb,i4,hm,hle⟩
  rw [List.append_nil] at e1
  rw [e2]
  refine wpAny_pure (h _ ms' sb i4 (fun x=>?_) ?_)
  ·rw [hm,<- e1,<- hel4.2.mem_iff,List.mem_map]
   exact or_congr Iff.rfl ⟨fun ⟨e,he,z⟩=>⟨e,he,z.symm⟩,fun ⟨e,he,z⟩=>⟨e,he,z.symm⟩⟩
  ·have:=congrArg List.length e1
   rw [hel4.len] at this
   omega
end
end SS
namespace SS
open PySem PyProof.Rows
section
variable {prog:Program}{w:World}{A:Around}{E:Value->Shared->Prop}{s:Shared}
def cT (w:World):Obj:={ cls:=.type "set",dict:=none,data:=.set #[] 0 (.fresh 0 0 (!byT w)) }
theorem Lv {Q:Value->Shared->Prop}(h:Q (.ref s.heap.objs.size) { s with heap:=s.heap.push (cT w) }):wpAny (model prog w) A (newSet (.type "set")) Q E s:=by
 unfold newSet
 refine wpAny_bind (fG ?_)
 dsimp only
 simp only [newObj]
 exact wpAny_bind (wpAny_alloc (wpAny_pure h))
theorem Is.fresh (h:Heap):Is w (h.push (cT w)) h.objs.size []:=by
 refine ⟨cT w,#[],0,.fresh 0 0 (!byT w),Heap.get?_push_size _ rfl,⟨rfl,rfl,rfl⟩,rfl,⟨fun e he=>by simp at he,by simp⟩,List.nodup_nil,by decide,rfl,?_,.inl rfl⟩
 cases byT w
 ·exact .inr rfl
 ·exact .inl rfl
theorem Gb {a:Addr}{n:Nat}{Q:Unit->Shared->Prop}(ho1:s.heap.get? a=some (cT w))(hn:n<=128)
  (h:∀ (h3:Heap) (o3:Obj) (ep3:Nat) (t3:SetTable),Heap.SameBut a s.heap h3->h3.get? a=some o3->o3.ExactSet->o3.data = .set #[] ep3 t3->t3.place.size=0->t3.dummies = #[]->ST.rF (t3.mask+1)->n<=t3.mask->(byT w=true∨t3.led=true)->Q () { s with heap:=h3 }) :
  wpAny (model prog w) A (setRoomFor a n) Q E s:=by
 have hled:byT w=true∨(!byT w)=true:=by cases byT w <;> simp
 unfold setRoomFor
 refine wpAny_bind (wpAny_setState_of ho1 rfl rfl ?_)
 dsimp only
 unfold SetTable.roomFor
 by_cases hc:((SetTable.fresh 0 0 (!byT w)).fill+n)*5≥(SetTable.fresh 0 0 (!byT w)).mask*3
 ·rw [if_pos hc]
  refine xK (ms:=[]) ho1 rfl rfl (by show (0+n)*2<=256;omega) (Nat.zero_le _) fun es' t' p1 p2 p3 p4 p5 p6=>?_
  obtain rfl:es' = #[]:=by
   have:=p1.length_eq
   rw [Array.length_toList] at this
   exact Array.eq_empty_of_size_eq_zero this
  obtain ⟨hM,hlt⟩:=pH ((0+n)*2) (by omega)
  have p3':t'.mask+1=SetTable.sizeAbove ((0+n)*2):=p3
  have hg:(s.heap.update a (Obj.putSet #[] t')).get? a=some { cT w with data:=.set #[] (0+1) t' }:=by
   have:=Heap.get?_update_self (Obj.putSet #[] t') ho1 (by rw [putSet_of (o:=cT w) #[] t' rfl];rfl)
   rw [putSet_of (o:=cT w) #[] t' rfl] at this
   exact this
  exact h _ _ 1 t' (Heap.SameBut.update _ a _) hg ⟨rfl,rfl,rfl⟩ rfl p2 p4 (by rw [p3'];exact hM) (by omega) (hled.imp id fun z=>p5.trans z)
 ·rw [if_neg hc]
  have hc':¬ (0+n)*5≥7*3:=hc
  exact wpAny_pure (h s.heap (cT w) 0 _ (Heap.SameBut.refl a _) ho1 ⟨rfl,rfl,rfl⟩ rfl rfl rfl (.inl rfl) (by show n<=7;omega) hled)
theorem Do {a b:Addr}{ms:List Str}{Q:Unit->Shared->Prop}(hab:a≠b)(ho1:s.heap.get? a=some (cT w))(h2:Is w s.heap b ms)(hsz:ms.length<=128)
  (h:∀ h',Heap.SameBut a s.heap h'->Is w h' a ms->Q () { s with heap:=h' }):wpAny (model prog w) A (setMerge a b) Q E s:=by
 obtain ⟨o,es,ep,t,ho,hex,hd,hel,hnd,hb,hf,hl,hp⟩:=id h2
 have hn:es.size=ms.length:=by rw [<- hel.len,Array.length_toList]
 have hled:byT w=true∨(!byT w)=true:=by cases byT w <;> simp
 unfold setMerge
 rw [if_neg (show ¬ ((a==b)=true) by rw [beq_iff_eq];exact hab)]
 refine wpAny_bind (wpAny_setState_of ho hd hf ?_)
 dsimp only
 by_cases h0:es.isEmpty=true
 ·rw [if_pos h0]
  have e0:ms=[]:=List.length_eq_zero_iff.mp (by rw [<- hn];simpa using h0)
  subst e0
  exact wpAny_pure (h s.heap (Heap.SameBut.refl a _) ⟨cT w,#[],0,.fresh 0 0 (!byT w),ho1,⟨rfl,rfl,rfl⟩,rfl,⟨fun e he=>by simp at he,by simp⟩,List.nodup_nil,by decide,rfl,hled,.inl rfl⟩)
 rw [if_neg h0]
 have hpos:0<es.size:=by
  rcases Nat.eq_zero_or_pos es.size with z | z
  ·exact absurd (by simpa using z) h0
  ·exact z
 have hpl:t.plain=false:=hp.resolve_left (by omega)
 refine wpAny_bind (Gb ho1 (by omega) fun h3 o3 ep3 t3 sb3 ho3 hex3 hd3 hps hdu hM hle hld3=>?_)
 have hf3:t3.fits (#[]:Array (Int×Value)).size=true:=by
  simp only [SetTable.fits,Bool.and_eq_true,beq_iff_eq,decide_eq_true_eq,SetTable.fill,hdu]
  exact ⟨hps,by show t3.place.size+0<=t3.mask;omega⟩
 refine wpAny_bind (wpAny_setState_of (s:={ s with heap:=h3 }) ho3 hd3 hf3 ?_)
 dsimp only
 have hled3:byT w=true∨(t3.led&&t.led)=true:=by
  rcases hld3 with z | z
  ·exact .inl z
  ·rcases hl with y | y
   ·exact .inl y
   ·exact .inr (by rw [z,y];rfl)
 have hfill:(t3.fill != 0)=false:=by
  unfold SetTable.fill
  rw [hps,hdu]
  rfl
 unfold SetTable.road
 rw [hfill,if_neg Bool.false_ne_true]
 by_cases hm:(t3.mask==t.mask&&t.dummies.isEmpty)=true
 ·rw [if_pos hm]
  dsimp only
  refine wpAny_storeSet_of (s:={ s with heap:=h3 }) ho3 hd3 ?_ (fits_of_scanBound hb)
  exact h _ (sb3.trans (Heap.SameBut.update _ a _)) (Is.store prog (t':={ mask:=t.mask,place:=t.place,dummies:=t.dummies,finger:=t3.finger,led:=t3.led&&t.led,moves:=t3.moves,plain:=t3.plain&&t.plain }) ho3 hex3 hd3 hel hnd hb hf hled3 (.inr (by show (t3.plain&&t.plain)=false;rw [hpl,Bool.and_false]))).2
 ·rw [if_neg hm]
  dsimp only
  obtain ⟨t',order,e1,e2,e3,e4,e5,e6,e7⟩:=ST.Ay (finger:=t3.finger) (moves:=t3.moves) (led:=t3.led&&t.led) (plain:=t3.plain&&t.plain) (hashes:=es.map (·.1)) hM (by rw [Array.size_map];exact hle)
  rw [e1]
  rw [Array.size_map] at e2 e3
  have hpm:=lX e2
  have hsz':(order.filterMap (es[·]?)).size=es.size:=by rw [<- Array.length_toList,hpm.length_eq,Array.length_toList]
  refine wpAny_bind (m:=(do
   if ((order.filterMap (es[·]?)).size != es.size)=true then unsupported "internal:set-table-lost-an-element"
   pure (order.filterMap (es[·]?),t'))) ?_
  rw [hsz',bne_self_eq_false,if_neg Bool.false_ne_true]
  refine wpAny_pure ?_
  refine wpAny_storeSet_of (s:={ s with heap:=h3 }) ho3 hd3 ?_ (by rw [hsz'];exact fits_of_scanBound hb)
  have hf':t'.fits (order.filterMap (es[·]?)).size=true:=by
   simp only [SetTable.fits,Bool.and_eq_true,beq_iff_eq,decide_eq_true_eq,SetTable.fill,e5]
   exact ⟨by omega,by show t'.place.size+0<=t'.mask;omega⟩
  exact h _ (sb3.trans (Heap.SameBut.update _ a _)) (Is.store prog ho3 hex3 hd3 (hel.perm hpm) hnd (by rw [hsz'];exact hb) hf' (by rw [e6];exact hled3) (.inr (by rw [e7,hpl,Bool.and_false]))).2
theorem Is.ty {a:Addr}{ms:List Str}(x:Is w s.heap a ms):s.TypeIs (.ref a) "set" := by
 obtain ⟨o,_,_,_,ho,hex,_⟩:=x
 exact ⟨o,ho,hex.1⟩
theorem Ji {b:Addr}{ms:List Str}{Q:Value->Shared->Prop}(h2:Is w s.heap b ms)(hsz:ms.length<=128)
  (h:∀ h',(∀ x o,s.heap.get? x=some o->h'.get? x=some o)->Is w h' s.heap.objs.size ms->Q (.ref s.heap.objs.size) { s with heap:=h' }):wpAny (model prog w) A (Builtin.Frozenset.copyOf b) Q E s:=by
 unfold Builtin.Frozenset.copyOf Builtin.Frozenset.baseOf
 refine wpAny_bind (wpAny_bind (wpAny_isInstance h2.ty sub_set_self (wpAny_pure ?_)))
 rw [if_pos rfl]
 refine wpAny_bind (Lv ?_)
 refine wpAny_bind (m:=Builtin.Frozenset.addrOf (.ref s.heap.objs.size)) (wpAny_pure ?_)
 obtain ⟨o,ho⟩:=h2.there
 have hlt:=Heap.lt_size ho
 refine wpAny_bind (Do (s:={ s with heap:=s.heap.push (cT w) }) (Nat.ne_of_gt hlt) (Heap.get?_push_size _ rfl) (h2.at fun o e=>Heap.get?_push_of_some _ e) hsz fun h' sb i=>wpAny_pure ?_)
 exact h h' (fun x o e=>(sb.2 x (Nat.ne_of_lt (Heap.lt_size e))).trans (Heap.get?_push_of_some _ e)) i
theorem Ec:entryFor table "set.__or__" = some Builtin.«frozenset.__or__» :=
 entryFor_alias (id' := "frozenset.__or__") (by kernel_rfl) (by first | rfl | decide +kernel | (unfold String.splitOn;simp +decide [String.splitOnAux])) (by decide +kernel) (by kernel_rfl)
theorem Ot {a b:Addr}{ms1 ms2:List Str}{Q:Value->Shared->Prop}(hab:a≠b)(h1:Is w s.heap a ms1)(h2:Is w s.heap b ms2)(hne:ms1≠[])(hsz:ms1.length+ms2.length<=128)
  (h:∀ h' ms',(∀ x o,s.heap.get? x=some o->h'.get? x=some o)->Is w h' s.heap.objs.size ms'->(∀ x,x∈ms'↔x∈ms1∨x∈ms2)->ms'.length<=ms1.length+ms2.length->Q (.ref s.heap.objs.size) { s with heap:=h' }) :
  wpAny (model prog w) A (binaryOp .BitOr (.ref a) (.ref b)) Q E s:=by
 refine wpAny_binaryOp_same h1.ty h2.ty F.fills_set_or F.slot_set_or (wpAny_call_entry F.slot_set_or h1.ty Ec ?_ (F.args_set_or_2 _ _))
 refine wpAny_bind (m:=Builtin.Frozenset.slot1 "__or__" ⟨[.ref a,.ref b],[]⟩) (wpAny_pure (a:=(Value.ref a,Value.ref b)) ?_)
 dsimp only
 simp only [Bool.false_eq_true,↓reduceIte]
 have any:∀ (c:Addr) (ms:List Str) (A':Around) (s':Shared) (Q':Bool->Shared->Prop),Is w s'.heap c ms->Q' true s'->wpAny (model prog w) A' (Builtin.Frozenset.isAnySet (.ref c)) Q' E s':=fun c ms A' s' Q' hc hQ=>by
  unfold Builtin.Frozenset.isAnySet
  refine wpAny_bind (m:=isInstance (.ref c) (.type "set")) (wpAny_isInstance hc.ty sub_set_self ?_)
  exact wpAny_pure hQ
 refine wpAny_bind (m:=Builtin.Frozenset.isAnySet (.ref a) <&&> Builtin.Frozenset.isAnySet (.ref b)) ?_
 refine wpAny_bind (m:=Builtin.Frozenset.isAnySet (.ref a)) (any a ms1 _ s _ h1 ?_)
 refine any b ms2 _ s _ h2 ?_
 simp only [Bool.not_true,Bool.false_eq_true,↓reduceIte]
 refine wpAny_bind (m:=Builtin.Frozenset.addrOf (.ref a)) (wpAny_pure ?_)
 refine wpAny_bind ?_
 refine wpAny_bind (m:=Builtin.Frozenset.copyOf a) (Ji h1 (by omega) fun h3 kp3 i3=>?_)
 have hb:(Value.ref b != Value.ref a)=true:=by
  rw [bne_iff_ne]
  exact fun z=>hab (by cases z;rfl)
 have hlt:=Heap.lt_size h2.there.choose_spec
 have h2':Is w h3 b ms2:=h2.at fun o e=>kp3 b o e
 have nb:s.heap.objs.size≠b:=Nat.ne_of_gt hlt
 rw [hb,if_pos rfl]
 refine wpAny_bind (m:=holding [.ref s.heap.objs.size] (do Builtin.Frozenset.updateFrom _ (<- Builtin.Frozenset.addrOf (.ref s.heap.objs.size)) (.ref b))) (wpAny_holding ?_)
 refine wpAny_bind (m:=Builtin.Frozenset.addrOf (.ref s.heap.objs.size)) (wpAny_pure ?_)
 unfold Builtin.Frozenset.updateFrom
 refine wpAny_bind (m:=Builtin.Frozenset.isAnySet (.ref b)) (any b ms2 _ { s with heap:=h3 } _ h2' ?_)
 rw [if_pos rfl]
 refine wpAny_bind (m:=Builtin.Frozenset.addrOf (.ref b)) (wpAny_pure ?_)
 unfold Builtin.Frozenset.merge
 obtain ⟨o,es,ep,t,ho,hex,hd,hel,hnd,hbs,hf,hl,hp⟩:=id h2'
 refine wpAny_bind (wpAny_setEpoch_of (s:={ s with heap:=h3 }) ho hd hf ?_)
 refine Fj (s:={ s with heap:=h3 }) nb i3 h2' hne hsz (fun s' Q' keep hQ=>?_) fun h4 ms' sb4 i4 hm hle=>?_
 ·unfold Builtin.Frozenset.unchanged
  refine wpAny_bind (wpAny_setEpoch_of (s:=s') (keep o ho) hd hf ?_)
  rw [bne_self_eq_false,if_neg Bool.false_ne_true]
  exact wpAny_pure hQ
 ·refine wpAny_pure (wpAny_pure ⟨_,rfl,(by intro z;cases z),h h4 ms' (fun x o' e=>(sb4.2 x (Nat.ne_of_lt (Heap.lt_size e))).trans (kp3 x o' e)) i4 hm hle⟩)
end
end SS
namespace SS
open PySem PyProof.Rows
theorem cU:Slot "set_iterator" "__next__" "set_iterator.__next__" :=
 .of (owner := "set_iterator") (n := "__next__") (by rw [typeLookup_type,builtinLookup_eq_fast];kernel_rfl) (by decide +kernel) (by decide +kernel) (by decide +kernel) (by first | exact .inl (by decide +kernel) | exact .inr (by decide +kernel)) (by rw [isSubtype_type];kernel_rfl)
theorem iW:entryFor table "set_iterator.__next__" = some Builtin.«set_iterator.__next__» := entryFor_of_tree (by kernel_rfl)
theorem kE (a:Value):argsOk "set_iterator.__next__" ⟨[a],[]⟩:=by unfold argsOk;kernel_rfl
theorem sX:Slot "set_iterator" "__iter__" "set_iterator.__iter__" :=
 .of (owner := "set_iterator") (n := "__iter__") (by rw [typeLookup_type,builtinLookup_eq_fast];kernel_rfl) (by decide +kernel) (by decide +kernel) (by decide +kernel) (by first | exact .inl (by decide +kernel) | exact .inr (by decide +kernel)) (by rw [isSubtype_type];kernel_rfl)
theorem Cs (a:Value):argsOk "set_iterator.__iter__" ⟨[a],[]⟩:=by unfold argsOk;kernel_rfl
theorem yP:entryFor table "set_iterator.__iter__" = some Builtin.«dict_keyiterator.__iter__» :=
 entryFor_alias (id' := "dict_keyiterator.__iter__") (by kernel_rfl) (by first | rfl | decide +kernel | (unfold String.splitOn;simp +decide [String.splitOnAux])) (by decide +kernel) (by kernel_rfl)
theorem yV:entryFor table "set.__iter__" = some Builtin.«frozenset.__iter__» :=
 entryFor_alias (id' := "frozenset.__iter__") (by kernel_rfl) (by first | rfl | decide +kernel | (unfold String.splitOn;simp +decide [String.splitOnAux])) (by decide +kernel) (by kernel_rfl)
def It (h:Heap)(I a:Addr)(first:Value)(i n ep:Nat):Prop:=∃ o,h.get? I=some o∧o.cls = .type "set_iterator" ∧ o.data = .fields #[first,rawInt (i:Int),.ref a,rawInt (n:Int),rawInt (ep:Int)]
theorem It.at {h h':Heap}{I a:Addr}{first:Value}{i n ep:Nat}(x:It h I a first i n ep)(e:∀ o,h.get? I=some o->h'.get? I=some o):It h' I a first i n ep:=let ⟨o,ho,r⟩:=x;⟨o,e _ ho,r⟩
section
variable {prog:Program}{w:World}{A:Around}{E:Value->Shared->Prop}{s:Shared}
theorem It.ty {I a:Addr}{first:Value}{i n ep:Nat}(x:It s.heap I a first i n ep):s.TypeIs (.ref I) "set_iterator" := let ⟨o,ho,hc,_⟩:=x;⟨o,ho,hc⟩
theorem zT {α:Type}{I:Addr}{s0 s:Shared}{Q:Option Value->Shared->Prop}(hh:A.handled=none)(hQ:∀ h',(∀ b o,s.heap.get? b=some o->h'.get? b=some o)->Q none { s with heap:=h' }) :
  wpAny (model prog w) A.in1 (newExc (.type "StopIteration") [] >>= fun e=>(raiseNew e:Sem Fin)) (fun fin s'=>∃ v,fin = .done (.ret v)∧wpAny (model prog w) A (pure (some v)) Q E s')
   (fun e s'=>wpAny (model prog w) A (do if <- isInstance e (.type "StopIteration") then pure none else throw e) Q E s') s:=by
 refine wpAny_bind ?_
 simp only [newExc,newTuple]
 refine wpAny_bind (wpAny_newObj_type ?_ (by size_fits))
 refine wpAny_bind (m:=firstArgMember _ _) (wpAny_of_eq (a:=Value.none) (by first | rfl | (simp only [firstArgMember];rfl)) ?_)
 refine wpAny_newObj_type ?_ (by size_fits)
 simp only [raiseNew]
 refine wpAny_bind (wpAny_handled ?_)
 first | rw [show A.in1.handled=none from hh] | rw [hh]
 refine wpAny_bind (wpAny_pure (wpAny_throw ?_))
 refine wpAny_bind (wpAny_isInstance (T := "StopIteration") (b:=true) ⟨_,Heap.get?_push_size _ rfl,rfl⟩ isSubtype_stop ?_)
 refine wpAny_pure (hQ _ fun b ob eb=>?_)
 exact Heap.get?_push_of_some _ (Heap.get?_push_of_some _ eb)
end
end SS
namespace SS
open PySem PyProof.Rows
section
variable {prog:Program}{w:World}{A:Around}{E:Value->Shared->Prop}{s:Shared}
theorem Ex {I a:Addr}{o:Obj}{es:Array (Int×Value)}{ep i slot nx:Nat}{t:SetTable}{x:Value}{Q:Option Value->Shared->Prop}(hI:It s.heap I a (rawInt (slot:Int)) i es.size ep)(hne:a≠I)(ho:s.heap.get? a=some o)(hd:o.data = .set es ep t)(hf:t.fits es.size=true)
  (hN:∀ (A':Around) (E':Value->Shared->Prop) (Q':Option (Value×Nat)->Shared->Prop),Q' (some (x,nx)) s->wpAny (model prog w) A' (setNext a slot i ep) Q' E' s)
  (hQ:∀ h',It h' I a (rawInt (nx:Int)) (i+1) es.size ep->Heap.SameBut I s.heap h'->Q (some x) { s with heap:=h' }):wpAny (model prog w) A (pyNext (.ref I)) Q E s:=by
 obtain ⟨oi,hoi,hci,hdi⟩:=id hI
 unfold pyNext
 refine wpAny_bind (wpAny_attempt (wpAny_callSpecial?_slot (name:=Str.ofString "__next__") hI.ty cU (wpAny_call_entry cU hI.ty iW ?_ (kE _))))
 unfold Builtin.«set_iterator.__next__»
 refine wpAny_bind (wpAny_of_eq (a:=(Value.ref I,[])) rfl ?_)
 try dsimp only
 refine wpAny_bind (wpAny_fieldsOf hoi hdi ?_)
 dsimp only [rawInt]
 refine wpAny_bind (wpAny_setEntries_of ho hd hf ?_)
 rw [if_neg (by simp)]
 refine wpAny_bind (m:=setNext a (slot:Int).toNat (i:Int).toNat (ep:Int).toNat) ?_
 rw [Int.toNat_natCast,Int.toNat_natCast,Int.toNat_natCast]
 refine hN _ _ _ ?_
 dsimp only
 refine wpAny_bind (wpAny_setField hoi hdi (by simp) ?_)
 have h2:=Heap.get?_update_self (Obj.mapFields (·.setIfInBounds 0 (rawInt (nx:Int)))) hoi (Obj.isFreed_of_fields (Obj.data_mapFields hdi _))
 refine wpAny_bind (wpAny_setField h2 (Obj.data_mapFields hdi _) (by simp) ?_)
 refine wpAny_pure ⟨_,rfl,wpAny_pure (hQ _ ?_ ((Heap.SameBut.update ..).trans (Heap.SameBut.update ..)))⟩
 exact ⟨_,Heap.get?_update_self _ h2 (Obj.isFreed_of_fields (Obj.data_mapFields (Obj.data_mapFields hdi _) _)),(Obj.cls_mapFields ..).trans ((Obj.cls_mapFields ..).trans hci),by rw [Obj.data_mapFields (Obj.data_mapFields hdi _)];simp [rawInt]⟩
theorem Jj {I a:Addr}{o:Obj}{es:Array (Int×Value)}{ep i slot:Nat}{t:SetTable}{Q:Option Value->Shared->Prop}(hh:A.handled=none)(hI:It s.heap I a (rawInt (slot:Int)) i es.size ep)(hne:a≠I)(ho:s.heap.get? a=some o)(hd:o.data = .set es ep t)(hf:t.fits es.size=true)
  (hN:∀ (A':Around) (E':Value->Shared->Prop) (Q':Option (Value×Nat)->Shared->Prop),Q' none s->wpAny (model prog w) A' (setNext a slot i ep) Q' E' s)
  (hQ:∀ h',Heap.ExtBut I s.heap h'->Q none { s with heap:=h' }):wpAny (model prog w) A (pyNext (.ref I)) Q E s:=by
 obtain ⟨oi,hoi,hci,hdi⟩:=id hI
 unfold pyNext
 refine wpAny_bind (wpAny_attempt (wpAny_callSpecial?_slot (name:=Str.ofString "__next__") hI.ty cU (wpAny_call_entry cU hI.ty iW ?_ (kE _))))
 unfold Builtin.«set_iterator.__next__»
 refine wpAny_bind (wpAny_of_eq (a:=(Value.ref I,[])) rfl ?_)
 try dsimp only
 refine wpAny_bind (wpAny_fieldsOf hoi hdi ?_)
 dsimp only [rawInt]
 refine wpAny_bind (wpAny_setEntries_of ho hd hf ?_)
 rw [if_neg (by simp)]
 refine wpAny_bind (m:=setNext a (slot:Int).toNat (i:Int).toNat (ep:Int).toNat) ?_
 rw [Int.toNat_natCast,Int.toNat_natCast,Int.toNat_natCast]
 refine hN _ _ _ ?_
 dsimp only
 refine wpAny_bind (wpAny_setField hoi hdi (by simp) ?_)
 refine wpAny_mono (zT (α:=Unit) (I:=I) (s0:=s) (Q:=Q) (E:=E) hh fun h' kp=>hQ h' fun b ob hb eb=>kp b ob ((Heap.get?_update_other _ _ (Ne.symm hb)).trans eb)) (fun fin s' z=>z) fun e s' z=>z
theorem Fu {I a tp:Addr}{o ot:Obj}{es:Array (Int×Value)}{ep i p nt:Nat}{t:SetTable}{x:Int×Value}{ps:List Nat}{Q:Option Value->Shared->Prop}(hI:It s.heap I a (.ref tp) i es.size ep)(ho:s.heap.get? a=some o)(hd:o.data = .set es ep t)(hf:t.fits es.size=true)
  (hot:s.heap.get? tp=some ot) (hdt:ot.data = .seq (ps.map fun j:Nat=>rawInt (j:Int)).toArray nt) (hp:ps[i]?=some p) (hx:es[p]?=some x)
  (hQ:∀ h',It h' I a (.ref tp) (i+1) es.size ep->Heap.SameBut I s.heap h'->Q (some x.2) { s with heap:=h' }):wpAny (model prog w) A (pyNext (.ref I)) Q E s:=by
 obtain ⟨oi,hoi,hci,hdi⟩:=id hI
 unfold pyNext
 refine wpAny_bind (wpAny_attempt (wpAny_callSpecial?_slot (name:=Str.ofString "__next__") hI.ty cU (wpAny_call_entry cU hI.ty iW ?_ (kE _))))
 unfold Builtin.«set_iterator.__next__»
 refine wpAny_bind (wpAny_of_eq (a:=(Value.ref I,[])) rfl ?_)
 try dsimp only
 refine wpAny_bind (wpAny_fieldsOf hoi hdi ?_)
 dsimp only [rawInt]
 refine wpAny_bind (wpAny_setEntries_of ho hd hf ?_)
 rw [if_neg (by simp)]
 refine wpAny_bind (wpAny_seqItems hot hdt ?_)
 dsimp only
 rw [Int.toNat_natCast,List.getElem?_toArray,List.getElem?_map,hp]
 dsimp only [Option.map,rawInt]
 refine wpAny_bind (m:=setNextDrawn a (p:Int).toNat (ep:Int).toNat) ?_
 rw [Int.toNat_natCast,Int.toNat_natCast]
 unfold setNextDrawn
 refine wpAny_bind (wpAny_setState_of ho hd hf ?_)
 dsimp only
 rw [bne_self_eq_false,if_neg Bool.false_ne_true,hx]
 refine wpAny_pure ?_
 refine wpAny_bind (wpAny_setField hoi hdi (by simp) ?_)
 refine wpAny_pure ⟨_,rfl,wpAny_pure (hQ _ ?_ (Heap.SameBut.update ..))⟩
 exact ⟨_,Heap.get?_update_self _ hoi (Obj.isFreed_of_fields (Obj.data_mapFields hdi _)),(Obj.cls_mapFields ..).trans hci,by rw [Obj.data_mapFields hdi];simp [rawInt]⟩
theorem Hu {I a tp:Addr}{o ot:Obj}{es:Array (Int×Value)}{ep i nt:Nat}{t:SetTable}{ps:List Nat}{Q:Option Value->Shared->Prop}(hh:A.handled=none)(hI:It s.heap I a (.ref tp) i es.size ep)(ho:s.heap.get? a=some o)(hd:o.data = .set es ep t)(hf:t.fits es.size=true)
  (hot:s.heap.get? tp=some ot) (hdt:ot.data = .seq (ps.map fun j:Nat=>rawInt (j:Int)).toArray nt) (hp:ps[i]?=none)
  (hQ:∀ h',Heap.ExtBut I s.heap h'->Q none { s with heap:=h' }):wpAny (model prog w) A (pyNext (.ref I)) Q E s:=by
 obtain ⟨oi,hoi,hci,hdi⟩:=id hI
 unfold pyNext
 refine wpAny_bind (wpAny_attempt (wpAny_callSpecial?_slot (name:=Str.ofString "__next__") hI.ty cU (wpAny_call_entry cU hI.ty iW ?_ (kE _))))
 unfold Builtin.«set_iterator.__next__»
 refine wpAny_bind (wpAny_of_eq (a:=(Value.ref I,[])) rfl ?_)
 try dsimp only
 refine wpAny_bind (wpAny_fieldsOf hoi hdi ?_)
 dsimp only [rawInt]
 refine wpAny_bind (wpAny_setEntries_of ho hd hf ?_)
 rw [if_neg (by simp)]
 refine wpAny_bind (wpAny_seqItems hot hdt ?_)
 dsimp only
 rw [Int.toNat_natCast,List.getElem?_toArray,List.getElem?_map,hp]
 dsimp only [Option.map]
 refine wpAny_bind (wpAny_setField hoi hdi (by simp) ?_)
 have h2:=Heap.get?_update_self (Obj.mapFields (·.setIfInBounds 0 (rawInt 0))) hoi (Obj.isFreed_of_fields (Obj.data_mapFields hdi _))
 refine wpAny_bind (wpAny_setField h2 (Obj.data_mapFields hdi _) (by simp) ?_)
 refine wpAny_mono (zT (α:=Unit) (I:=I) (s0:=s) (Q:=Q) (E:=E) hh fun h' kp=>hQ h' fun b ob hb eb=>kp b ob ((Heap.get?_update_other _ _ (Ne.symm hb)).trans ((Heap.get?_update_other _ _ (Ne.symm hb)).trans eb))) (fun fin s' z=>z) fun e s' z=>z
theorem Ae {I a:Addr}{first:Value}{i n ep:Nat}{Q:Value->Shared->Prop}(hI:It s.heap I a first i n ep)(h:Q (.ref I) s):wpAny (model prog w) A (pyIter (.ref I)) Q E s:=by
 refine wpAny_pyIter_slot hI.ty sX (wpAny_call_entry sX hI.ty yP ?_ (Cs _))
 show wpAny _ _ (ret (.ref I)) _ _ s
 exact wpAny_pure ⟨_,rfl, "set_iterator",_,hI.ty,cU.lookup,h⟩
theorem uP {M:Model}{src:Source}{n:Nat}{Q:Nat->Shared->Prop}(hn:n≠0)(h:∀ i d,i<n->Q i { s with drawn:=d }):wpAny M A (choose src n) Q E s:=fun Γ p hΓ=>⟨hn,h _ _ (Nat.mod_lt _ (Nat.pos_of_ne_zero hn))⟩
theorem Je {α:Type}:∀ (xs:List α) (s:Shared) (Q:List α->Shared->Prop),(∀ ys d,ys.Perm xs->Q ys { s with drawn:=d })->wpAny (model prog w) A (drawOrder xs.length xs) Q E s:=by
 intro xs
 generalize hn:xs.length=n
 induction n generalizing xs with
 | zero =>
  intro s Q h
  obtain rfl:=List.length_eq_zero_iff.mp hn
  rw [drawOrder]
  exact wpAny_pure (h [] s.drawn (List.Perm.refl _))
 | succ n ih =>
  intro s Q h
  cases xs with
  | nil=>cases hn
  | cons x xs =>
   rw [drawOrder]
   rotate_left
   ·intro z
    cases z
   refine wpAny_bind (uP (by simp) fun i d hi=>?_)
   rw [List.getElem?_eq_getElem hi]
   dsimp only
   refine wpAny_bind (ih ((x::xs).eraseIdx i) (by rw [List.length_eraseIdx_of_lt hi,hn];rfl) _ _ fun ys d2 hp=>wpAny_pure ?_)
   exact h _ d2 ((hp.cons _).trans (lO _ i hi))
end
end SS
namespace SS
open PySem PyProof.Rows
theorem Eb {prog:Program}{w:World}{A:Around}{a I:Addr}{o:Obj}{es:Array (Int×Value)}{ep:Nat}{t:SetTable}{L:List (Int×Value)}{slots:Nat->Nat}(hh:A.handled=none)(hne:a≠I)(hd:o.data = .set es ep t)(hf:t.fits es.size=true)
  (hN:∀ (i:Nat) (s:Shared) (A':Around) (E':Value->Shared->Prop) (Q':Option (Value×Nat)->Shared->Prop),s.heap.get? a=some o->i<=L.length->Q' ((L[i]?).map fun e=>(e.2,slots (i+1))) s->wpAny (model prog w) A' (setNext a (slots i) i ep) Q' E' s) :
  Walks prog w A I [I,a] [I] L.length (fun i v=>(L.map (·.2))[i]?=some v) (fun i h=>h.get? a=some o∧It h I a (rawInt (slots i:Int)) i es.size ep) where
 sub:=fun b hb=>by simp at hb;simp [hb]
 frame:=fun _ _ _ y hk=>⟨hk a (by simp) o y.1,y.2.at fun o e=>hk I (by simp) o e⟩
 item:=fun i s Q E hi y hQ=>by
  refine Ex (x:=L[i].2) (nx:=slots (i+1)) y.2 hne y.1 hd hf (fun A' E' Q' q=>hN i s A' E' Q' y.1 (by omega) ?_) fun h' hit hs=>?_
  ·rw [List.getElem?_eq_getElem hi]
   exact q
  ·exact hQ _ h' s.toks (by rw [List.getElem?_map,List.getElem?_eq_getElem hi];rfl) ⟨(hs.2 a hne).trans y.1,hit⟩ fun b o hb eo=>hs.extBut b o (fun h=>hb (by simp [h])) eo
 done:=fun s Q E y hQ=>by
  refine Jj hh y.2 hne y.1 hd hf (fun A' E' Q' q=>hN L.length s A' E' Q' y.1 (Nat.le_refl _) ?_) fun h' he=>hQ h' s.toks fun b o hb eo=>he b o (fun h=>hb (by simp [h])) eo
  rw [List.getElem?_eq_none (Nat.le_refl _)]
  exact q
 self:=fun _ _ _ _ y hQ=>Ae y.2 hQ
theorem Ew {prog:Program}{w:World}{A:Around}{a I tp:Addr}{o ot:Obj}{es:Array (Int×Value)}{ep nt:Nat}{t:SetTable}{ps:List Nat}(hh:A.handled=none)(hne:a≠I)(hnt:tp≠I)(hd:o.data = .set es ep t)(hf:t.fits es.size=true)
  (hdt:ot.data = .seq (ps.map fun j:Nat=>rawInt (j:Int)).toArray nt) (hps:∀ p∈ps,p<es.size) :
  Walks prog w A I [I,a,tp] [I] ps.length (fun i v=>(ps.map fun p=>(es.getD p (0,.none)).2)[i]?=some v) (fun i h=>h.get? a=some o∧h.get? tp=some ot∧It h I a (.ref tp) i es.size ep) where
 sub:=fun b hb=>by simp at hb;simp [hb]
 frame:=fun _ _ _ y hk=>⟨hk a (by simp) o y.1,hk tp (by simp) ot y.2.1,y.2.2.at fun o e=>hk I (by simp) o e⟩
 item:=fun i s Q E hi y hQ=>by
  have hp:ps[i]?=some ps[i]:=List.getElem?_eq_getElem hi
  have hlt:=hps _ (List.getElem_mem hi)
  have hx:es[ps[i]]?=some (es[ps[i]]'hlt):=Array.getElem?_eq_getElem hlt
  refine Fu y.2.2 y.1 hd hf y.2.1 hdt hp hx fun h' hit hs=>?_
  refine hQ _ h' s.toks ?_ ⟨(hs.2 a hne).trans y.1,(hs.2 tp hnt).trans y.2.1,hit⟩ fun b o hb eo=>hs.extBut b o (fun h=>hb (by simp [h])) eo
  rw [List.getElem?_map,hp]
  show some (es.getD ps[i] (0,Value.none)).2=_
  rw [Array.getD_eq_getD_getElem?,hx]
  rfl
 done:=fun s Q E y hQ=>Hu hh y.2.2 y.1 hd hf y.2.1 hdt (List.getElem?_eq_none (Nat.le_refl _)) fun h' he=>hQ h' s.toks fun b o hb eo=>he b o (fun h=>hb (by simp [h])) eo
 self:=fun _ _ _ _ y hQ=>Ae y.2.2 hQ
theorem wR {w:World}:∀ L:List (Int×Value),(∀ e∈L,El w e)->StrsAre (L.map (·.2)) (L.map fun e=>lG e.2)
 | [],_=>.nil
 | e::L,h=>by
  obtain ⟨_,tk,q⟩:=h e (List.mem_cons_self ..)
  rw [List.map_cons,List.map_cons]
  have r:=wR L fun x hx=>h x (List.mem_cons_of_mem _ hx)
  have z:StrsAre (Value.str (lG e.2) tk::L.map (·.2)) (lG e.2::L.map fun e=>lG e.2):=.cons _ _ r
  rw [<- q] at z
  exact z
section
variable {prog:Program}{w:World}{A:Around}{E:Value->Shared->Prop}{s:Shared}
theorem Jb {a:Addr}{ms:List Str}{Q:Value->Shared->Prop}(hS:Is w s.heap a ms)
  (h:∀ (h':Heap) (d:Drawn) (I:Addr) (fp:List Addr) (xs:List Value) (ss:List Str) (St:Nat->Heap->Prop),(∀ A':Around,A'.handled=none->Walks prog w A' I fp [I] xs.length (fun i v=>xs[i]?=some v) St)->St 0 h' ->
   (∀ b o,s.heap.get? b=some o->h'.get? b=some o)->s.heap.objs.size<=I->(∀ b∈fp,b=a∨s.heap.objs.size<=b)->StrsAre xs ss->ss.Perm ms->Q (.ref I) { s with heap:=h',drawn:=d }) :
  wpAny (model prog w) A (pyIter (.ref a)) Q E s:=by
 obtain ⟨o,es,ep,t,ho,hex,hd,hel,hnd,hb,hf,hl,hp⟩:=id hS
 have hlt:=Heap.lt_size ho
 have hps:t.place.size=es.size:=by
  simp only [SetTable.fits,Bool.and_eq_true,beq_iff_eq] at hf
  exact hf.1
 refine wpAny_pyIter_slot hS.ty F.slot_set_iter (wpAny_call_entry F.slot_set_iter hS.ty yV ?_ (F.args_set_iter_1 _))
 unfold Builtin.«frozenset.__iter__»
 refine wpAny_bind (m:=Builtin.Frozenset.slot0 "__iter__" ⟨[.ref a],[]⟩) (wpAny_of_eq (a:=a) rfl ?_)
 unfold Builtin.Frozenset.sizeOf
 refine wpAny_bind (wpAny_bind (wpAny_setEntries_of ho hd hf (wpAny_pure ?_)))
 have hlist:∀ L:List (Int×Value),L.Perm es.toList->StrsAre (L.map (·.2)) (L.map fun e=>lG e.2)∧(L.map fun e=>lG e.2).Perm ms:=fun L hp=>⟨wR L (hel.perm hp).1,(hel.perm hp).2⟩
 have fin:∀ (L:List (Int×Value)) (slots:Nat->Nat),slots 0=0->L.Perm es.toList->(∀ (i:Nat) (s:Shared) (A':Around) (E':Value->Shared->Prop) (Q':Option (Value×Nat)->Shared->Prop),s.heap.get? a=some o->i<=L.length->Q' ((L[i]?).map fun e=>(e.2,slots (i+1))) s->wpAny (model prog w) A' (setNext a (slots i) i ep) Q' E' s) ->
   wpAny (model prog w) A.in1 (setEpoch a >>= fun e=>newFields "set_iterator" [rawInt 0,rawInt 0,.ref a,rawInt (es.size:Int),rawInt (e:Int)] >>= ret) (fun fin s'=>∃ v,fin = .done (.ret v)∧∃ (T:String) (r:Value),s'.TypeIs v T∧typeLookup (.type T) "__next__" = pure (some r)∧Q v s') E s:=fun L slots h0 hL hN=>by
  refine wpAny_bind (wpAny_setEpoch_of ho hd hf ?_)
  have hI:It (s.heap.push { cls:=.type "set_iterator",data:=.fields #[rawInt 0,rawInt 0,.ref a,rawInt (es.size:Int),rawInt (ep:Int)] }) s.heap.objs.size a (rawInt (slots 0:Int)) 0 es.size ep:=⟨_,Heap.get?_push_size _ rfl,rfl,by rw [h0];rfl⟩
  obtain ⟨q1,q2⟩:=hlist L hL
  refine wpAny_bind (wpAny_newObj_type (wpAny_pure ⟨_,rfl, "set_iterator",_,⟨_,Heap.get?_push_size _ rfl,rfl⟩,cU.lookup,?_⟩))
  have z:=h (s.heap.push { cls:=.type "set_iterator",data:=.fields #[rawInt 0,rawInt 0,.ref a,rawInt (es.size:Int),rawInt (ep:Int)] }) s.drawn s.heap.objs.size [s.heap.objs.size,a] (L.map (·.2)) _ (fun i h=>h.get? a=some o∧It h s.heap.objs.size a (rawInt (slots i:Int)) i es.size ep) (fun A' hA'=>by
     rw [List.length_map]
     exact Eb hA' (Nat.ne_of_lt hlt) hd hf hN) ⟨Heap.get?_push_of_some _ ho,hI⟩ (fun b o e=>Heap.get?_push_of_some _ e) (Nat.le_refl _) (fun b hb=>by
     rcases List.mem_cons.mp hb with rfl | hb
     · exact .inr (Nat.le_refl _)
     · exact .inl (List.mem_singleton.mp hb)) q1 q2
  exact z
 have hdrw:∀ (Q':Bool->Shared->Prop),Q' (!byT w&&(!t.plain&&decide (es.size>1))) s->wpAny (model prog w) A.in1 (setDrawn a) Q' E s:=fun Q' q=>by
  unfold setDrawn
  refine wpAny_bind (wpAny_setState_of ho hd hf ?_)
  dsimp only
  exact wpAny_bind (fG (wpAny_pure q))
 refine wpAny_bind (hdrw _ ?_)
 by_cases hby:byT w=true
 ·rw [hby]
  simp only [Bool.not_true,Bool.false_and,Bool.false_eq_true,↓reduceIte]
  refine wpAny_bind (wpAny_pure ?_)
  refine fin (pickOrder (w.params.setOrder a ep) es).toList (fun _=>0) rfl (sH _ _) fun i s' A' E' Q' ho' hi q=>?_
  unfold setNext
  refine wpAny_bind (wpAny_setState_of ho' hd hf ?_)
  dsimp only
  refine wpAny_bind (fG ?_)
  rw [hby,if_pos rfl,bne_self_eq_false,if_neg Bool.false_ne_true]
  unfold setWalk
  refine wpAny_bind (wpAny_bind (wpAny_setState_of ho' hd hf ?_))
  dsimp only
  refine wpAny_bind (fG ?_)
  rw [hby,if_pos rfl]
  refine wpAny_bind (wpAny_askSetting (wpAny_pure (wpAny_pure ?_)))
  rw [Array.getElem?_toList] at q
  exact q
 ·have hbf:byT w=false:=Bool.eq_false_iff.mpr hby
  have hld:t.led=true:=hl.resolve_left hby
  by_cases h1:es.size<=1
  ·have hnot:(!byT w&&(!t.plain&&decide (es.size>1)))=false:=by rw [decide_eq_false (by omega)];simp
   rw [hnot]
   simp only [Bool.false_eq_true,↓reduceIte]
   refine wpAny_bind (wpAny_pure ?_)
   have hN:∀ (slot i:Nat) (s':Shared) (A':Around) (E':Value->Shared->Prop) (Q':Option (Value×Nat)->Shared->Prop),s'.heap.get? a=some o ->
       Q' (match es[SetTable.below t.place slot]?,t.place[SetTable.below t.place slot]? with | some (_,x),some j=>some (x,j+1) | _,_=>none) s'->wpAny (model prog w) A' (setNext a slot i ep) Q' E' s':=fun slot i s' A' E' Q' ho' q=>by
     unfold setNext
     refine wpAny_bind (wpAny_setState_of ho' hd hf ?_)
     dsimp only
     refine wpAny_bind (fG ?_)
     rw [hbf,if_neg Bool.false_ne_true]
     have hdr:(!t.plain&&decide (es.size>1))=false:=by rw [decide_eq_false (by omega)];simp
     show wpAny _ _ (if (!t.plain&&decide (es.size>1))=true then _ else _) _ _ s'
     rw [hdr,if_neg Bool.false_ne_true]
     refine wpAny_bind (m:=if (!t.led && !es.isEmpty)=true then unsupported "set:maker-not-led" else pure ()) ?_
     rw [hld]
     simp only [Bool.not_true,Bool.false_and,Bool.false_eq_true,↓reduceIte]
     exact wpAny_pure (wpAny_pure q)
   by_cases h0:es.size=0
   · have ee:es = #[]:=Array.eq_empty_of_size_eq_zero h0
     refine fin [] (fun _=>0) rfl (by rw [ee]) fun i s' A' E' Q' ho' hi q=>hN 0 i s' A' E' Q' ho' ?_
     rw [ee,Array.getElem?_eq_none (by simp)]
     exact q
   · obtain ⟨e0,he0⟩:∃ e0,es = #[e0]:=by
       obtain ⟨l⟩:=es
       match l,h0,h1 with
       | [e0],_,_=>exact ⟨e0,rfl⟩
       | [],h,_=>exact absurd rfl h
       | _::_::_,_,h=>simp at h
     obtain ⟨j,hj⟩:∃ j,t.place = #[j]:=by
       rw [he0] at hps
       cases hpl:t.place with
       | mk l =>
         rw [hpl] at hps
         match l,hps with
         | [j],_=>exact ⟨j,rfl⟩
     refine fin [e0] (fun i=>if i=0 then 0 else j+1) rfl (by rw [he0]) fun i s' A' E' Q' ho' hi q=>hN _ i s' A' E' Q' ho' ?_
     have b0:SetTable.below #[j] 0=0:=by
       simp [SetTable.below,SetTable.below.go]
     have b1:SetTable.below #[j] (j+1)=1:=by
       simp [SetTable.below,SetTable.below.go]
     match i,hi with
     | 0,_ =>
       rw [if_pos rfl,hj,b0,he0]
       exact q
     | 1,_ =>
       rw [if_neg (by decide),hj,b1,he0]
       exact q
  ·have hpl:t.plain=false:=hp.resolve_left (by omega)
   have hyes:(!byT w&&(!t.plain&&decide (es.size>1)))=true:=by rw [hbf,hpl,decide_eq_true (by omega)];rfl
   rw [hyes,if_pos rfl]
   have hr:(List.range es.size).length=es.size:=List.length_range
   refine wpAny_bind (m:=drawOrder es.size (List.range es.size)) ?_
   have dr:=Je (prog:=prog) (w:=w) (A:=A.in1) (E:=E) (List.range es.size) s
   rw [hr] at dr
   refine dr _ fun ps d hpp=>?_
   have hpl:ps.length=es.size:=by rw [hpp.length_eq,hr]
   have hs:sizeLine=16777216:=sizeLine_eq
   have sb:scanBound=4096:=rfl
   refine wpAny_bind (wpAny_newTuple ?_ (by rw [List.length_map];omega))
   generalize hot:({ cls:=.type "tuple",data:=.seq (ps.map fun j:Nat=>rawInt (j:Int)).toArray }:Obj)=ot
   have hg:(s.heap.push ot).get? s.heap.objs.size=some ot:=Heap.get?_push_size _ (by rw [<- hot];rfl)
   have ho2:(s.heap.push ot).get? a=some o:=Heap.get?_push_of_some _ ho
   refine wpAny_bind (wpAny_setEpoch_of (s:={ s with heap:=s.heap.push ot,drawn:=d }) ho2 hd hf ?_)
   refine wpAny_bind (wpAny_newObj_type (wpAny_pure ⟨_,rfl, "set_iterator",_,⟨_,Heap.get?_push_size _ rfl,rfl⟩,cU.lookup,?_⟩))
   have hsz:(s.heap.push ot).objs.size=s.heap.objs.size+1:=Heap.size_push _ _
   have hfm:(ps.map fun p=>es.getD p (0,Value.none)).Perm es.toList:=by
     have e1:(List.range es.size).map (fun p=>es.getD p (0,Value.none))=es.toList:=by
       apply List.ext_getElem
       · simp
       · intro i g1 g2
         have g3:i<es.size:=by simpa using g1
         simp [Array.getD_eq_getD_getElem?,g3]
     exact (hpp.map _).trans (by rw [e1])
   obtain ⟨q1,q2⟩:=hlist _ hfm
   rw [List.map_map,List.map_map] at q1
   rw [List.map_map] at q2
   have hps':∀ p∈ps,p<es.size:=fun p hp=>List.mem_range.mp (hpp.mem_iff.mp hp)
   have hgo:∀ (o2:Obj),o2 = { cls:=.type "set_iterator",data:=.fields #[.ref s.heap.objs.size,rawInt 0,.ref a,rawInt (es.size:Int),rawInt (ep:Int)] }->Q (.ref (s.heap.objs.size+1)) { s with heap:=(s.heap.push ot).push o2,drawn:=d }:=fun o2 ho2'=>by
    refine h ((s.heap.push ot).push o2) d (s.heap.objs.size+1) [s.heap.objs.size+1,a,s.heap.objs.size] (ps.map fun p=>(es.getD p (0,Value.none)).2) _ (fun i h=>h.get? a=some o∧h.get? s.heap.objs.size=some ot∧It h (s.heap.objs.size+1) a (.ref s.heap.objs.size) i es.size ep) (fun A' hA'=>by
        rw [List.length_map]
        exact Ew (ot:=ot) (nt:=0) hA' (Nat.ne_of_lt (Nat.lt_succ_of_lt hlt)) (Nat.ne_of_lt (Nat.lt_succ_self _)) hd hf (by rw [<- hot]) hps') ⟨Heap.get?_push_of_some _ ho2,Heap.get?_push_of_some _ hg,?_⟩ (fun b o e=>Heap.get?_push_of_some _ (Heap.get?_push_of_some _ e)) (Nat.le_succ _) (fun b hb=>?_) q1 q2
    · rw [<- hsz]
      exact ⟨o2,Heap.get?_push_size _ (by rw [ho2'];rfl),by rw [ho2'],by rw [ho2'];rfl⟩
    · rcases List.mem_cons.mp hb with rfl | hb
      · exact .inr (Nat.le_succ _)
      · rcases List.mem_cons.mp hb with rfl | hb
        · exact .inl rfl
        · exact .inr (Nat.le_of_eq (List.mem_singleton.mp hb).symm)
   have z:=hgo _ rfl
   rw [<- hsz] at z
   exact z
end
end SS
namespace SS
open PySem PyProof.Rows
theorem Dx {xs:List Value}{acc:Array Value}(h:ItemsOf (fun i v=>xs[i]?=some v) acc xs.length):acc.toList=xs:=by
 apply List.ext_getElem?
 intro i
 rw [Array.getElem?_toList]
 cases e:acc[i]? with
 | some v=>exact (h.2 i v e).symm
 | none =>
  have:acc.size<=i:=by
   rcases Nat.lt_or_ge i acc.size with z | z
   ·rw [Array.getElem?_eq_getElem z] at e;cases e
   ·exact z
  rw [List.getElem?_eq_none (by rw [<- h.1];exact this)]
section
variable {prog:Program}{w:World}{A:Around}{E:Value->Shared->Prop}{s:Shared}
theorem Ht {a:Addr}{ms:List Str}{Q:Bool->Shared->Prop}(hS:Is w s.heap a ms)(h:Q false s):wpAny (model prog w) A (Builtin.List.listLengthHint (.ref a)) Q E s:=by
 unfold Builtin.List.listLengthHint
 refine wpAny_bind (wpAny_specialOf hS.ty F.slot_set_len.lookup ?_)
 generalize hid:("set.__len__" : String)=id0
 wp_delta
 rw [show splitId id0=some ("set", "__len__") from by subst hid;decide +kernel]
 subst hid
 refine wpAny_bind (wpAny_isInstance (T := "set") (b:=true) hS.ty sub_set_self ?_)
 refine wpAny_ite_split (fun hab=>absurd hab (by decide)) (fun _=>?_)
 refine wpAny_ite_split (fun _=>?_) (fun hab=>absurd (by decide +kernel) hab)
 refine wpAny_bind (wpAny_typeOf hS.ty ?_)
 exact wpAny_pure h
theorem Ca {a:Addr}{ms:List Str}{R:Result->Shared->Prop}(hh:A.handled=none)(hS:Is w s.heap a ms)(hz:ms.length<=sizeLine)(S:Addr)(res:Value)(h1:S≠a)(hSl:s.heap.get? S=some { cls:=.type "list",data:=.seq #[] })
  (hR:∀ s' acc' c' ss,(∀ b o,b≠S->s.heap.get? b=some o->s'.heap.get? b=some o)->s'.gens=s.gens->s'.os=s.os->s'.heap.get? S=some { cls:=.type "list",dict:=none,data:=.seq acc' c',slots:=#[] }->StrsAre acc'.toList ss->ss.Perm ms->R (.ok (.ret res)) s') :
  wpAny (model prog w) A.in1 (Builtin.List.listExtendWith (.ref S) (.ref a) res)
   (fun fin s'=>match fin with | .done f=>R (.ok f) s' | .again c'=>c'.quiet=true∧codeAny (model prog w) A c' R s') (fun e s'=>R (.error e) s') s:=by
 unfold Builtin.List.listExtendWith
 refine wpAny_bind (wpAny_typeOf hS.ty ?_)
 have g1:Builtin.List.listSameRef (.ref S) (.ref a)=false:=by simp [Builtin.List.listSameRef,h1]
 have g2:(Value.type "set" == Value.type "list")=false:=by decide
 have g3:(Value.type "set" == Value.type "tuple")=false:=by decide
 simp only [g1,g2,g3,Bool.or_false,Bool.false_eq_true,if_false]
 refine wpAny_bind (Jb (A:=A.in1) hS fun h2 d I fp xs ss St W st0 kp hIs hfp hss hpm=>?_)
 have hlt:=Heap.lt_size hSl
 have hSI:S≠I:=Nat.ne_of_lt (Nat.lt_of_lt_of_le hlt hIs)
 have hSf:S∉fp:=fun z=>by
  rcases hfp S z with e | e
  ·exact h1 e
  ·exact absurd hlt (Nat.not_lt.mpr e)
 have hS2:Is w h2 a ms:=hS.at fun o e=>kp a o e
 refine wpAny_bind (wpAny_holding (Ht (s:={ s with heap:=h2,drawn:=d }) hS2 ?_))
 have WS:=(W A.in1 hh).toS
 have hxl:xs.length=ms.length:=by rw [hss.length,hpm.length_eq]
 have last:∀ (h0:Heap) (c0:Nat),(∀ b o,b≠S->h2.get? b=some o->h0.get? b=some o)->h0.get? S=some { cls:=.type "list",data:=.seq #[] c0 } ->
   wpAny (model prog w) A.in1 (again (.builtin "list.extend.loop" ⟨[.ref S,.ref I,res],[]⟩))
    (fun fin s'=>match fin with | .done f=>R (.ok f) s' | .again c'=>c'.quiet=true∧codeAny (model prog w) A c' R s') (fun e s'=>R (.error e) s') { s with heap:=h0,drawn:=d }:=fun h0 c0 hk0 hS0=>by
  refine wpAny_pure ⟨plainId_quiet F.plain_extend_loop _,codeAny_extend_loopS WS (by omega) S hSf res xs.length 0 _ #[] c0 rfl (Nat.zero_le _) ?_ hS0 (ItemsOf.nil _) fun s' acc' c' hm hS' hacc=>?_⟩
  ·exact (W A.in1 hh).frame 0 h2 h0 st0 fun b hb o e=>hk0 b o (fun z=>hSf (z▸hb)) e
  ·refine hR s' acc' c' ss (fun b o hb e=>?_) hm.gens hm.os hS' (by rw [Dx hacc];exact hss) hpm
   by_cases hbI:b=I
   ·subst hbI
    exact absurd (Heap.lt_size e) (Nat.not_lt.mpr hIs)
   ·exact hm.heap b o (by simp [hb,hbI]) (hk0 b o hb (kp b o e))
 refine wpAny_ite_split (fun _=>?_) (fun hab=>absurd (by decide +kernel) hab)
 refine wpAny_bind (wpAny_rule ?_)
 have hSl2:h2.get? S=some { cls:=.type "list",data:=.seq #[] }:=kp S _ hSl
 refine wpAny_bind (m:=((do updateSeq S (fun z=>z.push .none);updateSeq S (fun z=>z.pop)):Sem Unit)) (wpAny_bind (wpAny_updateSeq (s:={ s with heap:=h2,drawn:=d }) hSl2 rfl ?_))
 have k1:=Heap.get?_update_self (Obj.mapSeq (fun z=>z.push .none)) hSl2 rfl
 refine wpAny_updateSeq k1 rfl ?_
 have k2:=Heap.get?_update_self (Obj.mapSeq (fun z=>z.pop)) k1 rfl
 exact last _ _ (fun b o hb e=>(Heap.get?_update_other _ _ (Ne.symm hb)).trans ((Heap.get?_update_other _ _ (Ne.symm hb)).trans e)) k2
theorem yE {a:Addr}{ms:List Str}{Q:List Value->Shared->Prop}(hh:A.handled=none)(hS:Is w s.heap a ms)(hz:ms.length<=sizeLine)
  (hQ:∀ s' vs ss,(∀ b o,s.heap.get? b=some o->s'.heap.get? b=some o)->s'.gens=s.gens->s'.os=s.os->StrsAre vs ss->ss.Perm ms->Q vs s'):wpAny (model prog w) A (collect (.ref a)) Q E s:=by
 have hlt:=Heap.lt_size hS.there.choose_spec
 unfold collect
 refine wpAny_bind (wpAny_runValue (codeAny_builtin F.entry_proto_collect ?_))
 rw [Around.under_plainId F.plain_proto_collect]
 refine wpAny_bind (m:=newList []) (wpAny_newObj_type (wpAny_pure ⟨plainId_quiet F.plain_list_iadd _,codeAny_builtin F.entry_list_iadd ?_⟩))
 rw [Around.under_plainId F.plain_list_iadd]
 have hSl:(s.heap.push { cls:=.type "list",data:=.seq #[] }).get? s.heap.objs.size=some { cls:=.type "list",data:=.seq #[] }:=Heap.get?_push_size _ rfl
 have go:∀ R:Result->Shared->Prop,(∀ s' acc' c' ss,(∀ b o,s.heap.get? b=some o->s'.heap.get? b=some o)->s'.gens=s.gens->s'.os=s.os->s'.heap.get? s.heap.objs.size=some { cls:=.type "list",dict:=none,data:=.seq acc' c',slots:=#[] }->StrsAre acc'.toList ss->ss.Perm ms->R (.ok (.ret (.ref s.heap.objs.size))) s') ->
   wpAny (model prog w) A.in1 (Builtin.List.listExtendWith (.ref s.heap.objs.size) (.ref a) (.ref s.heap.objs.size))
    (fun fin s'=>match fin with | .done f=>R (.ok f) s' | .again c'=>c'.quiet=true∧codeAny (model prog w) A c' R s') (fun e s'=>R (.error e) s') { s with heap:=s.heap.push { cls:=.type "list",data:=.seq #[] } }:=fun R hR =>
  Ca (A:=A) (s:={ s with heap:=s.heap.push { cls:=.type "list",data:=.seq #[] } }) hh (hS.at fun o e=>Heap.get?_push_of_some _ e) hz s.heap.objs.size (.ref s.heap.objs.size) (Nat.ne_of_gt hlt) hSl
   fun s' acc' c' ss kp g1 g2 e1 e2 e3=>hR s' acc' c' ss (fun b o e=>kp b o (Nat.ne_of_lt (Heap.lt_size e)) (Heap.get?_push_of_some _ e)) g1 g2 e1 e2 e3
 refine go (fun r s'=>match r with
  | .ok (.ret v)=>wpAny (model prog w) A (match v with
   | .ref a=>do
    match (<- load a).data with
    | .seq xs _=>pure xs.toList
    | _=>unsupported "internal:collect"
   | _=>unsupported "internal:collect") Q E s'
  | .ok _=>False
  | .error e=>E e s') fun s' acc' c' ss kp g1 g2 hS' e2 e3=>?_
 refine wpAny_bind (m:=load s.heap.objs.size) (wpAny_load hS' (wpAny_pure ?_))
 exact hQ s' acc'.toList ss kp g1 g2 e2 e3
theorem Dl (a:Value){Q₁:Value->Shared->Prop}(h:Q₁ (.ref s.heap.objs.size) { s with heap:=s.heap.push (cT w) }):codeAny (model prog w) A (.call (.builtin "set.__new__") ⟨[.type "set",a],[]⟩) (wants Q₁ E) s:=by
 refine codeAny_of_tree (show wpAny _ A.in1 (do checkBuiltinCall "set.__new__" ⟨[.type "set",a],[]⟩;again (.builtin "set.__new__" ⟨[.type "set",a],[]⟩)) _ _ s from ?_)
 refine wpAny_bind (wpAny_of_eq (F.newCall_set_1 a) (wpAny_pure ⟨plainId_quiet F.plain_set_new _,codeAny_builtin F.entry_set_new ?_⟩))
 rw [Around.under_plainId F.plain_set_new _]
 unfold Builtin.«set.__new__» Builtin.Frozenset.newClass
 have hsub:=sub_set_self
 obtain ⟨hp,g,d,tk,os⟩:=s
 dsimp only
 wp_walk
 refine wpAny_askSetting (wpAny_pure ?_)
 dsimp only
 simp only [newObj]
 refine wpAny_bind (wpAny_alloc (wpAny_pure (wpAny_pure h)))
end
end SS
namespace L2
open PySem PySem.Spec PyProof.Rows
namespace SE
def Of (w:World)(h:Heap)(D:Addr)(ls:List (List Nat))(i:Nat):Prop:=∃ ms,SS.Is w h D ms∧(∀ x,x∈ms↔x∈(ls.take i).map tx)∧ms.length<=i
theorem Of.at {w:World}{h h':Heap}{D:Addr}{ls:List (List Nat)}{i:Nat}(x:Of w h D ls i)(k:∀ o,h.get? D=some o->h'.get? D=some o):Of w h' D ls i:=let ⟨ms,a,b⟩:=x;⟨ms,a.at k,b⟩
section
variable {prog:Program}{w:World}{A:Around}{R:Result->Shared->Prop}{J:Addr}{fp wr:List Addr}{G:Array GenState->Array GenState->Prop}{n:Nat}{P:Nat->Value->Prop}{St:Nat->Shared->Prop}
theorem Po (W:WalksS prog w A.in1 J fp wr G n P St){D:Addr}(hD:D∉fp)(ls:List (List Nat))(hv:∀ i v,P i v->∃ t,v=Value.str (tx (ls.getD i [])) t)(hn:n+1<scanBound)(hnl:n<=ls.length) :
  ∀ (k i:Nat) (s:Shared),n-i=k->i<=n->St i s->Of w s.heap D ls i ->
   (∀ s',Moved (D::wr) G s s'->Of w s'.heap D ls n->R (.ok (.ret .none)) s')->codeAny (model prog w) A (.builtin "set.update.loop" ⟨[.ref D,.ref J],[]⟩) R s:=by
 have hDw:D∉wr:=fun z=>hD (W.sub _ z)
 have up:∀ b∈wr,b∈D::wr:=fun b hb=>.tail _ hb
 intro k
 induction k with
 | zero =>
  intro i s hk hi st hs hR
  obtain rfl:i=n:=by omega
  refine codeAny_builtin PyProof.Rows.F.entry_set_update_loop ?_
  rw [Around.under_plainId PyProof.Rows.F.plain_set_update_loop]
  refine wpAny_bind (m:=pyNext (.ref J)) (W.done s _ _ st fun s2 mv=>?_)
  exact (show wpAny _ A.in1 (ret Value.none) _ _ s2 from wpAny_pure (hR s2 (mv.mono up) (hs.at fun o e=>mv.heap D o hDw e)))
 | succ k ih =>
  intro i s hk hi st hs hR
  have hlt:i<n:=by omega
  refine codeAny_builtin PyProof.Rows.F.entry_set_update_loop ?_
  rw [Around.under_plainId PyProof.Rows.F.plain_set_update_loop]
  refine wpAny_bind (m:=pyNext (.ref J)) (W.item i s _ _ hlt st fun v s2 pv st2 mv=>?_)
  obtain ⟨t,rfl⟩:=hv i v pv
  have hs2:=hs.at fun o e=>mv.heap D o hDw e
  refine wpAny_bind (m:=holding [Value.str (tx (ls.getD i [])) t] (setAdd D (.str (tx (ls.getD i [])) t))) (wpAny_holding ?_)
  unfold setAdd
  refine wpAny_holding (wpAny_bind ((PySem.strKind prog w).pyHash (k:=tx (ls.getD i [])) (strKind_is _ _ _ _) ?_))
  obtain ⟨ms,hi1,hi2,hi3⟩:=hs2
  refine SS.Ff (s:={ s2 with toks:=s2.toks+1 }) hi1 (by omega) fun h3 ms3 sb i3 m3 l3=>?_
  have x4:Of w h3 D ls (i+1):=by
   refine ⟨ms3,i3,fun x=>?_,by omega⟩
   have e:ls.take (i+1)=ls.take i++[ls.getD i []]:=by
    rw [List.take_add_one,List.getD_eq_getElem?_getD,List.getElem?_eq_getElem (by omega)]
    rfl
   rw [m3,hi2,e,List.map_append,List.mem_append,List.map_cons,List.map_nil,List.mem_singleton]
  refine wpAny_pure ⟨plainId_quiet PyProof.Rows.F.plain_set_update_loop _,ih (i+1) _ (by omega) hlt (W.frame _ s2 _ _ st2 (Nat.le_succ _) fun b hb o e=>(sb.2 b fun z=>hD (z▸hb)).trans e) x4 fun s5 m5 x5=>?_⟩
  refine hR s5 (Moved.trans W.gtrans ((mv.mono up).then_heap (Nat.le_succ _) fun b o hb e=>(sb.2 b fun z=>hb (z▸.head _)).trans e) m5) x5
variable {E:Value->Shared->Prop}{s:Shared}
theorem Et {l:Addr}{its:Array Value}{ls:List (List Nat)}{Q:Value->Shared->Prop}(hh:A.handled=none)(hl:s.heap.IsList l its)(hv:∀ i v,its[i]?=some v->∃ t,v=Value.str (tx (ls.getD i [])) t)(hn:its.size+1<scanBound)(hnl:its.size<=ls.length)
  (h:∀ (h':Heap) (tk:Nat),Of w h' s.heap.objs.size ls its.size->(∀ b o,s.heap.get? b=some o->h'.get? b=some o)->Q (.ref s.heap.objs.size) { s with heap:=h',toks:=tk }) :
  wpAny (model prog w) A (call (.type "set") [.ref l]) Q E s:=by
 obtain ⟨mc,mt,f0⟩:=F.called_set.mro
 have f1:=F.called_set.made;have f2:=F.called_set.sub;have f3:=F.called_set.notType;have f4:=F.called_set.canCreate;have f5:=F.typeCall_set_1 (.ref l)
 refine wpAny_call (codeAny_of_tree (show wpAny _ _ (callAny (.type "set") _) _ _ _ from wpAny_pure ⟨Code.quiet_builtin _ (by decide +kernel),codeAny_builtin F.entry_type_call ?_⟩))
 rw [Around.under_plain (weight_type_call_type "set" [.ref l] []) rfl]
 repeat (any_goals (first | wp_step | assumption))
 refine codeAny_mono (SS.Dl (.ref l) (E:=E) (Q₁:=fun ob s1=>ob = .ref s.heap.objs.size∧s1 = { s with heap:=s.heap.push (SS.cT w) }) ⟨rfl,rfl⟩) fun r s1 hr=>?_
 cases r with
 | error e=>exact hr
 | ok fl =>
  cases fl with
  | ret ob =>
   obtain ⟨rfl,rfl⟩:=hr
   generalize hob:SS.cT w=ob
   have hD:(s.heap.push ob).get? s.heap.objs.size=some ob:=Heap.get?_push_size _ (by rw [<- hob];rfl)
   have hT:Shared.TypeIs { s with heap:=s.heap.push ob } (.ref s.heap.objs.size) "set" := ⟨_,hD,by rw [<- hob];rfl⟩
   have f6:=F.called_set.init.lookup;have f7:=F.called_set.init.bind (.ref s.heap.objs.size)
   repeat (any_goals (first | wp_step | assumption))
   refine codeAny_mono (codeAny_call_builtin (R:=wants (fun r s2=>r = .none∧∃ h' tk,s2 = { s with heap:=h',toks:=tk }∧Of w h' s.heap.objs.size ls its.size∧∀ b o,s.heap.get? b=some o->h'.get? b=some o) E)
    F.called_set.init.plain F.entry_set_init (check_set_init_1 hT ?_)) fun r2 s2 hr2=>?_
   ·obtain ⟨⟨oc,od,odt,osl⟩,hol,hcl,nl,hdl⟩:=id hl
    simp only at hcl hdl
    subst hcl hdl
    have hol':(s.heap.push ob).get? l=some { cls:=.type "list",dict:=od,data:=.seq its nl,slots:=osl }:=Heap.get?_push_of_some _ hol
    have f8:=F.sub_list_set;have f9:=F.sub_list_frozenset
    have f10:(Value.type "list" == Value.type "dict")=false:=by decide
    have hl1:(s.heap.push ob).IsList l its:=⟨_,hol',rfl,nl,rfl⟩
    subst hob
    unfold Builtin.«set.__init__» noKeywords Builtin.Frozenset.updateFrom
    generalize hPI:pyIter=PI
    wp_walk
    subst hPI
    refine wpAny_pyIter_list hl1 ?_
    refine wpAny_bind (wpAny_runValue ?_)
    have hlt:l<s.heap.objs.size:=Heap.lt_size hol
    have hh3:A.in1.in1.in1.handled=none:=by simp [hh]
    have hsz:(s.heap.push (SS.cT w)).objs.size=s.heap.objs.size+1:=Heap.size_push _ _
    have hne:l≠(s.heap.push (SS.cT w)).objs.size:=by rw [hsz];exact Nat.ne_of_lt (Nat.lt_succ_of_lt hlt)
    have hfp:s.heap.objs.size∉[(s.heap.push (SS.cT w)).objs.size,l]:=by
     rw [hsz]
     intro z
     rcases List.mem_cons.mp z with e | e
     ·exact Nat.ne_of_lt (Nat.lt_succ_self _) e
     ·exact Nat.ne_of_gt hlt (List.mem_singleton.mp e)
    refine Po ((Walks.list hh3 _ l hne its).toS) (D:=s.heap.objs.size) hfp ls hv hn hnl (its.size-0) 0 _ (by omega) (Nat.zero_le _) ⟨⟨_,Heap.get?_push_size _ rfl,rfl,rfl⟩,hl1.push _⟩ ?_ fun s3 mv x3=>?_
    ·have hg:((s.heap.push (SS.cT w)).push { cls:=.type "list_iterator",data:=.fields #[.ref l,.int 0 0] }).get? s.heap.objs.size=some (SS.cT w):=Heap.get?_push_of_some _ hD
     exact ⟨[],(SS.Is.fresh s.heap).at fun o e=>Heap.get?_push_of_some _ e,fun x=>by simp,Nat.zero_le _⟩
    ·obtain ⟨h3,g3,d3,tk3,os3⟩:=s3
     obtain rfl:g3=s.gens:=mv.gens
     obtain rfl:d3=s.drawn:=mv.drawn
     obtain rfl:os3=s.os:=mv.os
     refine wpAny_pure (show wpAny _ _ (ret Value.none) _ _ _ from wpAny_pure ⟨rfl,h3,tk3,rfl,x3,fun c o e=>?_⟩)
     have hc:=Heap.lt_size e
     exact mv.heap c o (show c∉[s.heap.objs.size,(s.heap.push (SS.cT w)).objs.size] by
      rw [hsz]
      intro z
      rcases List.mem_cons.mp z with e | e
      ·exact Nat.ne_of_lt hc e
      ·exact Nat.ne_of_lt (Nat.lt_succ_of_lt hc) (List.mem_singleton.mp e)) (Heap.get?_push_of_some _ (Heap.get?_push_of_some _ e))
   ·cases r2 with
    | error e=>exact hr2
    | ok fl2 =>
     cases fl2 with
     | ret r =>
      obtain ⟨rfl,h3,tk,rfl,x3,k3⟩:=hr2
      repeat (any_goals (first | wp_step | assumption))
      exact h _ _ x3 k3
     | _=>exact hr2.elim
  | _=>exact hr.elim
end
end SE
def lW (w:World)(D:Addr)(ms:List (List Nat)):HO:=.ext fun h=>SS.Is w h D (ms.map tx)
theorem pX {ls:List (List Nat)}{x:Str}:x∈ls.map tx↔x.cps.toList∈ls:=by
 rw [List.mem_map]
 constructor
 ·rintro ⟨l,h,rfl⟩
  rw [cW]
  exact h
 ·intro h
  exact ⟨_,h,iR x⟩
theorem Jp {w:World}{h:Heap}{D:Addr}{ms ms':List Str}(x:SS.Is w h D ms)(p:ms.Perm ms'):SS.Is w h D ms':=by
 obtain ⟨o,es,ep,t,ho,hex,hd,hel,hnd,r⟩:=x
 exact ⟨o,es,ep,t,ho,hex,hd,⟨hel.1,hel.2.trans p⟩,p.nodup_iff.mp hnd,r⟩
theorem xC {w:World}{h:Heap}{D:Addr}{ms:List Str}(x:SS.Is w h D ms):ms.Nodup:=let ⟨_,_,_,_,_,_,_,_,n,_⟩:=x;n
theorem Ee {ls:List (List Nat)}(h:ls.Nodup):(ls.map tx).Nodup:=by
 refine List.pairwise_map.mpr (h.imp fun hne e=>hne (fD e))
section
variable {X:Cx}
theorem vA {pins:List (Addr×Obj)}{σ:St}{H:Hp}{s:Shared}{D:Addr}{ms:List (List Nat)}(I:Inv X pins σ H s)(h:H D=some (lW X.w D ms)):SS.Is X.w s.heap D (ms.map tx):=by
 obtain ⟨x,_⟩:=(show cY X.prog X.w H s.heap D (lW X.w D ms) from I.hok D _ h)
 exact x
theorem rY (hc:X.calm=true):eO X (.type "set") (fun xs H Q=>∃ (p:Addr) (ls:List (List Nat)),xs=[.ref p]∧SqL X.K H p (ls.map T)∧ls.length+1<4096∧∀ D,H D=none->Q (.ref D) (upd H D (lW X.w D (uniq ls)))):=by
 intro pins s σ H xs us Q I r h
 obtain ⟨p,ls,rfl,hq,hz,q⟩:=h
 obtain ⟨u,rfl,ru⟩:=fW r
 cases ru
 obtain ⟨its,rv,pl,_⟩:=I.list hq
 have hlen:=rv.length
 rw [List.length_map] at hlen
 refine SE.Et (I.ok.hd hc) pl.isList (ls:=ls) (fun i v e=>Eh rv (by simpa using e)) (by rw [List.size_toArray];unfold scanBound;omega) (by rw [List.size_toArray];omega) fun h' tk x k=>?_
 obtain ⟨ms,i1,i2,_⟩:=x
 have x:SS.Is X.w h' s.heap.objs.size ((uniq ls).map tx):=by
  refine Jp i1 ((List.perm_ext_iff_of_nodup (xC i1) (Ee (qJ ls))).mpr fun y=>?_)
  rw [i2,pX,pX,gJ,List.size_toArray,<- hlen,List.take_length]
 have hf:H s.heap.objs.size=none:=I.hok.fresh (Nat.le_refl _)
 refine ⟨.ref s.heap.objs.size,_,I.laid (t':=tk) k (Nat.le_refl _) (o:=lW X.w s.heap.objs.size (uniq ls)) ⟨x,x.there,fun h1 h2 x1 kk=>x1.at kk⟩,rfl,q _ hf⟩
theorem Mc:OpR X (binaryOp .BitOr) (fun x y H Q=>∃ (a b:Addr) (ls ms:List (List Nat)),x = .ref a∧y = .ref b∧a≠b∧H a=some (lW X.w a ls)∧H b=some (lW X.w b ms)∧ls≠[]∧ls.length+ms.length<=128 ∧
  ∀ (D:Addr) (qs:List (List Nat)),H D=none->qs.Nodup->qs.length<=ls.length+ms.length->(∀ z,z∈qs↔z∈ls∨z∈ms)->Q (.ref D) (upd H D (lW X.w D qs))):=by
 intro pins s σ H x y v u Q I rx ry h
 obtain ⟨a,b,ls,ms,rfl,rfl,hab,h1,h2,hne,hsz,q⟩:=h
 cases rx
 cases ry
 refine SS.Ot hab (vA I h1) (vA I h2) (fun z=>hne (List.map_eq_nil_iff.mp z)) (by rw [List.length_map,List.length_map];exact hsz) fun h' ms' kp i hm hl=>?_
 have em:(ms'.map fun x=>x.cps.toList).map tx=ms':=by
  rw [List.map_map]
  conv=>rhs;rw [<- List.map_id ms']
  exact List.map_congr_left fun x _=>iR x
 have hnd:(ms'.map fun x=>x.cps.toList).Nodup:=List.pairwise_map.mpr ((xC i).imp fun {a b} hne e=>hne ((iR a).symm.trans ((congrArg tx e).trans (iR b))))
 have x:SS.Is X.w h' s.heap.objs.size ((ms'.map fun x=>x.cps.toList).map tx):=by rw [em];exact i
 refine ⟨.ref s.heap.objs.size,_,I.laid (t':=s.toks) kp (Nat.le_refl _) (o:=lW X.w s.heap.objs.size (ms'.map fun x=>x.cps.toList)) ⟨x,x.there,fun h1 h2 x1 kk=>x1.at kk⟩,rfl,q _ _ (I.hok.fresh (Nat.le_refl _)) hnd (by rw [List.length_map];rw [List.length_map,List.length_map] at hl;exact hl) fun z=>?_⟩
 have e:=hm (tx z)
 rw [pX,pX,cW] at e
 rw [<- e,<- em,pX,cW,em]
end
end L2
namespace L2
open PySem PySem.Spec PyProof.Rows
set_option genInjectivity false in
structure lE (J:It)(H:Hp)(vs:List V):Prop where
 go:∀ i H',aM H H'->i<vs.length->J.go i H'
 yl:∀ i H' y H2,aM H H'->J.yld i H' y H2->H2=H'∧vs[i]?=some y
 st:∀ H',aM H H'->J.stop vs.length H'
theorem dY {K:PySem.W.Frag}{a:Addr}{H:Hp}{vs:List V}(h:SqL K H a vs):lE (Itl K a) H vs :=
 ⟨fun i H' s hi=>⟨vs,vs[i],s.seq h,List.getElem?_eq_getElem hi⟩,fun i H' y H2 s ⟨e1,e2⟩=>⟨e1,e2 vs (s.seq h)⟩,fun H' s=>⟨vs,s.seq h,Nat.le_refl _⟩⟩
theorem wW {K:PySem.W.Frag}{H H':Hp}{p:Addr}{xs:List V}(s:aM H H')(h:SqT K H p xs):SqT K H' p xs:=by
 rcases h with (h | ⟨q,h⟩) | h
 ·exact .inl (.inl (s _ _ h))
 ·exact .inl (.inr ⟨q,s _ _ h⟩)
 ·exact .inr h
theorem iE {K:PySem.W.Frag}{a:Addr}{H:Hp}{vs:List V}(h:SqT K H a vs):lE (Itt K a) H vs :=
 ⟨fun i H' s hi=>⟨vs,vs[i],wW s h,List.getElem?_eq_getElem hi⟩,fun i H' y H2 s ⟨e1,e2⟩=>⟨e1,e2 vs (wW s h)⟩,fun H' s=>⟨vs,wW s h,Nat.le_refl _⟩⟩
theorem gD {l:List Nat}{H:Hp}:lE (Itx l) H ((l.map fun c=>[c]).map T) :=
 ⟨fun i H' _ hi=>by (show i<l.length;simpa using hi),fun i H' y H2 _ ⟨e1,c,hc,e2⟩=>⟨e1,by rw [List.getElem?_map,List.getElem?_map,hc,e2];rfl⟩,fun H' _=>by show l.length<=_;simp⟩
theorem jG {J:It}{vs:List V}{te:TE}{σ:St}{H:Hp}{Q:VK}(f:V->V)(rd:lE J H vs)(hn:vs.length<=sizeLine)
  (he:∀ x H',x∈vs->aM H H'->∀ N:V->Hp->Prop,(∀ H'',aM H' H''->N (f x) H'')->te (some x::σ) H' N)
  (hq:∀ D H',H D=none->aM H H'->H' D=some (.lst (vs.map f))->Q (.ref D) H'):iX te σ Q J H:=by
 intro D hD
 refine ⟨fun i m ys H2=>m=vs.length-i∧i<=vs.length∧ys=(vs.take i).map f∧aM H H2∧H2 D=some (.lst ys),⟨vs.length,rfl,Nat.zero_le _,rfl,fun b o e=>?_,aC⟩,?_⟩
 ·rw [aH (aK e hD)]
  exact e
 ·rintro i m ys H2 ⟨rfl,hi,rfl,hs,hd⟩
  by_cases hlt:i<vs.length
  ·have hx:vs[i]?=some vs[i]:=List.getElem?_eq_getElem hlt
   refine .inr ⟨rd.go i H2 hs hlt,by rw [List.length_map,List.length_take];omega,fun v H'=>v=f vs[i]∧aM H2 H',fun v H' ⟨ev,hs'⟩=>⟨hs' D _ hd,vs.length-(i+1),by omega,rfl,hlt,?app,fun b o e=>?kp,aC⟩,fun y H' hy=>?stp⟩
   case app =>
    rw [ev,List.take_add_one,hx,List.map_append]
    rfl
   case kp =>
    rw [aH (aK e hD)]
    exact hs' b o (hs b o e)
   case stp =>
    obtain ⟨rfl,e2⟩:=rd.yl i H2 y H' hs hy
    have e4:y=vs[i]:=by rw [hx] at e2;exact (Option.some.inj e2).symm
    subst e4
    exact he _ _ (List.getElem_mem hlt) hs _ fun H'' h''=>⟨rfl,h''⟩
  ·have e:i=vs.length:=by omega
   subst e
   rw [List.take_length] at hd
   exact .inl ⟨rd.st H2 hs,hq D H2 hD hs hd⟩
theorem xW {J:It}{vs:List V}{tc:TT}{te:TE}{σ:St}{H:Hp}{Q:VK}(p:V->Bool)(f:V->V)(rd:lE J H vs)(hn:vs.length<=sizeLine)
  (ht:∀ x H',x∈vs->aM H H'->∀ N:Bool->Hp->Prop,(∀ H'',aM H' H''->N (p x) H'')->tc (some x::σ) H' N)
  (he:∀ x H',x∈vs->p x=true->aM H H'->∀ N:V->Hp->Prop,(∀ H'',aM H' H''->N (f x) H'')->te (some x::σ) H' N)
  (hq:∀ D H',H D=none->aM H H'->H' D=some (.lst ((vs.filter p).map f))->Q (.ref D) H'):gS tc te σ Q J H:=by
 intro D hD
 refine ⟨fun i m ys H2=>m=vs.length-i∧i<=vs.length∧ys=((vs.take i).filter p).map f∧aM H H2∧H2 D=some (.lst ys),⟨vs.length,rfl,Nat.zero_le _,rfl,fun b o e=>?_,aC⟩,?_⟩
 ·rw [aH (aK e hD)]
  exact e
 ·rintro i m ys H2 ⟨rfl,hi,rfl,hs,hd⟩
  by_cases hlt:i<vs.length
  ·have hx:vs[i]?=some vs[i]:=List.getElem?_eq_getElem hlt
   refine .inr ⟨rd.go i H2 hs hlt,by have:=oC p vs i;rw [List.length_map];omega,fun v H'=>v=f vs[i]∧p vs[i]=true∧aM H2 H',fun v H' ⟨ev,hp,hs'⟩=>⟨hs' D _ hd,vs.length-(i+1),by omega,rfl,hlt,?app,fun b o e=>?kp,aC⟩,
    fun H'=>p vs[i]=false∧aM H2 H',fun H' ⟨hp,hs'⟩=>⟨vs.length-(i+1),by omega,rfl,hlt,?skp,fun b o e=>hs' b o (hs b o e),hs' D _ hd⟩,fun y H' hy=>?stp⟩
   case app =>
    rw [ev,nS p vs i _ hx,hp,List.map_append]
    rfl
   case kp =>
    rw [aH (aK e hD)]
    exact hs' b o (hs b o e)
   case skp =>
    rw [nS p vs i _ hx,hp]
    simp
   case stp =>
    obtain ⟨rfl,e2⟩:=rd.yl i H2 y H' hs hy
    have e4:y=vs[i]:=by rw [hx] at e2;exact (Option.some.inj e2).symm
    subst e4
    refine ht _ _ (List.getElem_mem hlt) hs _ fun H'' h''=>?_
    by_cases hp:p vs[i]=true
    ·rw [if_pos hp]
     exact he _ _ (List.getElem_mem hlt) hp (hs.trans h'') _ fun H3 h3=>⟨rfl,hp,h''.trans h3⟩
    ·rw [if_neg hp]
     exact ⟨by simpa using hp,h''⟩
  ·have e:i=vs.length:=by omega
   subst e
   rw [List.take_length] at hd
   exact .inl ⟨rd.st H2 hs,hq D H2 hD hs hd⟩
def unT:V->List Nat
 | .str x=>x.cps.toList
 | _=>[]
theorem eF (l:List Nat):unT (T l)=l:=cW l
section
variable {X:Cx}
theorem xN (K:PySem.W.Frag)(h:X.K=K):OpR X (compareOp .In) (rIn K false):=by subst h;exact Cq
theorem rQ (K:PySem.W.Frag)(h:X.K=K):OpR X (compareOp .NotIn) (rIn K true):=by subst h;exact iQ
end
theorem gN {f:List Nat->V}(ls:List (List Nat)):(ls.map T).map (fun x=>f (unT x))=ls.map f:=by
 rw [List.map_map]
 exact List.map_congr_left fun l _=>by show f (unT (T l))=f l;rw [eF]
theorem iH {p:List Nat->Bool}:∀ ls:List (List Nat),(ls.map T).filter (fun x=>p (unT x))=(ls.filter p).map T
 | []=>rfl
 | l::ls=>by
  rw [List.map_cons,List.filter_cons,List.filter_cons,eF,iH ls]
  split <;> rfl
end L2
namespace SS
open PySem PyProof.Rows L2
section
variable {prog:Program}{w:World}{A:Around}{E:Value->Shared->Prop}{s:Shared}
theorem Fg {a:Addr}{Q:Bool->Shared->Prop}(hS:s.TypeIs (.ref a) "dict")(h:Q false s):wpAny (model prog w) A (Builtin.List.listLengthHint (.ref a)) Q E s:=by
 unfold Builtin.List.listLengthHint
 refine wpAny_bind (wpAny_specialOf hS F.slot_dict_len.lookup ?_)
 generalize hid:("dict.__len__" : String)=id0
 wp_delta
 rw [show splitId id0=some ("dict", "__len__") from by subst hid;decide +kernel]
 subst hid
 refine wpAny_bind (wpAny_isInstance (T := "dict") (b:=true) hS F.sub_dict_dict ?_)
 refine wpAny_ite_split (fun hab=>absurd hab (by decide)) (fun _=>?_)
 refine wpAny_ite_split (fun _=>?_) (fun hab=>absurd (by decide +kernel) hab)
 refine wpAny_bind (wpAny_typeOf hS ?_)
 exact wpAny_pure h
def Am (vs:List (Key×Value))(i:Nat)(v:Value):Prop:=∃ k x,vs[i]?=some (k,x)∧qM k v=true
theorem wF {h:Heap}{a:Addr}{vs:List (Key×Value)}{ep:Nat}{ob:Obj}(hD:Heap.DictAt (bO prog w) h a vs ep):Heap.DictAt (bO prog w) (h.push ob) a vs ep:=by
 obtain ⟨o,es,g,r⟩:=hD
 exact ⟨o,es,Heap.get?_push_of_some _ g,r⟩
theorem Dq {a:Addr}{vs:List (Key×Value)}{ep:Nat}(hD:Heap.DictAt (bO prog w) s.heap a vs ep):s.TypeIs (.ref a) "dict" := by
 obtain ⟨o,es,g,r⟩:=hD
 exact (show Heap.DictOf (bO prog w) s.heap a vs from ⟨o,es,ep,g,r⟩).typeIs
theorem yY {a:Addr}{vs:List (Key×Value)}{ep:Nat}{R:Result->Shared->Prop}(hh:A.handled=none)(hd:(a==sysModules)=false)(hD:Heap.DictAt (bO prog w) s.heap a vs ep)(hz:vs.length<=sizeLine)(S:Addr)(res:Value)(h1:S≠a)(hSl:s.heap.get? S=some { cls:=.type "list",data:=.seq #[] })
  (hR:∀ s' acc' c',(∀ b o,b≠S->s.heap.get? b=some o->s'.heap.get? b=some o)->s'.gens=s.gens->s'.os=s.os->s'.heap.get? S=some { cls:=.type "list",dict:=none,data:=.seq acc' c',slots:=#[] }->ItemsOf (Am vs) acc' vs.length->R (.ok (.ret res)) s') :
  wpAny (model prog w) A.in1 (Builtin.List.listExtendWith (.ref S) (.ref a) res)
   (fun fin s'=>match fin with | .done f=>R (.ok f) s' | .again c'=>c'.quiet=true∧codeAny (model prog w) A c' R s') (fun e s'=>R (.error e) s') s:=by
 unfold Builtin.List.listExtendWith
 refine wpAny_bind (wpAny_typeOf (Dq hD) ?_)
 have g1:Builtin.List.listSameRef (.ref S) (.ref a)=false:=by simp [Builtin.List.listSameRef,h1]
 have g2:(Value.type "dict" == Value.type "list")=false:=by decide
 have g3:(Value.type "dict" == Value.type "tuple")=false:=by decide
 simp only [g1,g2,g3,Bool.or_false,Bool.false_eq_true,if_false]
 refine wpAny_bind (wpAny_pyIter_dict hd hD ?_)
 have hlt:=Heap.lt_size hSl
 have hal:a<s.heap.objs.size:=by obtain ⟨o,es,g,r⟩:=hD;exact Heap.lt_size g
 generalize hio:({ cls:=Value.type "dict_keyiterator",data:=Data.fields #[Value.ref a,Value.int 0 0,Value.int (↑vs.length) 0,Value.int (↑ep) 0] }:Obj)=io
 have hIs:s.heap.objs.size<=s.heap.objs.size:=Nat.le_refl _
 have hSI:S≠s.heap.objs.size:=Nat.ne_of_lt hlt
 have haI:a≠s.heap.objs.size:=Nat.ne_of_lt hal
 have kp:∀ b o,s.heap.get? b=some o->(s.heap.push io).get? b=some o:=fun b o e=>Heap.get?_push_of_some _ e
 have W:=Walks.dictKeys (prog:=prog) (w:=w) (knd:=bO prog w) (A:=A.in1) hh s.heap.objs.size a haI vs ep
 have hD2:Heap.DictAt (bO prog w) (s.heap.push io) a vs ep:=wF hD
 have st0:(s.heap.push io).IsKeyIter s.heap.objs.size a 0 vs.length ep∧Heap.DictAt (bO prog w) (s.heap.push io) a vs ep:=by
  refine ⟨⟨io,Heap.get?_push_size _ (by rw [<- hio];rfl),?_,?_⟩,hD2⟩
  ·rw [<- hio]
  ·rw [<- hio];rfl
 have hSf:S∉[s.heap.objs.size,a]:=by simp [hSI,h1]
 refine wpAny_bind (wpAny_holding (Fg (s:={ s with heap:=s.heap.push io }) (Dq (s:={ s with heap:=s.heap.push io }) hD2) ?_))
 have WS:=W.toS
 have last:∀ (h0:Heap) (c0:Nat),(∀ b o,b≠S->(s.heap.push io).get? b=some o->h0.get? b=some o)->h0.get? S=some { cls:=.type "list",data:=.seq #[] c0 } ->
   wpAny (model prog w) A.in1 (again (.builtin "list.extend.loop" ⟨[.ref S,.ref s.heap.objs.size,res],[]⟩))
    (fun fin s'=>match fin with | .done f=>R (.ok f) s' | .again c'=>c'.quiet=true∧codeAny (model prog w) A c' R s') (fun e s'=>R (.error e) s') { s with heap:=h0 }:=fun h0 c0 hk0 hS0=>by
  refine wpAny_pure ⟨plainId_quiet F.plain_extend_loop _,codeAny_extend_loopS WS (by omega) S hSf res vs.length 0 _ #[] c0 rfl (Nat.zero_le _) ?_ hS0 (ItemsOf.nil _) fun s' acc' c' hm hS' hacc=>?_⟩
  ·exact W.frame 0 (s.heap.push io) h0 st0 fun b hb o e=>hk0 b o (fun z=>hSf (z▸hb)) e
  ·refine hR s' acc' c' (fun b o hb e=>?_) hm.gens hm.os hS' hacc
   by_cases hbI:b=s.heap.objs.size
   ·subst hbI
    exact absurd (Heap.lt_size e) (Nat.not_lt.mpr hIs)
   ·exact hm.heap b o (by simp [hb,hbI]) (hk0 b o hb (kp b o e))
 refine wpAny_ite_split (fun _=>?_) (fun hab=>absurd (by decide +kernel) hab)
 refine wpAny_bind (wpAny_rule ?_)
 have hSl2:(s.heap.push io).get? S=some { cls:=.type "list",data:=.seq #[] }:=kp S _ hSl
 refine wpAny_bind (m:=((do updateSeq S (fun z=>z.push .none);updateSeq S (fun z=>z.pop)):Sem Unit)) (wpAny_bind (wpAny_updateSeq (s:={ s with heap:=s.heap.push io }) hSl2 rfl ?_))
 have k1:=Heap.get?_update_self (Obj.mapSeq (fun z=>z.push .none)) hSl2 rfl
 refine wpAny_updateSeq k1 rfl ?_
 have k2:=Heap.get?_update_self (Obj.mapSeq (fun z=>z.pop)) k1 rfl
 exact last _ _ (fun b o hb e=>(Heap.get?_update_other _ _ (Ne.symm hb)).trans ((Heap.get?_update_other _ _ (Ne.symm hb)).trans e)) k2
end
end SS
namespace L2
open PySem PyProof.Rows
def tKs (ls:List (List Nat))(v:V):List (Key×V):=ls.map fun t=>(Sum.inr (tx t),v)
section
variable {X:Cx}
theorem Ai:∀ (ls:List Str) (us:List Value),us.length=ls.length->(∀ (i:Nat) (v:Value),us[i]?=some v->∃ x t,ls[i]?=some x∧v=Value.str x t)->StrsAre us ls
 | [],[],_,_=>.nil
 | [],_::_,h,_=>nomatch h
 | _::_,[],h,_=>nomatch h
 | y::ls,u::us,h,hp=>by
  obtain ⟨x,t,e1,e2⟩:=hp 0 u rfl
  have e3:y=x:=by simpa using e1
  rw [e2,<- e3]
  exact .cons _ _ (Ai ls us (by simpa using h) fun i v e=>by simpa using hp (i+1) v (by simpa using e))
theorem Ez:∀ {kvs:List (Key×V)} {vs:List (Key×Value)},KV kvs vs->vs.map (·.1)=kvs.map (·.1)
 | [],[],.nil=>rfl
 | _::_,_::_,.cons h r=>by rw [List.map_cons,List.map_cons,h.1,Ez r]
theorem Bs {ls:List (List Nat)}{kvs:List (Key×V)}{vs:List (Key×Value)}{acc:Array Value}(hk:kvs.map (·.1)=ls.map fun t=>Sum.inr (tx t))(r:KV kvs vs)(h:ItemsOf (SS.Am vs) acc vs.length):StrsAre acc.toList (ls.map tx):=by
 have e0:vs.map (·.1)=(ls.map tx).map Sum.inr:=by rw [Ez r,hk,List.map_map];rfl
 have el:vs.length=ls.length:=by have:=congrArg List.length e0;simpa using this
 refine Ai _ _ (by rw [Array.length_toList,h.1,el,List.length_map]) fun i v e=>?_
 obtain ⟨k,x,g1,g2⟩:=h.2 i v (by rw [<- Array.getElem?_toList];exact e)
 have g3:(vs.map (·.1))[i]?=some k:=by rw [List.getElem?_map,g1];rfl
 rw [e0,List.getElem?_map] at g3
 cases g4:(ls.map tx)[i]? with
 | none=>rw [g4] at g3;cases g3
 | some y =>
  rw [g4] at g3
  obtain rfl:Sum.inr y=k:=Option.some.inj g3
  rcases cL g2 with ⟨j,t,q1,_⟩ | ⟨z,t,q1,q2⟩
  ·cases q1
  ·cases q1
   exact ⟨y,t,rfl,q2⟩
end
end L2
namespace L2
open PySem PyProof.Rows PySem.Spec
namespace SE
section
variable {prog:Program}{w:World}{A:Around}{E:Value->Shared->Prop}{s:Shared}
end
end SE
section
variable {X:Cx}
end
end L2
namespace L2
open PySem PyProof.Rows PySem.Spec
section
variable {X:Cx}
end
end L2
namespace L2
open PySem PyProof.Rows PySem.Spec
section
variable {X:Cx}
end
end L2
namespace L2
open PySem PyProof.Rows PySem.Spec
section
variable {X:Cx}{pins:List (Addr×Obj)}{σ:List (Option V)}{H H':Hp}{s:Shared}{h':Heap}
theorem Inv.turnedL {t':Nat}{ch:List Addr}(I:Inv X pins σ H s)(k:∀ b o,b∉ch->s.heap.get? b=some o->h'.get? b=some o)(hf:∀ b∈ch,lK X pins H b):Inv X pins σ H { s with heap:=h',toks:=t' }:=by
 have nit:∀ b u,H b=some u->b∉ch:=fun b u e z=>by rw [(hf b z).1] at e;cases e
 refine I.step (g':=s.gens) (d':=s.drawn) (ch:=ch) (fun b hb=>?_) (fun b o _ _ hc e _=>k b o hc e) (fun b o _ _ hc e _=>⟨o.slots,k b o hc e⟩) (fun _ _ _ _ n=>n)
  (fun b o hc e=>⟨o,k b o hc e⟩) (fun _ _ e=>e) (fun _ _ _ e=>e) (fun b ps e=>⟨#[],by rw [e];simp⟩) (fun m hm=>?_) (fun b u e=>?_) I.bare
 ·obtain ⟨f0,f1,f2,f3,f4,f5⟩:=hf b hb
  exact ⟨f3,f1,f4,f5⟩
 ·obtain ⟨o,es,ep,ho,r⟩:=hm
  exact ⟨o,es,ep,k _ o (fun z=>(hf _ z).2.1 rfl) ho,r⟩
 ·refine (I.hok b u e).stay (fun c v hc q=>k c v ?_ q) (fun _ q=>q) fun _ _ q=>q
  rcases hc with z | z
  ·rw [z];exact nit b u e
  ·exact nit c _ z
end
def Itz (K:PySem.W.Frag)(a b:Addr):It :=
 ⟨fun i H=>∃ xs ys x y,SqL K H a xs∧SqL K H b ys∧xs[i]?=some x∧ys[i]?=some y,
  fun i H x H'=>∃ (T:Addr) (u v:V),x = .ref T∧H T=none∧H'=upd H T (.tup [u,v])∧(∀ xs,SqL K H a xs->xs[i]?=some u)∧∀ ys,SqL K H b ys->ys[i]?=some v,
  fun i H=>∃ xs ys,SqL K H a xs∧SqL K H b ys∧(xs.length<=i∨ys.length<=i)⟩
theorem Du {P:Program}{w:World}{K:PySem.W.Frag}{elts:List Expr}{x1}{pos:Pos}{a b z TI TO i1 i2:Addr}(D:ZipApart z TI TO i1 i2 a b) :
  tY P w K (.Tuple elts x1 pos) (Itz K a b) [z,TI,TO,i1,i2] z (fun i h=>IsZip h z TI TO .none∧IsPair h TI (.ref i1) (.ref i2)∧(∃ u v,IsPair h TO u v)∧h.IsListIter i1 a i∧h.IsListIter i2 b i) where
 mem:=by simp
 obj:=fun i h st c hc=>by
  obtain ⟨h1,h2,⟨u,v,h3⟩,⟨o4,e4,c4,d4⟩,⟨o5,e5,c5,d5⟩⟩:=st
  simp only [List.mem_cons,List.not_mem_nil,or_false] at hc
  rcases hc with rfl | rfl | rfl | rfl | rfl
  ·exact ⟨_,h1,fun v z=>by cases z⟩
  ·exact ⟨_,h2,fun v z=>by cases z⟩
  ·exact ⟨_,h3,fun v z=>by cases z⟩
  ·exact ⟨_,e4,fun v z=>by rw [d4] at z;cases z⟩
  ·exact ⟨_,e5,fun v z=>by rw [d5] at z;cases z⟩
 keep:=fun i h h' st k=>by
  obtain ⟨h1,h2,⟨u,v,h3⟩,h4,h5⟩:=st
  exact ⟨k z (by simp) _ h1,k TI (by simp) _ h2,⟨u,v,k TO (by simp) _ h3⟩,h4.at fun o e=>k i1 (by simp) o e,h5.at fun o e=>k i2 (by simp) o e⟩
 item:=by
  intro X hP hw hK hc i pins s σ H E I hf st hg
  subst hP hw hK
  obtain ⟨xs,ys,x,y,hq1,hq2,hx,hy⟩:=hg
  obtain ⟨its,rv,p,hz⟩:=I.list hq1
  obtain ⟨its2,rv2,p2,hz2⟩:=I.list hq2
  obtain ⟨u,hu,ru⟩:=rv.get hx
  obtain ⟨v,hv,rv'⟩:=rv2.get hy
  obtain ⟨h1,h2,⟨c1,c2,h3⟩,h4,h5⟩:=st
  refine wpAny_pyNext_zip_item D h1 h2 h3 h4 h5 p.isList p2.isList (x:=u) (y:=v) (by simpa using hu) (by simpa using hv) fun h' z1 z2 z3 z4 z5 z6 z7=>?_
  refine ⟨_,rfl,wpAny_letOwnedTupleGo_zip (s:={ s with heap:=h' }) z1 fun h'' y1 y2=>?_⟩
  have hT:H s.heap.objs.size=none:=I.hok.fresh (Nat.le_refl _)
  have I1:Inv X pins σ (upd H s.heap.objs.size (.tup [x,y])) { s with heap:=s.heap.push { cls:=.type "tuple",data:=.seq #[u,v] },toks:=s.toks } :=
   I.laid (t':=s.toks) (fun b u e=>Heap.get?_push_of_some _ e) (Nat.le_refl _) ⟨(by show 2<=sizeLine;rw [sizeLine_eq];decide),[u,v],.cons ru (.cons rv' .nil),⟨_,Heap.get?_push_size _ rfl,rfl,_,rfl⟩⟩
  have nf:∀ c∈[z,TI,TO,i1,i2],c≠s.heap.objs.size:=fun c hc e=>by
   have lt:∃ o,s.heap.get? c=some o:=by
    obtain ⟨o4,e4,_⟩:=id h4
    obtain ⟨o5,e5,_⟩:=id h5
    simp only [List.mem_cons,List.not_mem_nil,or_false] at hc
    rcases hc with rfl | rfl | rfl | rfl | rfl
    ·exact ⟨_,h1⟩
    ·exact ⟨_,h2⟩
    ·exact ⟨_,h3⟩
    ·exact ⟨_,e4⟩
    ·exact ⟨_,e5⟩
   obtain ⟨o,ho⟩:=lt
   have:=Heap.lt_size ho
   rw [e] at this
   exact Nat.lt_irrefl _ this
  have hf1:∀ c∈[z,TI,TO,i1,i2],lK X pins (upd H s.heap.objs.size (.tup [x,y])) c:=fun c hc=>by
   obtain ⟨f0,f⟩:=hf c hc
   exact ⟨by rw [aH (nf c hc)];exact f0,f⟩
  have I2:Inv X pins σ (upd H s.heap.objs.size (.tup [x,y])) { s with heap:=h'',toks:=s.toks } :=
   Inv.turnedL (s:={ s with heap:=s.heap.push { cls:=.type "tuple",data:=.seq #[u,v] },toks:=s.toks }) (t':=s.toks) (ch:=[z,TI,TO,i1,i2]) I1 (fun b o hb e=>by
    simp only [List.mem_cons,List.not_mem_nil,or_false,not_or] at hb
    obtain ⟨b1,b2,b3,b4,b5⟩:=hb
    refine (y2.2 b b1).trans ?_
    rcases Heap.get?_push_cases e with ⟨rfl,rfl⟩ | e
    ·exact z5
    ·exact z7 b o b1 b3 b4 b5 e) hf1
  refine ⟨.ref s.heap.objs.size,_,I2,rfl,⟨s.heap.objs.size,x,y,rfl,hT,rfl,fun zs hzs=>by rw [I.list_inj hzs hq1];exact hx,fun zs hzs=>by rw [I.list_inj hzs hq2];exact hy⟩,⟨y1,?_,⟨u,v,?_⟩,?_,?_⟩,fun c hc=>(hf1 c hc).1⟩
  ·exact (y2.2 TI D.TIz).trans (z7 TI _ D.TIz D.TITO D.TIi1 D.TIi2 h2)
  ·exact (y2.2 TO D.TOz).trans z2
  ·exact z3.at fun o e=>(y2.2 i1 D.i1z).trans e
  ·exact z4.at fun o e=>(y2.2 i2 D.i2z).trans e
 done:=by
  intro X hP hw hK hc i pins s σ H E I hf st hg
  subst hP hw hK
  obtain ⟨xs,ys,hq1,hq2,hl⟩:=hg
  obtain ⟨its,rv,p,hz⟩:=I.list hq1
  obtain ⟨its2,rv2,p2,hz2⟩:=I.list hq2
  obtain ⟨h1,h2,⟨c1,c2,h3⟩,h4,h5⟩:=st
  have l1:=rv.length
  have l2:=rv2.length
  refine wpAny_pyNext_zip_end (I.ok.hd hc) D h1 h2 h3 h4 h5 p.isList p2.isList ?_ fun h' kk=>⟨rfl,?_⟩
  ·rcases hl with g | g
   ·exact .inl (by simp;omega)
   ·exact .inr (by simp;omega)
  ·exact I.turnedL (t':=s.toks) (ch:=[z,TI,TO,i1,i2]) (fun b o hb e=>by
    simp only [List.mem_cons,List.not_mem_nil,or_false,not_or] at hb
    obtain ⟨b1,b2,b3,b4,b5⟩:=hb
    exact kk b o b1 b3 b4 b5 e) hf
 self:=fun _ _ _ _ _ st h=>wpAny_pyIter_zip st.1 h
section
variable {X:Cx}
def Rh (K:PySem.W.Frag)(ta:TA):TI:=fun σ H R=>ta σ H fun xs H1=>∃ a b:Addr,xs=[.ref a,.ref b]∧(∃ us,SqL K H1 a us)∧(∃ vs,SqL K H1 b vs)∧R (Itz K a b) H1
theorem Mw {a b:Expr}{ta:TA}{p pos pos':Pos}{elts:List Expr}{x1}(hg:Gl X "zip")(hm:X.mg "zip" = none)(ha:PA X [a,b] ta)(hs:starEach [a,b] X.env=[(false,eval a X.env),(false,eval b X.env)]:=by rfl)(hs2:starEach [b] X.env=[(false,eval b X.env)]:=by rfl) :
  PI X (.Tuple elts x1 pos') (.Call (.Name "zip" p) [a,b] [] pos) (Rh X.K ta):=by
 intro pins s σ H R I h
 refine Call_ (qH I hg hm boot_zip (PyProof.Rows.callWith_type1 (thn (ha pos pins s σ H _ I h) fun us s1 ⟨vs,H1,I1,r1,q1⟩=>?_) (by rw [hs,hs2]) (by rw [hs2];rfl)))
 obtain ⟨l1,l2,e,⟨us1,hq1⟩,⟨us2,hq2⟩,q⟩:=q1
 subst e
 cases r1 with
 | cons r rr =>
  cases rr with
  | cons r' rr =>
   cases rr
   cases r
   cases r'
   obtain ⟨its,rv,p,hz⟩:=I1.list hq1
   obtain ⟨its2,rv2,p2,hz2⟩:=I1.list hq2
   obtain ⟨o1,ho1,_⟩:=id p.isList
   obtain ⟨o2,ho2,_⟩:=id p2.isList
   refine call_zip_2 p.isList p2.isList fun h' z1 z2 z3 z4 z5 z6 z7=>?_
   refine wpAny_pyIter_zip (s:={ s1 with heap:=h' }) z1 ?_
   have fr:∀ c,s1.heap.objs.size<=c->lK X pins H1 c:=fun c hc=>I1.fpOk hc (I1.hok.fresh hc)
   refine ⟨s1.heap.objs.size+4,[s1.heap.objs.size+4,s1.heap.objs.size+2,s1.heap.objs.size+3,s1.heap.objs.size,s1.heap.objs.size+1],_,_,H1,rfl,I1.kept (t':=s1.toks) z7,Du (zipApart_new (Heap.lt_size ho1) (Heap.lt_size ho2)),⟨z1,z2,⟨_,_,z3⟩,z4,z5⟩,fun c hc=>fr c ?_,q⟩
   simp only [List.mem_cons,List.not_mem_nil,or_false] at hc
   rcases hc with rfl | rfl | rfl | rfl | rfl
   ·exact Nat.le_add_right _ _
   ·exact Nat.le_add_right _ _
   ·exact Nat.le_add_right _ _
   ·exact Nat.le_refl _
   ·exact Nat.le_add_right _ _
end
end L2
namespace L2
open PySem PyProof.Rows PySem.Spec
end L2
namespace L2
open PySem PyProof.Rows PySem.Spec
namespace ZS
section
variable {prog:Program}{w:World}{A:Around}{E:Value->Shared->Prop}{s:Shared}
end
end ZS
section
variable {X:Cx}
end
end L2
namespace L2
open PySem PyProof.Rows PySem.Spec
section
variable {X:Cx}
end
end L2
namespace L2
open PySem PyProof.Rows PySem.Spec
theorem on1 {α:Type}{C:List α->Prop}{us:List α}(h:us.length=1)(k:∀ a,C [a]):C us:=match us,h with | [a],_=>k a
theorem on2 {α:Type}{C:List α->Prop}{us:List α}(h:us.length=2)(k:∀ a b,C [a,b]):C us:=match us,h with | [a,b],_=>k a b
theorem on3 {α:Type}{C:List α->Prop}{us:List α}(h:us.length=3)(k:∀ a b c,C [a,b,c]):C us:=match us,h with | [a,b,c],_=>k a b c
theorem on4 {α:Type}{C:List α->Prop}{us:List α}(h:us.length=4)(k:∀ a b c d,C [a,b,c,d]):C us:=match us,h with | [a,b,c,d],_=>k a b c d
theorem on5 {α:Type}{C:List α->Prop}{us:List α}(h:us.length=5)(k:∀ a b c d e,C [a,b,c,d,e]):C us:=match us,h with | [a,b,c,d,e],_=>k a b c d e
section
variable {X:Cx}
theorem Hc {st:List Stmt}:PSs X st (fun _ _ _=>False):=fun _ _ _ _ _ _ h=>h.elim
theorem Lm {st:List Stmt}{t t':TS}(h:PSs X st t)(hw:∀ (D:kT) (σ:St) (H:Hp),t' D σ H->t D σ H):PSs X st t':=fun pins s σ H D I q=>h pins s σ H D I (hw D σ H q)
end
end L2
namespace L2
open PySem PySem.Spec PyProof.Rows
set_option genInjectivity false in
structure uV (N N':List Str)(sc scope:Scope)(x y2:Str):Prop where
 kind:scope.kind = .function
 cell:∀ y∈scope.names,y.2≠.cell
 names:∀ y∈scope.names,y.2 = .local->scope.names.lookup y.1=some .local
 var:scope.names.lookup x=some .local
 var2:scope.names.lookup y2=some .local
 ok:∀ y∈scope.names,y.2 = .free->sc.names.lookup y.1=some .cell∨sc.names.lookup y.1=some .free
 hd:N'[0]?=some x
 hd2:N'[1]?=some y2
 len:N'.length=N.length+2
 sub:∀ i,i<N.length->N'[i+2]?=N[i]?∨N'[i+2]?=some ("" : Str)
 noe:scope.names.lookup ("" : Str)=none
 nol:∀ y∈N'.tail.tail,scope.names.lookup y≠some .local
 nd:N'.Nodup
def vI (K:PySem.W.Frag)(te:TE)(σ:St)(Q:VK)(J:It)(H1:Hp):Prop:=∀ D,H1 D=none->∃ W:Nat->Nat->List V->Hp->Prop,(∃ m,W 0 m [] (upd H1 D (.lst [])))∧∀ i m ys H2,W i m ys H2 ->
 (J.stop i H2∧Q (.ref D) H2)∨(J.go i H2∧ys.length<sizeLine∧∃ N:V->Hp->Prop,(∀ v H',N v H'->H' D=some (.lst ys)∧∃ m',m'<m∧W (i+1) m' (ys++[v]) (upd H' D (.lst (ys++[v])))) ∧
  ∀ y H',J.yld i H2 y H'->∃ (a:Addr) (u v:V),y = .ref a∧SqT K H' a [u,v]∧te (some u::some v::σ) H' N)
def Lj (K:PySem.W.Frag)(wi:TI)(te:TE):TE:=fun σ H Q=>wi σ H (vI K te σ Q)
section
variable {X:Cx}{N':List Str}{scope:Scope}{x y2:Str}{px py py2 pt:Pos}{elt iter:Expr}{pos:Pos}{te:TE}{wi:TI}
theorem yG (S:uV X.N N' X.env.scope scope x y2)(hc:X.calm=true)(he:∀ cl C s H fp,PE (bV X N' scope cl C s H fp) elt te)
  {pins:List (Addr×Obj)} {σ:St} {H:Hp} {s:Shared} {Q:VK} {E:Value->Shared->Prop} {RR:Value->Addr->Result->Shared->Prop} {it:Addr} {fp:List Addr} {tn:Nat->Heap->Prop} {J:It}
  (I:Inv X pins σ H s) (T:tY X.prog X.w X.K (.Tuple [.Name x px,.Name y2 py] 0 pt) J fp it tn) (st:tn 0 s.heap) (f2:∀ b∈fp,lK X pins H b)
  (hw:vI X.K te σ Q J H)
  (hRR:∀ D C s' H',Inv X pins σ H' s'->(∃ m,s'.heap.Ns C m)->C≠X.env.locals->(∀ y c,X.env.cells.lookup y=some c->c≠C)->H' C=none->X.s₀.heap.objs.size<=C->(∀ p∈X.pn++pins,p.1≠C)->Q (.ref D) H'->RR (.ref D) C (.ok .next) s') :
  ∃ cl,closureFor scope X.env=pure cl∧wpAny (model X.prog X.w) X.A (newList []) (fun acc s₃=>wpAny (model X.prog X.w) X.A (newFunctionEnv scope X.env.globals cl [] X.env.qual none .none (some X.env)) (fun cenv s₄ =>
   codeAny (model X.prog X.w) X.A (.compStart (.ListComp elt [⟨.Tuple [.Name x px,.Name y2 py] 0 pt,iter,[],0⟩] scope pos) 0 (.ref it) acc { cenv with scope:=relabel scope X.env }) (RR acc cenv.locals) s₄) E s₃) E s:=by
 have hfree:∀ z∈scope.names,z.2 = .free->∃ c,X.env.cells.lookup z.1=some c:=fun z hz hk=>by
  rcases S.ok z hz hk with q | q
  ·exact I.ok.has z.1 (.inl q)
  ·exact I.ok.has z.1 (.inr q)
 refine ⟨_,gU hfree,?_⟩
 have clS:∀ y c,(cV X.env.cells scope.names []).lookup y=some c->X.env.cells.lookup y=some c:=fun y c=>lM scope.names [] hfree fun q=>by cases q
 generalize hcl:cV X.env.cells scope.names []=cl at clS
 have clH:∀ y,scope.names.lookup y=some .free->∃ c,cl.lookup y=some c:=fun y hy=>by
  rw [<- hcl]
  exact oZ scope.names [] (dX hy)
 refine wpAny_newObj_type (wpAny_newFunctionEnv S.cell (by intro y hy;simp at hy) (fun h₁ hns₁ hsb₁=>?_) S.kind)
 have I3:Inv X pins σ (upd H s.heap.objs.size (.lst [])) { s with heap:=s.heap.push { cls:=.type "list",data:=.seq ([]:List Value).toArray } }:=I.lnew (t':=s.toks) .nil (Nat.zero_le _)
 obtain ⟨W,⟨m0,w0⟩,turn⟩:=hw s.heap.objs.size I.fresh
 dsimp only at hns₁ hsb₁ ⊢
 generalize hs3:({ s with heap:=s.heap.push { cls:=.type "list",data:=.seq ([]:List Value).toArray } }:Shared)=s3 at I3
 have hh3:s3.heap=s.heap.push { cls:=.type "list",data:=.seq ([]:List Value).toArray }:=by rw [<- hs3]
 have hsz3:s3.heap.objs.size=s.heap.objs.size+1:=by rw [hh3,Heap.size_push]
 rw [<- hh3] at hns₁ hsb₁ ⊢
 have old:∀ b o,s3.heap.get? b=some o->h₁.get? b=some o:=fun b o e=>hsb₁.extBut b o (by have:=Heap.lt_size e;exact Nat.ne_of_lt this) (Heap.get?_push_of_some _ e)
 have old0:∀ b o,s.heap.get? b=some o->h₁.get? b=some o:=fun b o e=>old b o (by rw [hh3];exact Heap.get?_push_of_some _ e)
 have CneL:s3.heap.objs.size≠X.env.locals:=Nat.ne_of_gt I3.lt
 have CneC:∀ y c,X.env.cells.lookup y=some c->c≠s3.heap.objs.size:=fun y c e z=>by
  obtain ⟨v,q⟩:=I3.cell y c e
  have:=q.lt
  rw [z] at this
  exact absurd this (Nat.lt_irrefl _)
 have CneP:∀ p∈X.pn++pins,p.1≠s3.heap.objs.size:=fun p hp z=>by
  have:=Heap.lt_size (I3.pin p hp).1
  rw [z] at this
  exact absurd this (Nat.lt_irrefl _)
 have CfreeH:∀ b o,s3.heap.get? b=some o->b<s3.heap.objs.size:=fun b o e=>by have:=Heap.lt_size e;exact this
 have fpLt:∀ b∈fp,b<s3.heap.objs.size:=fun b hb=>by
  obtain ⟨o,e,_⟩:=T.obj 0 s.heap st b hb
  rw [hsz3]
  exact Nat.lt_succ_of_lt (Heap.lt_size e)
 have fpD:∀ b∈fp,b≠s.heap.objs.size:=fun b hb=>by
  obtain ⟨o,e,_⟩:=T.obj 0 s.heap st b hb
  exact Nat.ne_of_lt (Heap.lt_size e)
 have ok':(bV X N' scope cl s3.heap.objs.size s3 (upd H s.heap.objs.size (.lst [])) fp).Ok:=by
  refine ⟨I3.ok.mod,?_,I3.ok.glob,I3.ok.blt,Nat.le_refl _,fun y z c h1 h2=>I3.ok.inj y z c (clS y c h1) (clS z c h2),fun y hy=>?_,fun y c hf=>(by cases hf),I3.ok.hd,I3.ok.frames,.inl rfl,fun b hb=>⟨Nat.ne_of_lt (fpLt b hb),fun y c e=>(f2 b hb).2.2.2.2.1 y c (clS y c e)⟩,
   fun b o e=>I3.bs b o e,Nat.le_trans I3.ok.bsz I3.sz,fun b o e hb=>?_,fun b hb z=>?_,I3.stack,I3.stkFree⟩
  ·show (relabel scope X.env).kind = .function
   exact S.kind
  ·have hy':(relabel scope X.env).names.lookup y=some .cell∨(relabel scope X.env).names.lookup y=some .free:=hy
   rw [cF] at hy'
   cases q:scope.names.lookup y with
   | none=>rw [q] at hy';rcases hy' with z | z <;> cases z
   | some k =>
     have hm:=dX q
     cases k with
     | free=>exact clH y q
     | cell=>exact absurd rfl (S.cell _ hm)
     | «local» => rw [q] at hy';rcases hy' with z | z <;> simp at z
     | globalExplicit=>rw [q] at hy';rcases hy' with z | z <;> simp at z
     | globalImplicit=>rw [q] at hy';rcases hy' with z | z <;> simp at z
  ·rcases (f2 b hb).2.2.2.1 with z | z
   · exact I.ok.noex b o e z
   · exact absurd (Nat.lt_of_lt_of_le (Heap.lt_size e) (Nat.le_trans I.ok.bsz z)) (Nat.lt_irrefl _)
  ·rcases List.mem_cons.mp (I3.stkSub b z) with q | q
   · exact (f2 b hb).2.1 q
   · exact (f2 b hb).2.2.1 q
 have fpOk':∀ {H':Hp},(∀ b∈fp,H' b=none)->∀ b∈fp,lK (bV X N' scope cl s3.heap.objs.size s3 (upd H s.heap.objs.size (.lst [])) fp) pins H' b:=fun hn b hb =>
  ⟨hn b hb,Nat.ne_of_lt (fpLt b hb),fun z=>by
   rcases List.mem_cons.mp (I3.stkSub b z) with q | q
   · exact (f2 b hb).2.1 q
   · exact (f2 b hb).2.2.1 q,.inl hb,fun y c e=>(f2 b hb).2.2.2.2.1 y c (clS y c e),(f2 b hb).2.2.2.2.2⟩
 have I4:Inv (bV X N' scope cl s3.heap.objs.size s3 (upd H s.heap.objs.size (.lst [])) fp) pins (none::none::σ) (upd H s.heap.objs.size (.lst [])) { s3 with heap:=h₁,toks:=s3.toks+([]:List (Str×Value)).length }:=by
  refine ⟨ok',rfl,I3.bare,Un.kept old,⟨_,hns₁,fun i y v e1 e2 vis=>?_⟩,fun y c e=>?_,?_,fun y c e=>I3.freeC y c (clS y c e),fun p hp=>?_,I3.hok.kept old,?_⟩
  ·cases i with
   | zero=>cases e2
   | succ i =>
    cases i with
    | zero=>cases e2
    | succ i =>
     have e2':σ[i]?=some (some v):=by simpa using e2
     have hi:i<X.N.length:=by rw [<- I3.len];exact (List.getElem?_eq_some_iff.mp e2').1
     have vis':(relabel scope X.env).names.lookup y=some .local∨(relabel scope X.env).names.lookup y=some .cell∨(relabel scope X.env).names.lookup y=some .free:=vis
     have e1':N'[i+2]?=some y:=e1
     rcases S.sub i hi with q | q
     ·rw [e1'] at q
      have hy:X.N[i]?=some y:=q.symm
      have hmem:y∈N'.tail.tail:=by
       rw [List.mem_iff_getElem?]
       exact ⟨i,by rw [List.getElem?_tail,List.getElem?_tail];exact e1'⟩
      have hfr:scope.names.lookup y=some .free:=by
       rw [cF] at vis'
       cases q2:scope.names.lookup y with
       | none=>rw [q2] at vis';rcases vis' with z | z | z <;> cases z
       | some k =>
        cases k with
        | free=>rfl
        | cell=>exact absurd rfl (S.cell _ (dX q2))
        | «local» => exact absurd q2 (S.nol y hmem)
        | globalExplicit=>rw [q2] at vis';rcases vis' with z | z | z <;> simp at z
        | globalImplicit=>rw [q2] at vis';rcases vis' with z | z | z <;> simp at z
      have hok:=S.ok (y,.free) (dX hfr) rfl
      obtain ⟨m,hn,hl⟩:=I3.loc
      have visX:Vis X.env.scope y:=by
       rcases hok with z | z
       ·exact .inr (.inl z)
       ·exact .inr (.inr z)
      obtain ⟨u,r,l⟩:=hl i y v hy e2' visX
      refine ⟨u,r,.inr ⟨?_,?_⟩⟩
      ·show (relabel scope X.env).names.lookup y=some .cell∨(relabel scope X.env).names.lookup y=some .free
       rw [cF,hfr,Option.map_some]
       by_cases hcnd:(NameKind.free==NameKind.free&&X.env.scope.kind == .function&&X.env.kindOf y==some .cell)=true
       ·left
        rw [if_pos hcnd]
       ·right
        rw [if_neg hcnd]
      ·rcases l with ⟨k,_⟩ | ⟨k,c,e,z⟩
       ·have k':X.env.scope.names.lookup y=some .local:=k
        have hok':X.env.scope.names.lookup y=some .cell∨X.env.scope.names.lookup y=some .free:=hok
        rw [k'] at hok'
        rcases hok' with z | z <;> cases z
       ·obtain ⟨c',e'⟩:=clH y hfr
        have e3:=clS y c' e'
        rw [e] at e3
        cases e3
        obtain ⟨o,ho,hd⟩:=z
        exact ⟨c,e',o,old c o ho,hd⟩
     ·rw [e1'] at q
      cases q
      rw [cF,S.noe] at vis'
      rcases vis' with z | z | z <;> cases z
  ·obtain ⟨v,o,ho,hd⟩:=I3.cell y c (clS y c e)
   exact ⟨v,o,old c o ho,hd⟩
  ·show upd H s.heap.objs.size (.lst []) s3.heap.objs.size=none
   exact I3.hok.fresh (Nat.le_refl _)
  ·obtain ⟨e,n,ne,nf,d⟩:=I3.pin p hp
   refine ⟨old _ _ e,n,CneP p hp,fun z=>?_,d⟩
   rcases List.mem_cons.mp (I3.stkSub p.1 z) with q | q
   · exact ne q
   · exact nf q
  ·show (none::none::σ).length=N'.length
   rw [S.len,List.length_cons,List.length_cons,I3.len]
 have st4:tn 0 h₁:=T.keep 0 s.heap h₁ st fun b _ o e=>old0 b o e
 have loop:∀ s₄:Shared,s₄ = { s3 with heap:=h₁,toks:=s3.toks+([]:List (Str×Value)).length } ->
   codeAny (model X.prog X.w) X.A (.compLoop (.ListComp elt [⟨.Tuple [.Name x px,.Name y2 py] 0 pt,iter,[],0⟩] scope pos) 0 (.ref it) (.ref s.heap.objs.size) (compEnvC scope cl s3.heap.objs.size X.env)) (RR (.ref s.heap.objs.size) s3.heap.objs.size) s₄:=by
  rintro s₄ rfl
  refine jP (fun n s'=>∃ i v0 v1 ys H',Inv (bV X N' scope cl s3.heap.objs.size s3 (upd H s.heap.objs.size (.lst [])) fp) pins (v0::v1::σ) H' s'∧tn i s'.heap∧(∀ b∈fp,H' b=none)∧W i n ys H') ?_ m0
   ⟨0,none,none,[],_,I4,st4,fun b hb=>by rw [aH (fpD b hb)];exact (f2 b hb).1,w0⟩
  rintro n s5 ⟨i,v0,v1,ys,H5,I5,st5,fr5,w5⟩
  rcases turn i n ys H5 w5 with ⟨stop,qn⟩ | ⟨go,hz,N,hN,step⟩
  ·refine thn (T.done (bV X N' scope cl s3.heap.objs.size s3 (upd H s.heap.objs.size (.lst [])) fp) rfl rfl rfl hc i pins s5 (v0::v1::σ) H5 (fun _ _=>False) I5 (fpOk' fr5) st5 stop) fun r s6 ⟨hr,I6⟩=>?_
   subst hr
   have hch:∀ b∈fp,(b∈X.ex∨X.s₀.heap.objs.size<=b)∧b≠X.env.locals∧(∀ x c,X.env.cells.lookup x=some c->c≠b)∧∀ p∈X.pn++pins,p.1≠b:=fun b hb =>
     ⟨(f2 b hb).2.2.2.1,(f2 b hb).2.1,(f2 b hb).2.2.2.2.1,(f2 b hb).2.2.2.2.2⟩
   have I7:Inv X pins σ H5 s6:=I3.call' (ch:=fp) I6.os I6.base I6.hok I6.bare hch
   obtain ⟨m,hm,_⟩:=I6.loc
   exact hRR s.heap.objs.size s3.heap.objs.size s6 H5 I7 ⟨m,hm⟩ CneL CneC I6.free (Nat.le_trans I3.sz (Nat.le_refl _)) CneP qn
  ·refine thn (T.item (bV X N' scope cl s3.heap.objs.size s3 (upd H s.heap.objs.size (.lst [])) fp) rfl rfl rfl hc i pins s5 (v0::v1::σ) H5 (fun _ _=>False) I5 (fpOk' fr5) st5 go) fun r s6 ⟨u,hr,h6⟩=>?_
   subst hr
   refine thn h6 fun _ s7 ⟨y,H7,I7,r7,y7,st7,fr7⟩=>?_
   have I7':=I7.pinned (fpOk' fr7) (T.obj _ _ st7)
   obtain ⟨aT,u0,u1,e7,hT7,step7⟩:=step y H7 y7
   have I7c:Inv (bV X N' scope cl s3.heap.objs.size s3 (upd H s.heap.objs.size (.lst [])) fp) (pins++lP fp s7.heap) (v0::v1::σ) H7 s7:=I7'
   refine thn ((show PG _ _ _ from yR (X:=bV X N' scope cl s3.heap.objs.size s3 (upd H s.heap.objs.size (.lst [])) fp) (es:=[.Name x px,.Name y2 py]) (n:=2) hc
     (gZ (bJ (i:=0) S.nd S.hd (.inl (lookup_relabel_local S.var)) (.inr (lookup_relabel_local S.var))) (gZ (bJ (i:=1) S.nd S.hd2 (.inl (lookup_relabel_local S.var2)) (.inr (lookup_relabel_local S.var2))) uA)))
     _ s7 (v0::v1::σ) H7 y u (fun σ2 H2=>σ2=some u0::some u1::σ∧H2=H7) I7c r7 ⟨aT,[u0,u1],e7,hT7,rfl,u0,[u1],rfl,u1,[],rfl,rfl,rfl,rfl⟩) fun _ s8 ⟨σ8,H8,I8,e8,e8'⟩=>?_
   subst e8 e8'
   have I8':Inv (bV X N' scope cl s3.heap.objs.size s3 (upd H s.heap.objs.size (.lst [])) fp) (pins++lP fp s7.heap) (some u0::some u1::σ) H8 s8:=I8
   refine thn (he cl s3.heap.objs.size s3 (upd H s.heap.objs.size (.lst [])) fp _ s8 (some u0::some u1::σ) _ N I8' step7) fun w s9 ⟨v,H9,I9,r9,q9⟩=>?_
   obtain ⟨hD9,m',hm,w9⟩:=hN v H9 q9
   refine thn (eM _ s9 (some u0::some u1::σ) H9 (.ref s.heap.objs.size) [v] (.ref s.heap.objs.size) [w] (fun z H10=>z = .non∧H10=upd H9 s.heap.objs.size (.lst (ys++[v]))) I9 rfl (.cons r9 .nil) ⟨s.heap.objs.size,ys,v,rfl,rfl,hD9,hz,rfl,rfl⟩) fun _ s10 ⟨z,H10,I10,_,ez,e10⟩=>?_
   subst e10
   refine ⟨m',hm,i+1,some u0,some u1,ys++[v],_,I10.unpinned,T.keep _ _ _ st7 fun b hb o e=>(I10.pin (b,o) (List.mem_append_right _ (List.mem_append_right _ (dZ hb e)))).1,fun b hb=>?_,w9⟩
   obtain ⟨o,e,d⟩:=T.obj _ _ st7 b hb
   exact (I10.pin (b,o) (List.mem_append_right _ (List.mem_append_right _ (dZ hb e)))).2.1
 exact codeAny_compStart_list (loop _ (by rw [<- hs3])) (T.self X.A 0 _ _ _ st4 (loop _ (by rw [<- hs3])))
end
theorem Ho {K:PySem.W.Frag}{a b:Addr}{xs ys:List V}{te:TE}{σ:St}{H:Hp}{Q:VK}(f:V->V->V)(hx:SqL K H a xs)(hy:SqL K H b ys)(he:xs.length=ys.length)(hn:xs.length<=sizeLine)
  (hs:∀ (i:Nat) (x y:V) (H':Hp),xs[i]?=some x->ys[i]?=some y->aM H H'->∀ N:V->Hp->Prop,(∀ H'',aM H' H''->N (f x y) H'')->te (some x::some y::σ) H' N)
  (hq:∀ D H',H D=none->aM H H'->H' D=some (.lst (List.zipWith f xs ys))->Q (.ref D) H'):vI K te σ Q (Itz K a b) H:=by
 have hzl:(List.zipWith f xs ys).length=xs.length:=by rw [List.length_zipWith,<- he,Nat.min_self]
 intro D hD
 refine ⟨fun i m zs H2=>m=xs.length-i∧i<=xs.length∧zs=(List.zipWith f xs ys).take i∧aM H H2∧H2 D=some (.lst zs),⟨xs.length,rfl,Nat.zero_le _,rfl,fun b o e=>?_,aC⟩,?_⟩
 ·rw [aH (aK e hD)]
  exact e
 ·rintro i m zs H2 ⟨rfl,hi,rfl,s2,hd⟩
  by_cases hlt:i<xs.length
  ·have h1:xs[i]?=some xs[i]:=List.getElem?_eq_getElem hlt
   have h2:ys[i]?=some (ys[i]'(by omega)):=List.getElem?_eq_getElem (by omega)
   refine .inr ⟨⟨xs,ys,_,_,s2.seq hx,s2.seq hy,h1,h2⟩,by rw [List.length_take];omega,fun v H'=>v=f xs[i] (ys[i]'(by omega))∧aM H2 H',fun v H' ⟨ev,hs'⟩=>⟨hs' D _ hd,xs.length-(i+1),by omega,rfl,hlt,?app,fun b o e=>?kp,aC⟩,fun y H' hy'=>?stp⟩
   case app=>rw [ev,List.take_add_one,List.getElem?_zipWith,h1,h2];rfl
   case kp =>
    rw [aH (aK e hD)]
    exact hs' b o (s2 b o e)
   case stp =>
    obtain ⟨T,u,v,rfl,hT,rfl,y1,y3⟩:=hy'
    have t2:aM H2 (upd H2 T (.tup [u,v])):=fun b o e=>by rw [aH (aK e hT)];exact e
    obtain rfl:=Option.some.inj ((y1 xs (s2.seq hx)).symm.trans h1)
    obtain rfl:=Option.some.inj ((y3 ys (s2.seq hy)).symm.trans h2)
    exact ⟨T,_,_,rfl,SqT.of aC,hs i _ _ _ h1 h2 (s2.trans t2) _ fun H'' h''=>⟨rfl,t2.trans h''⟩⟩
  ·have e:i=xs.length:=by omega
   subst e
   rw [List.take_of_length_le (by omega)] at hd
   exact .inl ⟨⟨xs,ys,s2.seq hx,s2.seq hy,.inl (Nat.le_refl _)⟩,hq D H2 hD s2 hd⟩
end L2
namespace L2
open PySem PySem.Spec PyProof.Rows
end L2
namespace L2
open PySem PySem.Spec PyProof.Rows
end L2
namespace L2
open PySem PySem.Spec PyProof.Rows
section
variable {X:Cx}{pins:List (Addr×Obj)}{σ:St}{H H':Hp}{s s':Shared}{a:Addr}{cls:Value}{E:Value->Shared->Prop}
end
section
variable {X:Cx}{pins:List (Addr×Obj)}{σ:St}{H H':Hp}{s s':Shared}{a:Addr}{cls:Value}
end
section
variable {P:Program}{w:World}{K:PySem.W.Frag}{mg:Str->Option Value}{base:Heap}{N:List Str}{qual:Str}{scope:Scope}{f:Addr}{cdv:Value}{A:Around}{outer:List Env}{s:Shared}{H:Hp}{E:XK}
end
section
variable {X:Cx}
end
end L2
namespace L2
open PySem PySem.Spec PyProof.Rows
section
variable {prog:Program}{w:World}{A:Around}{E:Value->Shared->Prop}{h:Heap}{g:Array GenState}{d:Drawn}{t:Nat}{os:OsState}
variable {nm q:Str}{Cl Ns:Addr}{bs tl:List Value}{hdct:Bool}{sn:List Str}{sub:List Value}{ab:Bool}{col:Option Bool}{dd:Option Addr}{k0 k1 k2 k3 k5:Option Value}
end
section
variable {M:Model}{A:Around}{E:Value->Shared->Prop}{s:Shared}{env:Env}
variable {nm q:Str}{Cl Ns:Addr}{bs tl:List Value}{hdct:Bool}{sn:List Str}{sub:List Value}{ab:Bool}{col:Option Bool}{dd:Option Addr}{k0 k1 k2 k3 k5:Option Value}{ni:String}
end
end L2
namespace L2
open PySem PySem.Spec PyProof.Rows
end L2
namespace L2
open PySem PySem.Spec PyProof.Rows
section
variable {X:Cx}
end
end L2
namespace L2
open PySem PySem.Spec PyProof.Rows PySem.Builtin PySem.Builtin.ObjectAttr
section
variable {prog:Program}{w:World}{A:Around}{E:Value->Shared->Prop}{K:PySem.W.Frag}{C f a x0:Addr}{F:Str}{v:Value}{s:Shared}
end
section
variable {X:Cx}
end
end L2
namespace L2
open PySem PySem.Spec PyProof.Rows
section
variable {X:Cx}{pins:List (Addr×Obj)}{σ:St}{H:Hp}{s:Shared}{a C x0:Addr}{E:Value->Shared->Prop}{od:Option Addr}
end
section
variable {X:Cx}
end
end L2
namespace L2
open PySem PyProof.Rows PySem.Spec
section
variable {X:Cx}
end
namespace EX
open PySem.W PySem.Calls PySem.Builtin PySem.Builtin.ObjectAttr PySem.Builtin.Getset_descriptor
variable {prog:Program}{w:World}{A:Around}{E:Value->Shared->Prop}{s:Shared}{K:PySem.W.Frag}{a C:Addr}
end EX
section
variable {X:Cx}
end
end L2
namespace L2
open PySem PySem.Spec PyProof.Rows
section
variable {X:Cx}
end
end L2
namespace L2
open PySem PyProof.Rows PySem.Spec
def Ite (K:PySem.W.Frag)(a:Addr):It :=
 ⟨fun i H=>∃ xs x,SqL K H a xs∧xs[i]?=some x,
  fun i H x H'=>∃ (T:Addr) (u:V),x = .ref T∧H T=none∧H'=upd H T (.tup [.int (i:Nat),u])∧∀ xs,SqL K H a xs->xs[i]?=some u,
  fun i H=>∃ xs,SqL K H a xs∧xs.length<=i⟩
theorem Cy {P:Program}{w:World}{K:PySem.W.Frag}{elts:List Expr}{x1}{pos:Pos}{a e it:Addr}(hne:e≠it) :
  tY P w K (.Tuple elts x1 pos) (Ite K a) [e,it] e (fun i h=>(∃ old,IsEnum h e it i old)∧h.IsListIter it a i) where
 mem:=by simp
 obj:=fun i h st c hc=>by
  obtain ⟨⟨old,h1⟩,⟨o4,e4,c4,d4⟩⟩:=st
  simp only [List.mem_cons,List.not_mem_nil,or_false] at hc
  rcases hc with rfl | rfl
  ·exact ⟨_,h1,fun v z=>by cases z⟩
  ·exact ⟨_,e4,fun v z=>by rw [d4] at z;cases z⟩
 keep:=fun i h h' st k=>by
  obtain ⟨⟨old,h1⟩,h4⟩:=st
  exact ⟨⟨old,k e (by simp) _ h1⟩,h4.at fun o e=>k it (by simp) o e⟩
 item:=by
  intro X hP hw hK hc i pins s σ H E I hf st hg
  subst hP hw hK
  obtain ⟨xs,x,hq1,hx⟩:=hg
  obtain ⟨its,rv,p,hz⟩:=I.list hq1
  obtain ⟨u,hu,ru⟩:=rv.get hx
  obtain ⟨⟨old,h1⟩,h4⟩:=st
  refine wpAny_pyNext_enum_item h1 h4 p.isList (x:=u) (by simpa using hu) hne fun h' z1 z2 z3 z4 z5=>?_
  refine ⟨_,rfl,wpAny_letOwnedTupleGo_enum (s:={ s with heap:=h',toks:=s.toks+1 }) z1 fun h'' y1 y2=>?_⟩
  have hT:H s.heap.objs.size=none:=I.hok.fresh (Nat.le_refl _)
  have I1:Inv X pins σ (upd H s.heap.objs.size (.tup [.int (i:Nat),x])) { s with heap:=s.heap.push { cls:=.type "tuple",data:=.seq #[.int i s.toks,u] },toks:=s.toks+1 } :=
   I.laid (t':=s.toks+1) (fun b u e=>Heap.get?_push_of_some _ e) (Nat.le_refl _) ⟨(by show 2<=sizeLine;rw [sizeLine_eq];decide),[.int i s.toks,u],.cons ⟨_,rfl⟩ (.cons ru .nil),⟨_,Heap.get?_push_size _ rfl,rfl,_,rfl⟩⟩
  have nf:∀ c∈[e,it],c≠s.heap.objs.size:=fun c hc e=>by
   have lt:∃ o,s.heap.get? c=some o:=by
    obtain ⟨o4,e4,_⟩:=id h4
    simp only [List.mem_cons,List.not_mem_nil,or_false] at hc
    rcases hc with rfl | rfl
    ·exact ⟨_,h1⟩
    ·exact ⟨_,e4⟩
   obtain ⟨o,ho⟩:=lt
   have:=Heap.lt_size ho
   rw [e] at this
   exact Nat.lt_irrefl _ this
  have hf1:∀ c∈[e,it],lK X pins (upd H s.heap.objs.size (.tup [.int (i:Nat),x])) c:=fun c hc=>by
   obtain ⟨f0,f⟩:=hf c hc
   exact ⟨by rw [aH (nf c hc)];exact f0,f⟩
  have I2:Inv X pins σ (upd H s.heap.objs.size (.tup [.int (i:Nat),x])) { s with heap:=h'',toks:=s.toks+1 } :=
   Inv.turnedL (s:={ s with heap:=s.heap.push { cls:=.type "tuple",data:=.seq #[.int i s.toks,u] },toks:=s.toks+1 }) (t':=s.toks+1) (ch:=[e,it]) I1 (fun b o hb e=>by
    simp only [List.mem_cons,List.not_mem_nil,or_false,not_or] at hb
    obtain ⟨b1,b2⟩:=hb
    refine (y2.2 b b1).trans ?_
    rcases Heap.get?_push_cases e with ⟨rfl,rfl⟩ | e
    ·exact z3
    ·exact z5 b o b1 b2 e) hf1
  refine ⟨.ref s.heap.objs.size,_,I2,rfl,⟨s.heap.objs.size,x,rfl,hT,rfl,fun zs hzs=>by rw [I.list_inj hzs hq1];exact hx⟩,⟨⟨_,by exact_mod_cast y1⟩,?_⟩,fun c hc=>(hf1 c hc).1⟩
  exact z2.at fun o e=>(y2.2 it (Ne.symm hne)).trans e
 done:=by
  intro X hP hw hK hc i pins s σ H E I hf st hg
  subst hP hw hK
  obtain ⟨xs,hq1,hl⟩:=hg
  obtain ⟨its,rv,p,hz⟩:=I.list hq1
  obtain ⟨⟨old,h1⟩,h4⟩:=st
  have l1:=rv.length
  refine wpAny_pyNext_enum_end (I.ok.hd hc) h1 h4 p.isList (by simp;omega) fun h' kk=>⟨rfl,?_⟩
  exact I.turnedL (t':=s.toks) (ch:=[e,it]) (fun b o hb e=>by
   simp only [List.mem_cons,List.not_mem_nil,or_false,not_or] at hb
   exact kk b o hb.2 e) hf
 self:=fun A i s Q E st h=>wpAny_pyIter_enum st.1.choose_spec h
section
variable {X:Cx}
def Pq (K:PySem.W.Frag)(ta:TA):TI:=fun σ H R=>ta σ H fun xs H1=>∃ a:Addr,xs=[.ref a]∧(∃ us,SqL K H1 a us)∧R (Ite K a) H1
theorem Hy {a:Expr}{ta:TA}{p pos pos':Pos}{elts:List Expr}{x1}(hg:Gl X "enumerate")(hm:X.mg "enumerate" = none)(ha:PA X [a] ta)(hs:starEach [a] X.env=[(false,eval a X.env)]:=by rfl) :
  PI X (.Tuple elts x1 pos') (.Call (.Name "enumerate" p) [a] [] pos) (Pq X.K ta):=by
 intro pins s σ H R I h
 refine Call_ (qH I hg hm boot_enumerate (PyProof.Rows.callWith_type1 (thn (ha pos pins s σ H _ I h) fun us s1 ⟨vs,H1,I1,r1,q1⟩=>?_) (by rw [hs];rfl) (by rfl)))
 obtain ⟨l1,e,⟨us1,hq1⟩,q⟩:=q1
 subst e
 cases r1 with
 | cons r rr =>
  cases rr
  cases r
  obtain ⟨its,rv,p,hz⟩:=I1.list hq1
  refine call_enumerate_list p.isList fun h' z1 z2 z3 z4=>?_
  refine wpAny_pyIter_enum (s:={ s1 with heap:=h' }) z1 ?_
  have fr:∀ c,s1.heap.objs.size<=c->lK X pins H1 c:=fun c hc=>I1.fpOk hc (I1.hok.fresh hc)
  refine ⟨s1.heap.objs.size+1,[s1.heap.objs.size+1,s1.heap.objs.size],_,_,H1,rfl,I1.kept (t':=s1.toks) z4,Cy (Nat.succ_ne_self _),⟨⟨_,z1⟩,z2⟩,fun c hc=>fr c ?_,q⟩
  simp only [List.mem_cons,List.not_mem_nil,or_false] at hc
  rcases hc with rfl | rfl
  ·exact Nat.le_add_right _ _
  ·exact Nat.le_refl _
theorem Gm {K:PySem.W.Frag}{a:Addr}{xs:List V}{g:TG}{tb:TS}{D:kT}{σ:St}{H:Hp}(Pv:Nat->St->Hp->Prop)(h0:Pv 0 σ H)(hl:∀ i σ H,i<=xs.length->Pv i σ H->SqL K H a xs)
  (hs:∀ i x T σ H,xs[i]?=some x->H T=none->Pv i σ H->g (.ref T) σ (upd H T (.tup [.int (i:Nat),x])) fun σ2 H2=>tb { D with nx:=Pv (i+1),ct:=Pv (i+1),bk:=D.nx } σ2 H2) (hd:∀ σ H,Pv xs.length σ H->D.nx σ H) :
  ∃ W:Nat->Nat->St->Hp->Prop,(∃ m,W 0 m σ H)∧∀ i m σ H,W i m σ H ->
   ((Ite K a).stop i H∧D.nx σ H)∨((Ite K a).go i H∧∃ N:St->Hp->Prop,(∀ σ' H',N σ' H'->∃ m',m'<m∧W (i+1) m' σ' H')∧∀ x H',(Ite K a).yld i H x H'->g x σ H' fun σ2 H2=>tb { D with nx:=N,ct:=N,bk:=D.nx } σ2 H2):=by
 refine ⟨fun i m σ H=>m=xs.length-i∧i<=xs.length∧Pv i σ H,⟨xs.length,by simp,Nat.zero_le _,h0⟩,?_⟩
 rintro i m σ H ⟨rfl,hi,p⟩
 have q1:=hl i σ H hi p
 by_cases hlt:i<xs.length
 ·refine .inr ⟨⟨xs,xs[i],q1,by simp [hlt]⟩,Pv (i+1),fun σ' H' p'=>⟨xs.length-(i+1),by omega,rfl,hlt,p'⟩,fun x H' y=>?_⟩
  obtain ⟨T,u,rfl,hT,rfl,y1⟩:=y
  exact hs i u T σ _ (y1 xs q1) hT p
 ·have e:i=xs.length:=by omega
  subst e
  exact .inl ⟨⟨xs,q1,Nat.le_refl _⟩,hd σ H p⟩
end
end L2
namespace L2
open PySem PyProof.Rows PySem.Spec
def Bg (i:Int):Prop:=i.natAbs<2 ^ 8000
theorem Bg.bits {i:Int}(h:Bg i):Builtin.Int.intBits i<=8000:=by
 unfold Builtin.Int.intBits
 split
 ·exact Nat.zero_le _
 ·rename_i hn
  have h0:i.natAbs≠0:=fun z=>hn (by rw [Int.natAbs_eq_zero.mp z];rfl)
  exact (Nat.log2_lt h0).mpr h
theorem Bg.mulOk {i j:Int}(hi:Bg i)(hj:Bg j):IntMulOk i j:=by
 unfold IntMulOk Builtin.Int.intTooBig
 have h1:=hi.bits
 have h2:=hj.bits
 have h3:(16000:Int)<=bitsLine:=by decide +kernel
 have h4:decide (((Builtin.Int.intBits i:Nat):Int)+((Builtin.Int.intBits j:Nat):Int)>(bitsLine:Int))=false:=decide_eq_false (by omega)
 rw [h4,Bool.and_false]
 exact Bool.false_ne_true
theorem Bg.noPylong {i j:Int}(hj:Bg j):Builtin.divisionGoesByPylong i j=false:=by
 unfold Builtin.divisionGoesByPylong
 have:¬ ((if (j==0)=true then 0 else j.natAbs.log2/30+1)>300):=by
  split
  ·decide
  ·rename_i hn
   have h0:j.natAbs≠0:=fun z=>hn (by rw [Int.natAbs_eq_zero.mp z];rfl)
   have:=(Nat.log2_lt h0).mpr hj
   omega
 dsimp only
 rw [decide_eq_false this]
 rfl
section
variable {X:Cx}
theorem eX:OpR X (binaryOp .Mult) (rI (fun i j=>Bg i∧Bg j) fun i j=>.int (i*j)):=opI fun _ _ _ _ _ _ _ hc q=>mul_int q (hc.1.mulOk hc.2)
theorem Eg:OpR X (binaryOp .FloorDiv) (rI (fun _ j=>0<j∧Bg j) fun i j=>.int (i/j)):=opI fun i j _ _ _ _ _ hc q=>by
 have h1:(0:Int)<j:=hc.1
 exact floordiv_int (by omega) (by rw [Int.fdiv_eq_ediv_of_nonneg i (by omega)];exact q) (.inl hc.2.noPylong)
end
section
variable {X:Cx}{N':List Str}{scope:Scope}{x y2:Str}{px py py2 pt:Pos}{elt iter:Expr}{pos:Pos}{te:TE}{wi:TI}
theorem Ga (S:uV X.N N' X.env.scope scope x y2)(hc:X.calm=true)(hi:PI X (.Tuple [.Name x px,.Name y2 py2] 0 pt) iter wi)(he:∀ cl C s H fp,PE (bV X N' scope cl C s H fp) elt te)
  (hs:∀ x,foldedSetIterable iter X.env x=pure x:=by intro _;rfl):PE X (.ListComp elt [⟨.Tuple [.Name x px,.Name y2 py2] 0 pt,iter,[],0⟩] scope pos) (Lj X.K wi te):=by
 intro pins s σ H Q I h
 rw [eval_ListComp]
 have hfree:∀ z∈scope.names,z.2 = .free->∃ c,X.env.cells.lookup z.1=some c:=fun z hz hk=>by
  rcases S.ok z hz hk with q | q
  ·exact I.ok.has z.1 (.inl q)
  ·exact I.ok.has z.1 (.inr q)
 refine wpAny_comprehension_free (use:=none) rfl hs (gU hfree) S.kind S.names (thn (hi pins s σ H _ I h) fun xv s1 h1=>thn h1 fun itv s2 h2=>?_)
 obtain ⟨it,fp,tn,J,H2,e,I2,T,st2,f2,hw⟩:=h2
 subst e
 obtain ⟨cl,hcl,hrun⟩:=yG (py:=py2) (pt:=pt) (elt:=elt) (iter:=iter) (pos:=pos) (px:=px) (E:=X.xe) (RR:=fun acc C=>compPost (model X.prog X.w) X.A X.xe none (EP X pins σ Q) acc C) S hc he I2 T st2 f2 hw (fun D C s' H' I' ⟨m,hm⟩ n1 n2 n3 n4 n5 q =>
  ⟨m,hm,fun h' hsb=>⟨.ref D,H',I'.turned (it:=C) (t':=s'.toks) (fun b o hb e=>(hsb.2 b hb).trans e) n3 n1 (.inr n4) n2 n5,rfl,q⟩⟩)
 have ecl:(pure (cV X.env.cells scope.names []):Sem (List (Str×Addr)))=pure cl:=(gU hfree).symm.trans hcl
 have ecl':cV X.env.cells scope.names []=cl:=by
  injection ecl
 rw [ecl']
 exact hrun
end
end L2
namespace L2
open PySem PyProof.Rows PySem.Spec
section
variable {X:Cx}
end
end L2
namespace SR
open PySem PyProof.Rows PySem.Spec
section
variable {prog:Program}{w:World}{A:Around}{E:Value->Shared->Prop}{s:Shared}
end
end SR
namespace L2
open PySem PyProof.Rows PySem.Spec
section
variable {X:Cx}
end
end L2
namespace L2
open PySem PyProof.Rows PySem.Spec
section
variable {X:Cx}
end
end L2
namespace L2
open PySem PyProof.Rows PySem.Spec
section
variable {X:Cx}
end
end L2
namespace L2
open PySem PyProof.Rows PySem.Spec
section
variable {X:Cx}
end
end L2
namespace L2
open PySem PyProof.Rows PySem.Spec
section
variable {X:Cx}
end
def tupIs (K:PySem.W.Frag)(a:Addr)(ns:List Int):Bool :=
 match K.lookup a with
 | some o=>match o.cls,o.data with
  | .type "tuple",.seq its _=>decide (its.size<=1000)&&(its.toList.map fun v=>match v with | .int i _=>some i | _=>none)==ns.map some
  | _,_=>false
 | none=>false
theorem SqT.tupIs {K:PySem.W.Frag}{a:Addr}{ns:List Int}{H:Hp}(h:tupIs K a ns=true):SqT K H a (ns.map V.int):=by
 unfold L2.tupIs at h
 cases hk:K.lookup a with
 | none=>rw [hk] at h;cases h
 | some o =>
  rw [hk] at h
  dsimp only at h
  split at h
  ·rename_i its n hc hd
   rw [Bool.and_eq_true,decide_eq_true_iff,beq_iff_eq] at h
   refine .inr ⟨o,its,n,hk,hc,hd,Nat.le_trans h.1 (by rw [sizeLine_eq];decide),?_⟩
   have key:∀ (ns:List Int) (us:List Value),(us.map fun v=>match v with | .int i _=>some i | _=>none)=ns.map some->bR (ns.map V.int) us:=fun ns=>by
    induction ns with
    | nil =>
     intro us hu
     cases us with
     | nil=>exact .nil
     | cons u us=>cases hu
    | cons i ns ih =>
     intro us hu
     cases us with
     | nil=>cases hu
     | cons u us =>
      rw [List.map_cons,List.map_cons] at hu
      obtain ⟨h1,h2⟩:=List.cons.inj hu
      refine .cons ?_ (ih us h2)
      split at h1
      ·rename_i j t
       obtain rfl:=Option.some.inj h1
       exact ⟨_,rfl⟩
      ·cases h1
   exact key ns _ h.2
  ·cases h
end L2
namespace L2
open PySem PyProof.Rows PySem.Spec
section
variable {X:Cx}
end
def cZ (K:PySem.W.Frag)(H:Hp)(as:List Addr)(M:List (List Int)):Prop:=as.length=M.length∧∀ (i:Nat) (a:Addr) (r:List Int),as[i]?=some a->M[i]?=some r->SqL K H a (r.map V.int)
section
variable {K:PySem.W.Frag}{H G:Hp}{as:List Addr}{M:List (List Int)}
theorem cZ.on (h:cZ K H as M)(s:aM H G):cZ K G as M:=⟨h.1,fun i a r e1 e2=>s.seq (h.2 i a r e1 e2)⟩
theorem cZ.at (h:cZ K H as M){i:Nat}{v:V}(hv:(as.map V.ref)[i]?=some v):∃ (a:Addr) (r:List Int),v = .ref a∧M[i]?=some r∧SqL K H a (r.map V.int):=by
 rw [List.getElem?_map] at hv
 obtain ⟨a,ha,rfl⟩:=Option.map_eq_some_iff.mp hv
 have hi:=(List.getElem?_eq_some_iff.mp ha).1
 obtain ⟨r,hr⟩:∃ r,M[i]?=some r:=⟨_,List.getElem?_eq_getElem (by rw [<- h.1];exact hi)⟩
 exact ⟨a,r,rfl,hr,h.2 i a r ha hr⟩
theorem cZ.sub (h:cZ K H as M)(f:Nat->Nat)(bs:List Addr)(N:List (List Int))(hl:bs.length=N.length)(h1:∀ i b,bs[i]?=some b->as[f i]?=some b)(h2:∀ i r,N[i]?=some r->M[f i]?=some r):cZ K H bs N:=⟨hl,fun i a r e1 e2=>h.2 (f i) a r (h1 i a e1) (h2 i r e2)⟩
theorem cZ.erase (h:cZ K H as M)(p:Nat):cZ K H (as.eraseIdx p) (M.eraseIdx p) :=
 h.sub (fun i=>if i<p then i else i+1) _ _ (by rw [List.length_eraseIdx,List.length_eraseIdx,h.1]) (fun i b e=>by rw [List.getElem?_eraseIdx] at e;split <;> simp_all) (fun i b e=>by rw [List.getElem?_eraseIdx] at e;split <;> simp_all)
end
theorem Pj {K:PySem.W.Frag}{J:It}{as:List Addr}{M:List (List Int)}{te:TE}{σ:St}{H:Hp}{Q:VK}(g:List Int->List Int)(rd:lE J H (as.map V.ref))(hR:cZ K H as M)(hn:as.length<=sizeLine)
  (he:∀ a r H',r∈M->SqL K H' a (r.map V.int)->aM H H'->∀ N:V->Hp->Prop,(∀ c H'',aM H' H''->(H' c=none)->H'' c=some (.lst ((g r).map V.int))->N (.ref c) H'')->te (some (.ref a)::σ) H' N)
  (hq:∀ D bs H',H D=none->aM H H'->H' D=some (.lst (bs.map V.ref))->(∀ b∈bs,b≠D)->cZ K H' bs (M.map g)->Q (.ref D) H'):iX te σ Q J H:=by
 intro D hD
 refine ⟨fun i m ys H2=>m=as.length-i∧i<=as.length∧aM H H2∧H2 D=some (.lst ys)∧∃ bs:List Addr,ys=bs.map V.ref∧bs.length=i∧∀ (j:Nat) (b:Addr) (r:List Int),bs[j]?=some b->M[j]?=some r->b≠D∧H2 b=some (.lst ((g r).map V.int)),⟨as.length,rfl,Nat.zero_le _,fun b o e=>?_,aC,[],rfl,rfl,fun j b r e=>by simp at e⟩,?_⟩
 ·rw [aH (aK e hD)]
  exact e
 ·rintro i m ys H2 ⟨rfl,hi,hs,hd,bs,rfl,hl,hb⟩
  by_cases hlt:i<as.length
  ·have hlt':i<(as.map V.ref).length:=by rw [List.length_map];exact hlt
   obtain ⟨a,r,ha,hr,_⟩:=hR.at (i:=i) (v:=(as.map V.ref)[i]) (List.getElem?_eq_getElem hlt')
   refine .inr ⟨rd.go i H2 hs hlt',by rw [List.length_map];omega,fun v H'=>aM H2 H'∧∃ c,v = .ref c∧c≠D∧H' c=some (.lst ((g r).map V.int)),fun v H' ⟨hs',c,ev,hcD,hc⟩=>⟨hs' D _ hd,as.length-(i+1),by omega,rfl,hlt,fun b o e=>?kp,aC,bs++[c],?app,by rw [List.length_append,hl];rfl,fun j b r' e1 e2=>?la⟩,fun y H' hy=>?stp⟩
   case app =>
    rw [ev,List.map_append]
    rfl
   case kp =>
    rw [aH (aK e hD)]
    exact hs' b o (hs b o e)
   case la =>
    by_cases hj:j<bs.length
    ·rw [List.getElem?_append_left hj] at e1
     obtain ⟨h1,h2⟩:=hb j b r' e1 e2
     exact ⟨h1,by rw [aH h1];exact hs' b _ h2⟩
    ·have hj':j=bs.length:=by
      have:=(List.getElem?_eq_some_iff.mp e1).1
      rw [List.length_append,List.length_singleton] at this
      omega
     subst hj'
     rw [List.getElem?_append_right (Nat.le_refl _),Nat.sub_self] at e1
     obtain rfl:c=b:=Option.some.inj e1
     rw [hl,hr] at e2
     obtain rfl:=Option.some.inj e2
     exact ⟨hcD,by rw [aH hcD];exact hc⟩
   case stp =>
    obtain ⟨rfl,e2⟩:=rd.yl i H2 y H' hs hy
    obtain ⟨a2,r2,rfl,hr2,hs2⟩:=(hR.on hs).at e2
    rw [hr] at hr2
    obtain rfl:=Option.some.inj hr2
    exact he a2 r _ (List.mem_of_getElem? hr) hs2 hs _ fun c H'' s'' hc hc2=>⟨s'',c,rfl,fun z=>(by rw [z,hd] at hc;cases hc),hc2⟩
  ·have e:i=as.length:=by omega
   have hst:=rd.st H2 hs
   rw [List.length_map] at hst
   subst e
   have hlM:=hR.1
   refine .inl ⟨hst,hq D bs H2 hD hs hd (fun b hb'=>?_) ⟨by rw [hl,List.length_map,hlM],fun j b r e1 e2=>?_⟩⟩
   ·obtain ⟨j,hj⟩:=List.getElem?_of_mem hb'
    have hjl:=(List.getElem?_eq_some_iff.mp hj).1
    exact (hb j b _ hj (List.getElem?_eq_getElem (show j<M.length by omega))).1
   ·rw [List.getElem?_map] at e2
    obtain ⟨r',hr',rfl⟩:=Option.map_eq_some_iff.mp e2
    exact SqL.of (hb j b r' e1 hr').2
theorem Oy {K:PySem.W.Frag}{J:It}{as:List Addr}{M:List (List Int)}{te:TE}{σ:St}{H:Hp}{Q:VK}(g:List Int->Int)(rd:lE J H (as.map V.ref))(hR:cZ K H as M)(hn:as.length<=sizeLine)
  (he:∀ a r H',r∈M->SqL K H' a (r.map V.int)->aM H H'->∀ N:V->Hp->Prop,(∀ H'',aM H' H''->N (.int (g r)) H'')->te (some (.ref a)::σ) H' N)
  (hq:∀ D H',H D=none->aM H H'->H' D=some (.lst ((M.map g).map V.int))->Q (.ref D) H'):iX te σ Q J H:=by
 intro D hD
 have hlM:=hR.1
 refine ⟨fun i m ys H2=>m=as.length-i∧i<=as.length∧aM H H2∧H2 D=some (.lst ys)∧ys=((M.take i).map g).map V.int,⟨as.length,rfl,Nat.zero_le _,fun b o e=>?_,aC,rfl⟩,?_⟩
 ·rw [aH (aK e hD)]
  exact e
 ·rintro i m ys H2 ⟨rfl,hi,hs,hd,rfl⟩
  by_cases hlt:i<as.length
  ·have hlt':i<(as.map V.ref).length:=by rw [List.length_map];exact hlt
   have hr:M[i]?=some (M[i]'(by omega)):=List.getElem?_eq_getElem (by omega)
   refine .inr ⟨rd.go i H2 hs hlt',by rw [List.length_map,List.length_map,List.length_take];omega,fun v H'=>v = .int (g (M[i]'(by omega)))∧aM H2 H',fun v H' ⟨ev,hs'⟩=>⟨hs' D _ hd,as.length-(i+1),by omega,rfl,hlt,fun b o e=>?kp,aC,?app⟩,fun y H' hy=>?stp⟩
   case app =>
    rw [ev,List.take_add_one,hr,List.map_append,List.map_append]
    rfl
   case kp =>
    rw [aH (aK e hD)]
    exact hs' b o (hs b o e)
   case stp =>
    obtain ⟨rfl,e2⟩:=rd.yl i H2 y H' hs hy
    obtain ⟨a2,r2,rfl,hr2,hs2⟩:=(hR.on hs).at e2
    obtain rfl:=Option.some.inj (hr2.symm.trans hr)
    exact he a2 _ _ (List.mem_of_getElem? hr) hs2 hs _ fun H'' s''=>⟨rfl,s''⟩
  ·have e:i=as.length:=by omega
   have hst:=rd.st H2 hs
   rw [List.length_map] at hst
   subst e
   rw [List.take_of_length_le (by omega)] at hd
   exact .inl ⟨hst,hq D H2 hD hs hd⟩
end L2
namespace L2
open PySem PySem.Spec PyProof.Rows
section
variable {X:Cx}{pins:List (Addr×Obj)}{σ:St}{H:Hp}{s:Shared}{a:Addr}{kvs:List (Key×V)}{k:Key}{A:Around}{E:Value->Shared->Prop}
theorem Gq {v:V}{u r:Value}{Q:Value->Shared->Prop}(I:Inv X pins σ H s)(e:H a=some (.dK kvs))(ry:bH (kV k) u)(rv:bH v r)(hz:kvs.length<sizeLine)
  (h1:∀ x,fF kvs k=some x->∀ w' s',Inv X pins σ H s'->bH x w'->Q w' s') (h2:fF kvs k=none->∀ s',Inv X pins σ (upd H a (.dK (cN kvs k v))) s'->Q r s') :
  wpAny (model X.prog X.w) A (call (.builtin "dict.setdefault") [.ref a,u,r]) Q E s:=by
 obtain ⟨z,hd,vs,rel,dd⟩:=vL I.hok e
 refine call_meetsIn PySem.F.slot_dict_setdefault dd.typeIs PySem.F.entry_dict_setdefault (PySem.F.args_dict_setdefault_3 _ _ _) (kt_meets_setdefault (bO X.prog X.w) a (qE ry) hd r)
  ⟨vs,dd,by rw [<- rel.length];exact z,fun w' hw=>?_,fun hn h' dd' hs=>?_⟩
 ·cases l:fF kvs k with
  | none =>
   have:=hG.none_of (o:=valueAt vs k) (by rw [<- l];exact rel.val k)
   rw [this] at hw
   cases hw
  | some x =>
   obtain ⟨w2,hw2,rw2⟩:=hG.some_of (v:=x) (o:=valueAt vs k) (by rw [<- l];exact rel.val k)
   rw [hw] at hw2
   obtain rfl:=Option.some.inj hw2
   exact h1 x l w' _ (I.tok _) rw2
 ·have l:fF kvs k=none:=by
   cases l:fF kvs k with
   | none=>rfl
   | some x =>
    obtain ⟨w2,hw2,_⟩:=hG.some_of (v:=x) (o:=valueAt vs k) (by rw [<- l];exact rel.val k)
    rw [hn] at hw2
    cases hw2
  have he:∃ q,h'.get? a=some q:=let ⟨q,_,_,hq,_⟩:=dd';⟨q,hq⟩
  have hl:(cN kvs k v).length<=sizeLine:=by have:=gO kvs k v;omega
  exact h2 l _ (oQ I (by rw [e];exact True.intro) hs he (zA hl hd (rel.put k rv) dd'))
end
def Oz (td ty tx:TE):TE:=fun σ H Q=>td σ H fun x H1=>∃ a,x = .ref a∧(∃ kvs,H1 a=some (.dK kvs))∧ty σ H1 fun y H2=>tx σ H2 fun z H3=>∃ kvs k,H3 a=some (.dK kvs)∧y=kV k∧kvs.length<sizeLine∧(∀ v,fF kvs k=some v->Q v H3)∧(fF kvs k=none->Q z (upd H3 a (.dK (cN kvs k z))))
section
variable {X:Cx}{o e f:Expr}{apos cpos:Pos}{td ty tx:TE}
theorem yX (ho:PE X o td)(he:PE X e ty)(hf:PE X f tx)(m:M2 X o "setdefault" apos e f cpos):PE X (.Call (.Attribute o "setdefault" apos) [e,f] [] cpos) (Oz td ty tx):=by
 intro pins s σ H Q I h
 refine wpAny_Call_method m.base m.few m.line PySem.F.plainAttrs_dict PySem.F.slot_dict_setdefault PySem.F.type_dict_setdefault (thn (ho pins s σ H _ I h) fun u s1 ⟨x,H1,I1,rx,a,ex,⟨kvs0,d⟩,q1⟩=>?_)
 subst ex
 obtain rfl:u=Value.ref a:=rx
 obtain ⟨z0,hd0,vs0,rel0,dd0⟩:=vL I1.hok d
 refine ⟨dd0.typeIs,fun b q=>?_,?_⟩
 ·cases q
  obtain ⟨ob,_,_,g1,g2,_⟩:=dd0
  exact ⟨ob,g1,g2.2.1⟩
 rw [m.trees]
 refine Calls.callWith_builtin rfl (Calls.evalArgs_plain (Calls.spliced_cons (thn (he pins s1 σ H1 _ I1 q1) fun iv s2 ⟨y,H2,I2,ry,q2⟩ =>
  Calls.spliced_cons (thn (hf pins s2 σ H2 _ I2 q2) fun fv s3 ⟨z,H3,I3,rz,kvs,k,ea,ey,hz,q3,q4⟩=>Calls.spliced_nil ?_))))
 subst ey
 exact Gq I3 ea ry rz hz (fun v l w' s4 I4 rw'=>⟨v,H3,I4,rw',q3 v l⟩) fun l s4 I4=>⟨z,_,I4,rz,q4 l⟩
end
end L2
namespace SS
open PySem PyProof.Rows L2
section
variable {prog:Program}{w:World}{A:Around}{E:Value->Shared->Prop}{s:Shared}
theorem Cd {a:Addr}{vs:List (Key×Value)}{ep:Nat}{R:Result->Shared->Prop}(hh:A.handled=none)(hd:(a==sysModules)=false)(hD:Heap.DictAt (bO prog w) s.heap a vs ep)(hz:vs.length<=sizeLine)(S:Addr)(h1:S≠a)(hS:s.heap.get? S=some { cls:=.type "list",data:=.seq #[] })
  (hR:∀ s' acc' c',(∀ b o,b≠S->s.heap.get? b=some o->s'.heap.get? b=some o)->s'.gens=s.gens->s'.os=s.os->s'.heap.get? S=some { cls:=.type "list",dict:=none,data:=.seq acc' c',slots:=#[] }->ItemsOf (Am vs) acc' vs.length->R (.ok (.ret .none)) s') :
  wpAny (model prog w) A.in1 (Builtin.«list.__init__» ⟨[.ref S,.ref a],[]⟩)
   (fun fin s'=>match fin with | .done f=>R (.ok f) s' | .again c'=>c'.quiet=true∧codeAny (model prog w) A c' R s') (fun e s'=>R (.error e) s') s:=by
 show wpAny _ _ (do let old <- Builtin.List.listItems (.ref S);Builtin.List.listUpdate (.ref S) (fun _=>#[]);letGo old.toList.reverse;Builtin.List.listExtendWith (.ref S) (.ref a) .none) _ _ s
 refine wpAny_bind ?_
 unfold Builtin.List.listItems
 refine wpAny_bind (wpAny_seqItems hS rfl (wpAny_pure ?_))
 show wpAny _ _ (updateSeq S (fun _=>#[]) >>= fun _=>letGo (#[]:Array Value).toList.reverse >>= fun _=>Builtin.List.listExtendWith (.ref S) (.ref a) .none) _ _ s
 refine wpAny_bind (wpAny_updateSeq hS rfl ?_)
 have hS₂:=Heap.get?_update_self (Obj.mapSeq (fun _=>(#[]:Array Value))) hS rfl
 have oth:∀ b o,b≠S->s.heap.get? b=some o->(s.heap.update S (Obj.mapSeq (fun _=>(#[]:Array Value)))).get? b=some o :=
  fun b o hb e=>(Heap.get?_update_other _ _ (Ne.symm hb)).trans e
 refine wpAny_bind (wpAny_letGo ?_)
 have hD2:Heap.DictAt (bO prog w) (s.heap.update S (Obj.mapSeq (fun _=>(#[]:Array Value)))) a vs ep:=by
  obtain ⟨o,es,g,r⟩:=hD
  exact ⟨o,es,oth a o (Ne.symm h1) g,r⟩
 refine yY (A:=A) (s:={ s with heap:=s.heap.update S (Obj.mapSeq (fun _=>(#[]:Array Value))) }) hh hd hD2 hz S .none h1 hS₂ fun s' acc' c' kp g1 g2 e1 e2=>?_
 exact hR s' acc' c' (fun b o hb e=>kp b o hb (oth b o hb e)) g1 g2 e1 e2
theorem qP {a:Addr}{vs:List (Key×Value)}{ep:Nat}{Q:Value->Shared->Prop}(hh:A.handled=none)(hd:(a==sysModules)=false)(hD:Heap.DictAt (bO prog w) s.heap a vs ep)(hz:vs.length<=sizeLine)
  (hQ:∀ (s':Shared) (acc:Array Value) (c':Nat),(∀ b o,s.heap.get? b=some o->s'.heap.get? b=some o)->s'.gens=s.gens->s'.os=s.os->s'.heap.get? s.heap.objs.size=some { cls:=.type "list",dict:=none,data:=.seq acc c',slots:=#[] }->ItemsOf (Am vs) acc vs.length->Q (.ref s.heap.objs.size) s') :
  wpAny (model prog w) A (call (.type "list") [.ref a]) Q E s:=by
 have hlt:a<s.heap.objs.size:=by obtain ⟨o,es,g,r⟩:=hD;exact Heap.lt_size g
 refine callType_codes (Q₁:=fun obj s₁=>obj = .ref s.heap.objs.size∧s₁ = { s with heap:=s.heap.push { cls:=.type "list",data:=.seq #[] } }) F.called_list (F.typeCall_list_1 _) F.entry_list_init
  (code_list_new _ ⟨rfl,rfl⟩) fun obj s₁ h₁=>?_
 obtain ⟨rfl,rfl⟩:=h₁
 have hS:(s.heap.push { cls:=.type "list",data:=.seq #[] }).get? s.heap.objs.size=some { cls:=.type "list",data:=.seq #[] }:=Heap.get?_push_size _ rfl
 refine ⟨⟨_,hS,rfl⟩,F.args_list_init_2 _ _,Cd (A:=A.in1) (s:={ s with heap:=s.heap.push { cls:=.type "list",data:=.seq #[] } }) hh hd (wF hD) hz _ (Nat.ne_of_gt hlt) hS fun s' acc' c' kp g1 g2 e1 e2=>?_⟩
 exact ⟨rfl,hQ s' acc' c' (fun b o e=>kp b o (Nat.ne_of_lt (Heap.lt_size e)) (Heap.get?_push_of_some _ e)) g1 g2 e1 e2⟩
end
end SS
namespace L2
open PySem PyProof.Rows
section
variable {X:Cx}
theorem sF:∀ {us:List Value} {ls:List (List Nat)},StrsAre us (ls.map tx)->bR (ls.map T) us
 | [],[],_=>.nil
 | u::us,l::ls,h=>by
  cases h with
  | cons x t r=>exact .cons ⟨_,rfl⟩ (sF r)
theorem iL (hc:X.calm=true):eO X (.type "list") (fun xs H Q=>∃ (p:Addr) (ls:List (List Nat)) (kvs:List (Key×V)),xs=[.ref p]∧H p=some (.dK kvs)∧kvs.map (·.1)=ls.map (fun t=>Sum.inr (tx t))∧∀ (D:Addr),H D=none->Q (.ref D) (upd H D (.lst (ls.map T)))):=by
 intro pins s σ H xs us Q I r h
 obtain ⟨p,ls,kvs,rfl,hq,hk,q⟩:=h
 obtain ⟨u,rfl,ru⟩:=fW r
 cases ru
 obtain ⟨z,hd,vs,rel,dd⟩:=vL I.hok hq
 obtain ⟨o,es,ep,rest⟩:=dd
 have hl:ls.length=kvs.length:=by have:=congrArg List.length hk;simpa using this.symm
 refine SS.qP (vs:=vs) (ep:=ep) (I.ok.hd hc) hd ⟨o,es,rest⟩ (by rw [<- rel.length];exact z) fun s' acc c' kp g1 g2 e1 e2=>?_
 have hv:=sF (Bs hk rel e2)
 have hg:AllBare s'.gens:=by rw [g1];exact I.bare
 have hf:H s.heap.objs.size=none:=I.hok.fresh (Nat.le_refl _)
 have new:cY X.prog X.w (upd H s.heap.objs.size (.lst (ls.map T))) s'.heap s.heap.objs.size (.lst (ls.map T)):=⟨by rw [List.length_map,hl];exact z,acc.toList,c',hv,by simpa using e1⟩
 exact ⟨.ref s.heap.objs.size,_,I.call' (ch:=[]) g2 (Un.laid kp (Nat.le_refl _) hf) (I.hok.laid kp (Nat.le_refl _) new) hg (fun _ z=>nomatch z),rfl,q _ hf⟩
end
end L2
namespace L2
open PySem PyProof.Rows
theorem Lf {K:PySem.W.Frag}{J:It}{vs:List V}{te:TE}{σ:St}{H:Hp}{Q:VK}(g:V->List Int)(rd:lE J H vs)(hn:vs.length<=sizeLine)
  (he:∀ v H',v∈vs->aM H H'->∀ N:V->Hp->Prop,(∀ c H'',aM H' H''->H' c=none->H'' c=some (.lst ((g v).map V.int))->N (.ref c) H'')->te (some v::σ) H' N)
  (hq:∀ D bs H',H D=none->aM H H'->H' D=some (.lst (bs.map V.ref))->(∀ b∈bs,b≠D)->cZ K H' bs (vs.map g)->Q (.ref D) H'):iX te σ Q J H:=by
 intro D hD
 refine ⟨fun i m ys H2=>m=vs.length-i∧i<=vs.length∧aM H H2∧H2 D=some (.lst ys)∧∃ bs:List Addr,ys=bs.map V.ref∧bs.length=i∧∀ (j:Nat) (b:Addr) (v:V),bs[j]?=some b->vs[j]?=some v->b≠D∧H2 b=some (.lst ((g v).map V.int)),⟨vs.length,rfl,Nat.zero_le _,fun b o e=>?_,aC,[],rfl,rfl,fun j b r e=>by simp at e⟩,?_⟩
 ·rw [aH (aK e hD)]
  exact e
 ·rintro i m ys H2 ⟨rfl,hi,hs,hd,bs,rfl,hl,hb⟩
  by_cases hlt:i<vs.length
  ·obtain ⟨r,hr⟩:∃ r,vs[i]?=some r:=⟨_,List.getElem?_eq_getElem hlt⟩
   refine .inr ⟨rd.go i H2 hs hlt,by rw [List.length_map];omega,fun v H'=>aM H2 H'∧∃ c,v = .ref c∧c≠D∧H' c=some (.lst ((g r).map V.int)),fun v H' ⟨hs',c,ev,hcD,hc⟩=>⟨hs' D _ hd,vs.length-(i+1),by omega,rfl,hlt,fun b o e=>?kp,aC,bs++[c],?app,by rw [List.length_append,hl];rfl,fun j b r' e1 e2=>?la⟩,fun y H' hy=>?stp⟩
   case app =>
    rw [ev,List.map_append]
    rfl
   case kp =>
    rw [aH (aK e hD)]
    exact hs' b o (hs b o e)
   case la =>
    by_cases hj:j<bs.length
    ·rw [List.getElem?_append_left hj] at e1
     obtain ⟨h1,h2⟩:=hb j b r' e1 e2
     exact ⟨h1,by rw [aH h1];exact hs' b _ h2⟩
    ·have hj':j=bs.length:=by
      have:=(List.getElem?_eq_some_iff.mp e1).1
      rw [List.length_append,List.length_singleton] at this
      omega
     subst hj'
     rw [List.getElem?_append_right (Nat.le_refl _),Nat.sub_self] at e1
     obtain rfl:c=b:=Option.some.inj e1
     rw [hl,hr] at e2
     obtain rfl:=Option.some.inj e2
     exact ⟨hcD,by rw [aH hcD];exact hc⟩
   case stp =>
    obtain ⟨rfl,e2⟩:=rd.yl i H2 y H' hs hy
    rw [hr] at e2
    obtain rfl:=Option.some.inj e2
    exact he r _ (List.mem_of_getElem? hr) hs _ fun c H'' s'' hc hc2=>⟨s'',c,rfl,fun z=>(by rw [z,hd] at hc;cases hc),hc2⟩
  ·have e:i=vs.length:=by omega
   have hst:=rd.st H2 hs
   subst e
   refine .inl ⟨hst,hq D bs H2 hD hs hd (fun b hb'=>?_) ⟨by rw [hl,List.length_map],fun j b r e1 e2=>?_⟩⟩
   ·obtain ⟨j,hj⟩:=List.getElem?_of_mem hb'
    have hjl:=(List.getElem?_eq_some_iff.mp hj).1
    exact (hb j b _ hj (List.getElem?_eq_getElem (show j<vs.length by omega))).1
   ·rw [List.getElem?_map] at e2
    obtain ⟨r',hr',rfl⟩:=Option.map_eq_some_iff.mp e2
    exact SqL.of (hb j b r' e1 hr').2
end L2
namespace L2
open PySem PyProof.Rows
section
variable {X:Cx}{pins:List (Addr×Obj)}{σ:List (Option V)}{H H':Hp}{s:Shared}
end
section
variable {X:Cx}{tg:Expr}
end
end L2
namespace L2
open PySem PyProof.Rows
section
variable {X:Cx}{o:Expr}{td:TE}{apos cpos:Pos}
end
end L2
namespace L2
open PySem PyProof.Rows PySem.Spec
section
variable {X:Cx}
end
end L2
namespace L2
open PySem PyProof.Rows
section
variable {X:Cx}{pins:List (Addr×Obj)}{σ:St}{H:Hp}{s:Shared}
end
section
variable {X:Cx}
end
end L2
namespace L2
open PySem PySem.Spec PyProof.Rows
section
variable {M:Model}{A:Around}{E:Value->Shared->Prop}{s:Shared}
end
section
variable {X:Cx}{N':List Str}{scope:Scope}{x:Str}{px:Pos}{elt iter:Expr}{cds:List Expr}{pos:Pos}{te:TE}{tc:TT}{wi:TI}
end
end L2
namespace L2
open PySem PySem.Spec PyProof.Rows
section
variable {X:Cx}{N':List Str}{scope:Scope}{x:Str}{px:Pos}{elt iter:Expr}{cds:List Expr}{pos:Pos}{te:TE}{tc:TT}{wi:TI}
end
end L2
namespace L2
open PySem PyProof.Rows PySem.Spec
section
variable {X:Cx}
end
section
variable {X:Cx}{N':List Str}{scope:Scope}{x:Str}{px:Pos}{elt iter cd:Expr}{pos:Pos}{te:TE}{tc:TT}{wi:TI}
end
end L2
namespace L2
open PySem PyProof.Rows
def SqA (K:PySem.W.Frag)(H:Hp)(a:Addr)(xs:List V):Prop:=SqL K H a xs∨SqT K H a xs
theorem SqA.on {K:PySem.W.Frag}{H H':Hp}{a:Addr}{xs:List V}(h:SqA K H a xs)(s:aM H H'):SqA K H' a xs:=h.elim (fun h=>.inl (s.seq h)) fun h=>.inr (wW s h)
def iSq (K:PySem.W.Frag)(tl:TE):TI:=fun σ H R=>tl σ H fun x H1=>∃ a xs H0,x = .ref a∧SqA K H0 a xs∧aM H0 H1∧∀ J,lE J H0 xs->R J H1
section
variable {X:Cx}{tg:Expr}
theorem Lq {l:Expr}{tl:TE}(hl:PE X l tl):PI X tg l (iSq X.K tl):=by
 intro pins s σ H R I h
 refine thn (hl pins s σ H _ I h) fun v s1 ⟨x,H1,I1,r1,q1⟩=>?_
 obtain ⟨a,xs,H0,e,hq0 | hq0,s0,q0⟩:=q1
 ·have hq:=s0.seq hq0
  have q:=q0 _ (dY hq0)
  subst e
  cases r1
  obtain ⟨its,rv,p,hz⟩:=I1.list hq
  refine wpAny_pyIter_list p.isList ?_
  refine ⟨s1.heap.objs.size,[s1.heap.objs.size],_,_,H1,rfl,I1.kept (t':=s1.toks) fun b o e=>Heap.get?_push_of_some _ e,tG a _,⟨_,Heap.get?_push_size _ rfl,rfl,rfl⟩,fun b hb=>?_,q⟩
  have e:b=s1.heap.objs.size:=by simpa using hb
  subst e
  exact I1.fpOk (Nat.le_refl _) (I1.hok.fresh (Nat.le_refl _))
 ·have hq:=wW s0 hq0
  have q:=q0 _ (iE hq0)
  subst e
  cases r1
  obtain ⟨its,rv,p,hz⟩:=I1.tuple hq
  refine wpAny_pyIter_tuple (show s1.heap.IsTuple a its.toArray from p) ?_
  refine ⟨s1.heap.objs.size,[s1.heap.objs.size],_,_,H1,rfl,I1.kept (t':=s1.toks) fun b o e=>Heap.get?_push_of_some _ e,qR a _,⟨_,Heap.get?_push_size _ rfl,rfl,rfl⟩,fun b hb=>?_,q⟩
  have e:b=s1.heap.objs.size:=by simpa using hb
  subst e
  exact I1.fpOk (Nat.le_refl _) (I1.hok.fresh (Nat.le_refl _))
theorem oO (K:PySem.W.Frag)(hK:X.K=K){l:Expr}{tl:TE}(hl:PE X l tl):PI X tg l (iSq K tl):=by
 subst hK
 exact Lq hl
end
theorem sQ {J:It}{H0:Hp}{vs:List V}{g:TG}{tb:TS}{D:kT}{σ:St}{H:Hp}(rd:lE J H0 vs)(Pv:Nat->St->Hp->Prop)(h0:Pv 0 σ H)(hl:∀ i σ H,i<=vs.length->Pv i σ H->aM H0 H)
  (hs:∀ i x σ H,vs[i]?=some x->Pv i σ H->g x σ H fun σ2 H2=>tb { D with nx:=Pv (i+1),ct:=Pv (i+1),bk:=D.nx } σ2 H2) (hd:∀ σ H,Pv vs.length σ H->D.nx σ H) :
  ∃ W:Nat->Nat->St->Hp->Prop,(∃ m,W 0 m σ H)∧∀ i m σ H,W i m σ H ->
   (J.stop i H∧D.nx σ H)∨(J.go i H∧∃ N:St->Hp->Prop,(∀ σ' H',N σ' H'->∃ m',m'<m∧W (i+1) m' σ' H')∧∀ x H',J.yld i H x H'->g x σ H' fun σ2 H2=>tb { D with nx:=N,ct:=N,bk:=D.nx } σ2 H2):=by
 refine ⟨fun i m σ H=>m=vs.length-i∧i<=vs.length∧Pv i σ H,⟨vs.length,by simp,Nat.zero_le _,h0⟩,?_⟩
 rintro i m σ H ⟨rfl,hi,p⟩
 have hA:=hl i σ H hi p
 by_cases hlt:i<vs.length
 ·refine .inr ⟨rd.go i H hA hlt,Pv (i+1),fun σ' H' p'=>⟨vs.length-(i+1),by omega,rfl,hlt,p'⟩,fun x H' hy=>?_⟩
  obtain ⟨rfl,e⟩:=rd.yl i H x H' hA hy
  exact hs i x σ _ e p
 ·have e:i=vs.length:=by omega
  subst e
  exact .inl ⟨rd.st H hA,hd σ H p⟩
end L2
namespace L2
open PySem PyProof.Rows
end L2
namespace L2
open PySem PyProof.Rows PySem.Spec
section
variable {X:Cx}
theorem yD {pins:List (Addr×Obj)}{σ:St}{H:Hp}{s:Shared}{v:Value}{ls:List (List Nat)}{Q:VK}(h64:ls.length<64)
  (hc:∀ (A':Around) (Q':List Value->Shared->Prop),A'.handled=X.A.handled->(∀ (vs:List Value) (ss:List Str) (s1:Shared),StrsAre vs ss->ss.Perm (ls.map tx)->Inv X pins σ H s1->Q' vs s1)->wpAny (model X.prog X.w) A' (collect v) Q' X.xe s)
  (q:∀ (ms:List (List Nat)) (D:Addr),H D=none->ms.Perm ls->ms.Pairwise (fun a b=>¬ b<a)->Q (.ref D) (upd H D (.lst (ms.map T)))) :
  wpAny (model X.prog X.w) X.A (call (.builtin "sorted") [v]) (EP X pins σ Q) X.xe s:=by
 have hz:ls.length<=sizeLine:=by rw [sizeLine_eq];omega
 refine Calls.call_function_entry kind_sorted plain_sorted entry_sorted (args_sorted1 _) ?_
 unfold Builtin.«sorted»
 refine wpAny_bind (m:=checkCount "sorted" 1 1 _) (wpAny_pure (wpAny_bind (hc _ _ (by simp) fun vs ss s1 hS hp I1=>wpAny_bind (wpAny_newList ?_ (by rw [hS.length,hp.length_eq,List.length_map];exact hz)))))
 have e2:(s1.heap.push (seqObj "list" vs.toArray 0)).get? s1.heap.objs.size=some (seqObj "list" vs.toArray 0):=Heap.get?_push_size _ rfl
 have hvl:vs.length=ls.length:=by rw [hS.length,hp.length_eq,List.length_map]
 show wpAny _ _ _ _ _ { s1 with heap:=s1.heap.push (seqObj "list" vs.toArray 0) }
 have key:∀ (out:Array Value) (ss':List Str),StrsAre out.toList ss'->ss'.Perm ss->sortedS ss'=true->EP X pins σ Q (.ref s1.heap.objs.size) { s1 with heap:=sortedHeap (s1.heap.push (seqObj "list" vs.toArray 0)) s1.heap.objs.size vs out }:=fun out ss' b1 b2 b3=>by
  obtain ⟨e,he⟩:=sortedHeap_at (out:=out) e2
  have em:(ss'.map fun x=>x.cps.toList).map tx=ss':=by
   rw [List.map_map]
   conv=>rhs;rw [<- List.map_id ss']
   exact List.map_congr_left fun x _=>iR x
  have hp':(ss'.map fun x=>x.cps.toList).Perm ls:=by
   have y:=(b2.trans hp).map fun x=>x.cps.toList
   rw [List.map_map,show (fun x=>x.cps.toList)∘tx=id from funext cW,List.map_id] at y
   exact y
  refine ⟨.ref _,_,I1.laid (t':=s1.toks) (fun b o eo=>?_) (Nat.le_refl _) (o:=.lst ((ss'.map fun x=>x.cps.toList).map T)) ⟨?_,out.toList,e,mR b1,by simpa using he⟩,rfl,q _ _ (I1.hok.fresh (Nat.le_refl _)) hp' (sA _ (by rw [em];exact b3))⟩
  ·have hlt:=Heap.lt_size eo
   rw [sortedHeap_old (Nat.ne_of_lt hlt) (by rw [size_push'];exact Nat.lt_succ_of_lt hlt)]
   exact Heap.get?_push_of_some _ eo
  ·rw [List.length_map,hp'.length_eq]
   exact hz
 refine wpAny_bind (wpAny_holding (wpAny_call_entry slot_list_sort ⟨_,e2,rfl⟩ entry_list_sort (list_sort_treeK strKind_oneLt e2 hS.keysOf (fun v1 v2 r e=>?_) (by omega) fun st' a1 a2=>⟨_,rfl,wpAny_pure ⟨_,rfl,?_⟩⟩) (args_list_sort _)))
 ·have hS2:=hS
  rw [e] at hS2
  exact keyKind_strs hS2
 ·obtain ⟨ss',b1,b2,b3⟩:=sorted_out_str hS a1 a2
  exact key _ ss' b1 b2 b3
theorem rM (hc:X.calm=true):eO X (.builtin "sorted") (fun xs H Q=>∃ (p:Addr) (ls:List (List Nat)),xs=[.ref p]∧H p=some (lW X.w p ls)∧ls.length<64∧∀ (ms:List (List Nat)) (D:Addr),H D=none->ms.Perm ls->ms.Pairwise (fun a b=>¬ b<a)->Q (.ref D) (upd H D (.lst (ms.map T)))):=by
 intro pins s σ H xs us Q I r h
 obtain ⟨p,ls,rfl,hq,hz,q⟩:=h
 obtain ⟨u,rfl,ru⟩:=fW r
 cases ru
 have hs:sizeLine=16777216:=sizeLine_eq
 refine yD hz (fun A' Q' hA hQ=>SS.yE (by rw [hA];exact I.ok.hd hc) (vA I hq) (by rw [List.length_map];omega) fun s' vs ss kp g1 g2 e1 e2=>hQ vs ss s' e1 e2 ?_) q
 have hg:AllBare s'.gens:=by rw [g1];exact I.bare
 exact I.call' (ch:=[]) g2 (Un.kept kp) (I.hok.kept kp) hg fun _ z=>nomatch z
end
end L2
namespace SN
open PySem PyProof.Rows SS
def lG:Value->Int
 | .int x _=>x
 | _=>0
def El (w:World)(e:Int×Value):Prop:=e.1=hashInt (lG e.2)∧∃ t,e.2 = .int (lG e.2) t
def Els (w:World)(es:List (Int×Value))(ms:List Int):Prop:=(∀ e∈es,El w e)∧(es.map fun e=>lG e.2).Perm ms
def Rs (t:SetTable):Prop:=(∀ i j,i<j->j<t.place.size->t.place.getD i 0<t.place.getD j 0)∧t.dummies = #[]
def Is (w:World)(h:Heap)(a:Addr)(ms:List Int):Prop :=
 ∃ o es ep t,h.get? a=some o∧o.ExactSet∧o.data = .set es ep t∧Els w es.toList ms∧ms.Nodup∧es.size<scanBound∧t.fits es.size=true∧(byT w=true∨t.led=true)∧Rs t
section
variable {prog:Program}{w:World}{A:Around}{E:Value->Shared->Prop}{s:Shared}
end
section
variable {prog:Program}{w:World}{A:Around}{E:Value->Shared->Prop}{s:Shared}
end
section
variable {prog:Program}{w:World}{A:Around}{E:Value->Shared->Prop}{s:Shared}
end
section
variable {prog:Program}{w:World}{A:Around}{E:Value->Shared->Prop}{s:Shared}
end
end SN
namespace L2
open PySem PySem.Spec PyProof.Rows
namespace SEN
def Of (w:World)(h:Heap)(D:Addr)(ls:List Int)(i:Nat):Prop:=∃ ms,SN.Is w h D ms∧(∀ x,x∈ms↔x∈ls.take i)∧ms.length<=i
section
variable {prog:Program}{w:World}{A:Around}{R:Result->Shared->Prop}{J:Addr}{fp wr:List Addr}{G:Array GenState->Array GenState->Prop}{n:Nat}{P:Nat->Value->Prop}{St:Nat->Shared->Prop}
variable {E:Value->Shared->Prop}{s:Shared}
end
end SEN
section
variable {X:Cx}
end
end L2
namespace L2
open PySem PyProof.Rows
section
variable {X:Cx}
end
end L2
namespace L2
open PySem PyProof.Rows PySem.Spec
section
variable {X:Cx}
end
end L2
namespace L2
open PySem PyProof.Rows PySem.Spec
section
variable {X:Cx}
theorem Bh (hc:X.calm=true):eO X (.builtin "all") (fun xs H Q=>∃ (p:Addr) (bs:List Bool),xs=[.ref p]∧SqL X.K H p (bs.map V.bl)∧Q (.bl (bs.all id)) H):=by
 intro pins s σ H xs us Q I r h
 obtain ⟨p,bs,rfl,hq,q⟩:=h
 obtain ⟨u,rfl,ru⟩:=fW r
 cases ru
 obtain ⟨its,rv,pl,_⟩:=I.list hq
 have hlen:=rv.length
 rw [List.length_map] at hlen
 have hat:∀ (i:Nat) (v:Value),its.toArray[i]?=some v->v = .bool (bs.getD i false):=fun i v e=>by
  have hi:i<bs.length:=by
   have:=(Array.getElem?_eq_some_iff.mp e).1
   rw [List.size_toArray] at this
   omega
  obtain ⟨w',e1,q1⟩:=rv.get (i:=i) (x:=.bl bs[i]) (by rw [List.getElem?_map,List.getElem?_eq_getElem hi];rfl)
  rw [List.getElem?_toArray,e1] at e
  obtain rfl:=Option.some.inj e
  rw [List.getD_eq_getElem?_getD,List.getElem?_eq_getElem hi]
  exact q1
 have hall:(List.range its.toArray.size).all (fun i=>bs.getD i false)=bs.all id:=by
  rw [List.size_toArray,<- hlen,Bool.eq_iff_iff,List.all_eq_true,List.all_eq_true]
  constructor
  ·intro h b hb
   obtain ⟨i,hi⟩:=List.getElem?_of_mem hb
   have hil:=(List.getElem?_eq_some_iff.mp hi).1
   have:=h i (List.mem_range.mpr hil)
   rw [List.getD_eq_getElem?_getD,hi] at this
   exact this
  ·intro h i hi
   have hil:=List.mem_range.mp hi
   rw [List.getD_eq_getElem?_getD,List.getElem?_eq_getElem hil]
   exact h _ (List.getElem_mem hil)
 have hne:p≠s.heap.objs.size:=by
  obtain ⟨o,ho,_⟩:=id pl.isList
  exact Nat.ne_of_lt (Heap.lt_size ho)
 refine call_all_walk (wpAny_pyIter_list pl.isList ⟨s.heap.objs.size,[s.heap.objs.size,p],[s.heap.objs.size],its.toArray.size,_,_,fun i=>bs.getD i false,rfl,Walks.list (A:=X.A.in1) (show X.A.in1.handled=none from I.ok.hd hc) s.heap.objs.size p hne its.toArray,⟨⟨_,Heap.get?_push_size _ rfl,rfl,rfl⟩,pl.isList.at fun o e=>Heap.get?_push_of_some _ e⟩,?_,fun h' tk hk=>?_⟩)
 ·intro i v s' Q' E' hP hQ
  rw [hat i v hP]
  exact wpAny_truthy_bool hQ
 ·rw [hall]
  exact ⟨.bl _,H,I.kept (fun b o e=>hk b o (by simp;exact Nat.ne_of_lt (Heap.lt_size e)) (Heap.get?_push_of_some _ e)),rfl,q⟩
end
end L2
namespace L2
open PySem
section
variable {X:Cx}
theorem Hn {st:Stmt}{t t':TS}(h:PS X st t)(hw:∀ (D:kT) (σ:St) (H:Hp),t' D σ H->t D σ H):PS X st t':=fun pins s σ H D I q=>h pins s σ H D I (hw D σ H q)
end
end L2
namespace L2
open PySem PyProof.Rows
section
variable {X:Cx}
end
end L2
namespace L2
open PySem PySem.Spec PyProof.Rows
section
variable {X:Cx}
end
end L2
namespace L2
open PySem PySem.Spec PyProof.Rows
end L2
namespace L2
open PySem PyProof.Rows PySem.Spec
section
variable {X:Cx}
theorem Ep (K:PySem.W.Frag)(hK:X.K=K)(hu:X.A.units<cLine):OpR X (compareOp .NotEq) (fun x y H Q=>∃ (p b:Addr) (ys:List V),x = .ref p∧y = .ref b∧SqL K H p ys∧SqL K H b []∧Q (.bl (!ys.isEmpty)) H):=by
 subst hK
 intro pins s σ H x y v u Q I rx ry h
 obtain ⟨p,b,ys,rfl,rfl,h1,h2,q⟩:=h
 cases rx
 cases ry
 obtain ⟨its,r,pl,_⟩:=I.list h1
 obtain ⟨its2,r2,pl2,_⟩:=I.list h2
 have l1:=r.length
 have l2:=r2.length
 cases ys with
 | nil =>
  have e1:its=[]:=List.length_eq_zero_iff.mp l1.symm
  have e2:its2=[]:=List.length_eq_zero_iff.mp l2.symm
  subst e1 e2
  refine SeqAt.RcNeAt.lists (e:=fun _=>true) pl.isList pl2.isList rfl hu (fun j g1 g2=>absurd g1 (by simp)) _ _ _ _ ?_
  exact ⟨.bl _,H,I,rfl,q⟩
 | cons y ys =>
  refine SeqAt.RcNeAt.lists_lengths pl.isList pl2.isList (by rw [List.size_toArray,List.size_toArray,bne_iff_ne];simp only [List.length_cons,List.length_nil] at l1 l2;omega) hu _ _ _ _ ?_
  exact ⟨.bl _,H,I,rfl,q⟩
end
end L2
namespace LT
open PySem PyProof.Rows L2
section
variable {prog:Program}{w:World}{A:Around}{R:Result->Shared->Prop}{s:Shared}{l b:Addr}{its jts:Array Value}
end
section
variable {X:Cx}
end
end LT
namespace L2
open PySem PyProof.Rows PySem.Spec
section
variable {X:Cx}{e:Expr}{ta:TE}{f:Str}{pos:Pos}
theorem Ik (K:PySem.W.Frag)(h:X.K=K)(he:PE X e ta)(hb:attributeBase e f X.env (eval e X.env)=eval e X.env):PE X (.Attribute e f pos) (Pm K ta f):=by subst h;exact qC he hb
end
end L2
namespace L2
open PySem PyProof.Rows PySem.Spec
section
variable {X:Cx}
theorem Hb:OpR X (binaryOp .Add) (fun x y H Q=>∃ a b xs ys,x = .ref a∧y = .ref b∧SqT X.K H a xs∧SqT X.K H b ys∧ys≠[]∧xs.length+ys.length<=sizeLine∧(xs=[]->Q (.ref b) H)∧(xs≠[]->∀ p,H p=none->Q (.ref p) (upd H p (.tup (xs++ys))))):=by
 intro pins s σ H x y v u Q I rx ry h
 obtain ⟨a,b,xs,ys,rfl,rfl,ha,hb,hy,hz,q1,q2⟩:=h
 by_cases hx:xs=[]
 ·subst hx
  cases rx
  cases ry
  obtain ⟨its,r1,p1,_⟩:=I.tuple ha
  obtain ⟨its2,r2,p2,_⟩:=I.tuple hb
  obtain ⟨⟨cls,dd,data,sl⟩,ho,hc,n,hd⟩:=id p1
  obtain ⟨⟨cls2,dd2,data2,sl2⟩,ho2,hc2,n2,hd2⟩:=id p2
  simp only at hc hd hc2 hd2
  subst hc hd hc2 hd2
  have e0:its=[]:=r1.nil_iff.mpr rfl
  exact concat_meets ⟨_,ho,rfl⟩ ⟨_,ho2,rfl⟩ noFill_tuple_add seq_tuple_add PySem.F.slot_tuple_add PySem.F.entry_tuple_add (PySem.F.args_tuple_add_2 _ _)
   (tuple_addW0 a b its.toArray its2.toArray n n2 dd dd2 sl sl2 (by simp [e0])) ⟨ho,ho2,⟨.ref b,H,I,rfl,q1 rfl⟩⟩
 ·exact Jf pins s σ H _ _ v u Q I rx ry ⟨a,b,xs,ys,rfl,rfl,ha,hb,hx,hz,fun z=>absurd z hy,fun _=>q2 hx⟩
end
end L2
namespace K34
open PySem L2
seal L2.PSs L2.PS L2.PE L2.PA L2.PT L2.PW L2.PI L2.PG L2.PGs L2.PO L2.PTy L2.PH L2.OpR L2.eO L2.IxR L2.SlR L2.UnR L2.Qe
def top (i:Nat):Stmt:=PySem.Challenge.pw_onceround_k34_no_tree.main.body.getD i (.Pass ⟨0,0,0,0⟩)
abbrev fQ:Stmt:=top 6
abbrev mZ:Stmt:=top 7
abbrev kQ:Stmt:=top 8
abbrev cR:Stmt:=top 9
abbrev bZ:Stmt:=top 10
abbrev fL:Stmt:=top 11
abbrev gX:Stmt:=top 12
abbrev gE:Stmt:=top 23
abbrev fS:Stmt:=top 24
abbrev nE:Stmt:=top 25
abbrev pP:Stmt:=top 26
abbrev iV:Stmt:=top 30
abbrev fH:Stmt:=Ka (top 31) 0
abbrev lI:Stmt:=top 32
abbrev pT:Stmt:=top 33
abbrev kA:Stmt:=top 34
abbrev uG:Stmt:=top 35
abbrev eZ:Stmt:=top 38
abbrev dW:Stmt:=top 39
abbrev gW:Stmt:=top 40
abbrev iJ:Stmt:=top 41
abbrev jV:Stmt:=top 42
abbrev iF:Stmt:=top 43
abbrev mX:Stmt:=top 46
abbrev gY:Stmt:=top 47
abbrev uS:Stmt:=top 44
abbrev oK:Stmt:=top 45
abbrev gH:Stmt:=top 49
abbrev gT:Stmt:=top 50
abbrev fC:Stmt:=top 51
abbrev fY:Stmt:=top 52
abbrev eI:Stmt:=top 53
abbrev eY:Stmt:=top 54
abbrev jT:Stmt:=top 55
abbrev dS:Stmt:=top 56
abbrev gP:Stmt:=top 57
abbrev iY:Stmt:=top 58
abbrev fM:Stmt:=top 59
abbrev mD:Stmt:=top 60
theorem mY:aY ["place", "last", "times"] ["place", "last"] (aJ fQ):=⟨rfl,rfl,rfl,by decide +kernel,rfl,by decide +kernel,by decide +kernel⟩
theorem cJ:aY ["number", "prime", "last", "rest", "last_times", "times", "quotient", "next_rest", "more_times"] ["number", "prime"] (aJ mZ):=⟨rfl,rfl,rfl,by decide +kernel,rfl,by decide +kernel,by decide +kernel⟩
theorem pO:aY ["row", "top", "back", "prime", "times"] ["row", "top", "back", "prime"] (aJ kQ):=⟨rfl,rfl,rfl,by decide +kernel,rfl,by decide +kernel,by decide +kernel⟩
def rE:Scope:={ kind:=PySem.ScopeKind.function,names:=[ (PySem.Str.ofString ".0",PySem.NameKind.local),(PySem.Str.ofString "number",PySem.NameKind.local),(PySem.Str.ofString "above",PySem.NameKind.local),(PySem.Str.ofString "times",PySem.NameKind.free)],isGenerator:=false,isCoroutine:=false,more:=[]:PySem.Scope }
theorem vB:uV ["row", "top", "back", "prime", "times"] ["number", "above", "row", "top", "back", "prime", "times"] (aJ kQ) rE "number" "above" := ⟨rfl,by decide +kernel,by decide +kernel,rfl,rfl,by decide +kernel,rfl,rfl,rfl,by decide +kernel,rfl,by decide +kernel,by decide +kernel⟩
theorem cP:aY ["numbers", "place", "number"] ["numbers"] (aJ cR):=⟨rfl,rfl,rfl,by decide +kernel,rfl,by decide +kernel,by decide +kernel⟩
theorem bG:aY ["square", "prime", "rows", "rest", "place", "top", "back"] ["square", "prime"] (aJ bZ):=⟨rfl,rfl,rfl,by decide +kernel,rfl,by decide +kernel,by decide +kernel⟩
def iP:Scope:={ kind:=PySem.ScopeKind.function,names:=[ (PySem.Str.ofString ".0",PySem.NameKind.local),(PySem.Str.ofString "row",PySem.NameKind.local),(PySem.Str.ofString "prime",PySem.NameKind.free)],isGenerator:=false,isCoroutine:=false,more:=[]:PySem.Scope }
theorem jN:cI ["square", "prime", "rows", "rest", "place", "top", "back"] ["row", "square", "prime", "rows", "rest", "place", "top", "back"] (aJ bZ) iP "row" := ⟨rfl,by decide +kernel,by decide +kernel,rfl,by decide +kernel,rfl,rfl,by decide +kernel,rfl,by decide +kernel,by decide +kernel⟩
def iU:Scope:={ kind:=PySem.ScopeKind.function,names:=[ (PySem.Str.ofString ".0",PySem.NameKind.local),(PySem.Str.ofString "number",PySem.NameKind.local),(PySem.Str.ofString "prime",PySem.NameKind.free)],isGenerator:=false,isCoroutine:=false,more:=[]:PySem.Scope }
theorem jM:cI ["square", "prime", "rows", "rest", "place", "top", "back"] ["number", "square", "prime", "rows", "rest", "place", "top", "back"] (aJ bZ) iU "number" := ⟨rfl,by decide +kernel,by decide +kernel,rfl,by decide +kernel,rfl,rfl,by decide +kernel,rfl,by decide +kernel,by decide +kernel⟩
def iI:Scope:={ kind:=PySem.ScopeKind.function,names:=[ (PySem.Str.ofString ".0",PySem.NameKind.local),(PySem.Str.ofString "row",PySem.NameKind.local),(PySem.Str.ofString "lowered",PySem.NameKind.globalImplicit),(PySem.Str.ofString "back",PySem.NameKind.free),(PySem.Str.ofString "prime",PySem.NameKind.free),(PySem.Str.ofString "top",PySem.NameKind.free)],isGenerator:=false,isCoroutine:=false,more:=[]:PySem.Scope }
theorem jL:cI ["square", "prime", "rows", "rest", "place", "top", "back"] ["row", "square", "prime", "rows", "rest", "place", "top", "back"] (aJ bZ) iI "row" := ⟨rfl,by decide +kernel,by decide +kernel,rfl,by decide +kernel,rfl,rfl,by decide +kernel,rfl,by decide +kernel,by decide +kernel⟩
theorem eU:aY ["square", "bound", "row"] ["square"] (aJ fL):=⟨rfl,rfl,rfl,by decide +kernel,rfl,by decide +kernel,by decide +kernel⟩
def lR:Scope:={ kind:=PySem.ScopeKind.function,names:=[ (PySem.Str.ofString ".0",PySem.NameKind.local),(PySem.Str.ofString "number",PySem.NameKind.local),(PySem.Str.ofString "abs",PySem.NameKind.globalImplicit)],isGenerator:=false,isCoroutine:=false,more:=[]:PySem.Scope }
theorem nI:cI ["square", "bound", "row"] ["number", "square", "bound", "row"] (aJ fL) lR "number" := ⟨rfl,by decide +kernel,by decide +kernel,rfl,by decide +kernel,rfl,rfl,by decide +kernel,rfl,by decide +kernel,by decide +kernel⟩
theorem bL:aY ["square", "bound", "result", "modulus", "place", "times", "prime", "lacking"] ["square"] (aJ gX):=⟨rfl,rfl,rfl,by decide +kernel,rfl,by decide +kernel,by decide +kernel⟩
theorem oG:aY ["kinds"] ["kinds"] (aJ gE):=⟨rfl,rfl,rfl,by decide +kernel,rfl,by decide +kernel,by decide +kernel⟩
theorem mW:aY ["length", "kinds"] ["length", "kinds"] (aJ fS):=⟨rfl,rfl,rfl,by decide +kernel,rfl,by decide +kernel,by decide +kernel⟩
theorem zE:aY ["kinds"] ["kinds"] (aJ nE):=⟨rfl,rfl,rfl,by decide +kernel,rfl,by decide +kernel,by decide +kernel⟩
theorem nA:aY ["word", "kinds", "known", "sign"] ["word", "kinds"] (aJ pP):=⟨rfl,rfl,rfl,by decide +kernel,rfl,by decide +kernel,by decide +kernel⟩
theorem lF:aY ["words", "word"] ["words"] (aJ iV):=⟨rfl,rfl,rfl,by decide +kernel,rfl,by decide +kernel,by decide +kernel⟩
theorem vS:aY ["self", "words"] ["self", "words"] (aJ fH):=⟨rfl,rfl,rfl,by decide +kernel,rfl,by decide +kernel,by decide +kernel⟩
theorem wX:aY ["word"] ["word"] (aJ lI):=⟨rfl,rfl,rfl,by decide +kernel,rfl,by decide +kernel,by decide +kernel⟩
theorem Bk:aY ["word"] ["word"] (aJ pT):=⟨rfl,rfl,rfl,by decide +kernel,rfl,by decide +kernel,by decide +kernel⟩
theorem Dk:aY ["web"] ["web"] (aJ kA):=⟨rfl,rfl,rfl,by decide +kernel,rfl,by decide +kernel,by decide +kernel⟩
def tQ:Scope:={ kind:=PySem.ScopeKind.function,names:=[ (PySem.Str.ofString ".0",PySem.NameKind.local),(PySem.Str.ofString "word",PySem.NameKind.local),(PySem.Str.ofString "begin_of",PySem.NameKind.globalImplicit)],isGenerator:=false,isCoroutine:=false,more:=[]:PySem.Scope }
theorem vN:cI ["web"] ["word", "web"] (aJ kA) tQ "word" := ⟨rfl,by decide +kernel,by decide +kernel,rfl,by decide +kernel,rfl,rfl,by decide +kernel,rfl,by decide +kernel,by decide +kernel⟩
def vJ:Scope:={ kind:=PySem.ScopeKind.function,names:=[ (PySem.Str.ofString ".0",PySem.NameKind.local),(PySem.Str.ofString "word",PySem.NameKind.local),(PySem.Str.ofString "end_of",PySem.NameKind.globalImplicit)],isGenerator:=false,isCoroutine:=false,more:=[]:PySem.Scope }
theorem xD:cI ["web"] ["word", "web"] (aJ kA) vJ "word" := ⟨rfl,by decide +kernel,by decide +kernel,rfl,by decide +kernel,rfl,rfl,by decide +kernel,rfl,by decide +kernel,by decide +kernel⟩
theorem Jm:aY ["web", "piece"] ["web", "piece"] (aJ uG):=⟨rfl,rfl,rfl,by decide +kernel,rfl,by decide +kernel,by decide +kernel⟩
def zC:Scope:={ kind:=PySem.ScopeKind.function,names:=[ (PySem.Str.ofString ".0",PySem.NameKind.local),(PySem.Str.ofString "word",PySem.NameKind.local),(PySem.Str.ofString "begin_of",PySem.NameKind.globalImplicit),(PySem.Str.ofString "piece",PySem.NameKind.free)],isGenerator:=false,isCoroutine:=false,more:=[]:PySem.Scope }
theorem Ck:cI ["web", "piece"] ["word", "web", "piece"] (aJ uG) zC "word" := ⟨rfl,by decide +kernel,by decide +kernel,rfl,by decide +kernel,rfl,rfl,by decide +kernel,rfl,by decide +kernel,by decide +kernel⟩
theorem lB:aY ["texts", "text", "words", "ends"] ["texts", "text", "words"] (aJ eZ):=⟨rfl,rfl,rfl,by decide +kernel,rfl,by decide +kernel,by decide +kernel⟩
def nB:Scope:={ kind:=PySem.ScopeKind.function,names:=[ (PySem.Str.ofString ".0",PySem.NameKind.local),(PySem.Str.ofString "word",PySem.NameKind.local),(PySem.Str.ofString "end_of",PySem.NameKind.globalImplicit)],isGenerator:=false,isCoroutine:=false,more:=[]:PySem.Scope }
theorem oB:cI ["texts", "text", "words", "ends"] ["word", "texts", "text", "words", "ends"] (aJ eZ) nB "word" := ⟨rfl,by decide +kernel,by decide +kernel,rfl,by decide +kernel,rfl,rfl,by decide +kernel,rfl,by decide +kernel,by decide +kernel⟩
def nD:Scope:={ kind:=PySem.ScopeKind.function,names:=[ (PySem.Str.ofString ".0",PySem.NameKind.local),(PySem.Str.ofString "other",PySem.NameKind.local),(PySem.Str.ofString "len",PySem.NameKind.globalImplicit),(PySem.Str.ofString "ends",PySem.NameKind.free),(PySem.Str.ofString "text",PySem.NameKind.free)],isGenerator:=false,isCoroutine:=false,more:=[]:PySem.Scope }
theorem oF:cI ["texts", "text", "words", "ends"] ["other", "texts", "text", "words", "ends"] (aJ eZ) nD "other" := ⟨rfl,by decide +kernel,by decide +kernel,rfl,by decide +kernel,rfl,rfl,by decide +kernel,rfl,by decide +kernel,by decide +kernel⟩
theorem gC:aY ["ways", "texts"] ["ways"] (aJ dW):=⟨rfl,rfl,rfl,by decide +kernel,rfl,by decide +kernel,by decide +kernel⟩
def jK:Scope:={ kind:=PySem.ScopeKind.function,names:=[ (PySem.Str.ofString ".0",PySem.NameKind.local),(PySem.Str.ofString "text",PySem.NameKind.local),(PySem.Str.ofString "choice_row",PySem.NameKind.globalImplicit),(PySem.Str.ofString "texts",PySem.NameKind.free),(PySem.Str.ofString "ways",PySem.NameKind.free)],isGenerator:=false,isCoroutine:=false,more:=[]:PySem.Scope }
theorem jY:cI ["ways", "texts"] ["text", "ways", "texts"] (aJ dW) jK "text" := ⟨rfl,by decide +kernel,by decide +kernel,rfl,by decide +kernel,rfl,rfl,by decide +kernel,rfl,by decide +kernel,by decide +kernel⟩
theorem fB:aY ["web", "piece", "every", "ways", "other"] ["web", "piece"] (aJ gW):=⟨rfl,rfl,rfl,by decide +kernel,rfl,by decide +kernel,by decide +kernel⟩
theorem rJ:aY ["web", "piece"] ["web", "piece"] (aJ iJ):=⟨rfl,rfl,rfl,by decide +kernel,rfl,by decide +kernel,by decide +kernel⟩
theorem dL:aY ["words", "piece", "begins", "word", "found", "waiting", "at", "begin"] ["words", "piece"] (aJ jV):=⟨rfl,rfl,rfl,by decide +kernel,rfl,by decide +kernel,by decide +kernel⟩
theorem lH:aY ["web", "piece", "tree", "ways", "known"] ["web", "piece", "tree"] (aJ iF):=⟨rfl,rfl,rfl,by decide +kernel,rfl,by decide +kernel,by decide +kernel⟩
def rO:Scope:={ kind:=PySem.ScopeKind.function,names:=[ (PySem.Str.ofString ".0",PySem.NameKind.local),(PySem.Str.ofString "word",PySem.NameKind.local),(PySem.Str.ofString "begin_of",PySem.NameKind.globalImplicit)],isGenerator:=false,isCoroutine:=false,more:=[]:PySem.Scope }
theorem uY:cI ["web", "piece", "tree", "ways", "known"] ["word", "web", "piece", "tree", "ways", "known"] (aJ iF) rO "word" := ⟨rfl,by decide +kernel,by decide +kernel,rfl,by decide +kernel,rfl,rfl,by decide +kernel,rfl,by decide +kernel,by decide +kernel⟩
def rG:Scope:={ kind:=PySem.ScopeKind.function,names:=[ (PySem.Str.ofString ".0",PySem.NameKind.local),(PySem.Str.ofString "word",PySem.NameKind.local),(PySem.Str.ofString "web",PySem.NameKind.free)],isGenerator:=false,isCoroutine:=false,more:=[]:PySem.Scope }
theorem uL:cI ["web", "piece", "tree", "ways", "known"] ["word", "web", "piece", "tree", "ways", "known"] (aJ iF) rG "word" := ⟨rfl,by decide +kernel,by decide +kernel,rfl,by decide +kernel,rfl,rfl,by decide +kernel,rfl,by decide +kernel,by decide +kernel⟩
theorem eB:aY ["web", "piece", "number", "ways", "tree", "ahead", "other", "word", "many"] ["web", "piece", "number"] (aJ mX):=⟨rfl,rfl,rfl,by decide +kernel,rfl,by decide +kernel,by decide +kernel⟩
theorem cM:aY ["web", "piece", "tree", "ways", "number", "word", "begin", "lesser"] ["web", "piece", "tree"] (aJ gY):=⟨rfl,rfl,rfl,by decide +kernel,rfl,by decide +kernel,by decide +kernel⟩
theorem jO:aY ["begun", "words", "later", "piece", "size", "found", "tree", "word", "more"] ["begun", "words", "later", "piece", "size"] (aJ uS):=⟨rfl,rfl,rfl,by decide +kernel,rfl,by decide +kernel,by decide +kernel⟩
theorem iA:aY ["web", "piece", "ways", "begun", "other", "later"] ["web", "piece"] (aJ oK):=⟨rfl,rfl,rfl,by decide +kernel,rfl,by decide +kernel,by decide +kernel⟩
def xL:Scope:={ kind:=PySem.ScopeKind.function,names:=[ (PySem.Str.ofString ".0",PySem.NameKind.local),(PySem.Str.ofString "word",PySem.NameKind.local),(PySem.Str.ofString "begin_of",PySem.NameKind.globalImplicit),(PySem.Str.ofString "other",PySem.NameKind.free)],isGenerator:=false,isCoroutine:=false,more:=[]:PySem.Scope }
theorem yT:cI ["web", "piece", "ways", "begun", "other", "later"] ["word", "web", "piece", "ways", "begun", "other", "later"] (aJ oK) xL "word" := ⟨rfl,by decide +kernel,by decide +kernel,rfl,by decide +kernel,rfl,rfl,by decide +kernel,rfl,by decide +kernel,by decide +kernel⟩
theorem nV:aY ["script", "k"] ["script", "k"] (aJ gH):=⟨rfl,rfl,rfl,by decide +kernel,rfl,by decide +kernel,by decide +kernel⟩
theorem dE:aY ["cells", "kinds", "first", "words", "here", "cell", "free", "word"] ["cells", "kinds", "first"] (aJ gT):=⟨rfl,rfl,rfl,by decide +kernel,rfl,by decide +kernel,by decide +kernel⟩
def oE:Scope:={ kind:=PySem.ScopeKind.function,names:=[ (PySem.Str.ofString ".0",PySem.NameKind.local),(PySem.Str.ofString "sign",PySem.NameKind.local),(PySem.Str.ofString "here",PySem.NameKind.free),(PySem.Str.ofString "words",PySem.NameKind.free)],isGenerator:=false,isCoroutine:=false,more:=[]:PySem.Scope }
theorem oY:cI ["cells", "kinds", "first", "words", "here", "cell", "free", "word"] ["sign", "cells", "kinds", "first", "words", "here", "cell", "free", "word"] (aJ gT) oE "sign" := ⟨rfl,by decide +kernel,by decide +kernel,rfl,by decide +kernel,rfl,rfl,by decide +kernel,rfl,by decide +kernel,by decide +kernel⟩
theorem bC:aY ["script", "at", "most", "length", "kinds", "drawn", "first", "k", "words"] ["script", "at", "most"] (aJ fC):=⟨rfl,rfl,rfl,by decide +kernel,rfl,by decide +kernel,by decide +kernel⟩
theorem dQ:aY ["kinds", "length", "words", "k", "longer", "word"] ["kinds", "length"] (aJ fY):=⟨rfl,rfl,rfl,by decide +kernel,rfl,by decide +kernel,by decide +kernel⟩
def mJ:Scope:={ kind:=PySem.ScopeKind.function,names:=[ (PySem.Str.ofString ".0",PySem.NameKind.local),(PySem.Str.ofString "sign",PySem.NameKind.local),(PySem.Str.ofString "word",PySem.NameKind.free)],isGenerator:=false,isCoroutine:=false,more:=[]:PySem.Scope }
theorem nX:cI ["kinds", "length", "words", "k", "longer", "word"] ["sign", "kinds", "length", "words", "k", "longer", "word"] (aJ fY) mJ "sign" := ⟨rfl,by decide +kernel,by decide +kernel,rfl,by decide +kernel,rfl,rfl,by decide +kernel,rfl,by decide +kernel,by decide +kernel⟩
theorem bI:aY ["cell", "most", "sizes", "kinds", "length", "part", "words", "word"] ["cell", "most"] (aJ eI):=⟨rfl,rfl,rfl,by decide +kernel,rfl,by decide +kernel,by decide +kernel⟩
theorem aU:aY ["script", "at", "most", "words", "way", "drawn", "k", "word", "j", "part"] ["script", "at", "most"] (aJ eY):=⟨rfl,rfl,rfl,by decide +kernel,rfl,by decide +kernel,by decide +kernel⟩
theorem eQ:aY ["way", "web", "piece", "more", "word", "e", "flags"] ["way", "web", "piece", "more"] (aJ jT):=⟨rfl,rfl,rfl,by decide +kernel,rfl,by decide +kernel,by decide +kernel⟩
theorem dH:aY ["web", "piece", "way", "more"] ["web", "piece"] (aJ dS):=⟨rfl,rfl,rfl,by decide +kernel,rfl,by decide +kernel,by decide +kernel⟩
theorem iS:aY ["kinds", "words", "sign"] ["kinds"] (aJ gP):=⟨rfl,rfl,rfl,by decide +kernel,rfl,by decide +kernel,by decide +kernel⟩
def oI:Scope:={ kind:=PySem.ScopeKind.function,names:=[ (PySem.Str.ofString ".0",PySem.NameKind.local),(PySem.Str.ofString "other",PySem.NameKind.local),(PySem.Str.ofString "sign",PySem.NameKind.free)],isGenerator:=false,isCoroutine:=false,more:=[]:PySem.Scope }
theorem pR:cI ["kinds", "words", "sign"] ["other", "kinds", "words", "sign"] (aJ gP) oI "other" := ⟨rfl,by decide +kernel,by decide +kernel,rfl,by decide +kernel,rfl,rfl,by decide +kernel,rfl,by decide +kernel,by decide +kernel⟩
theorem fK:aY ["cell", "kinds", "web", "due"] ["cell"] (aJ iY):=⟨rfl,rfl,rfl,by decide +kernel,rfl,by decide +kernel,by decide +kernel⟩
theorem dD:aY ["cell", "shift", "signs", "words", "sign", "web"] ["cell"] (aJ fM):=⟨rfl,rfl,rfl,by decide +kernel,rfl,by decide +kernel,by decide +kernel⟩
def nZ:Scope:={ kind:=PySem.ScopeKind.function,names:=[ (PySem.Str.ofString ".0",PySem.NameKind.local),(PySem.Str.ofString "other",PySem.NameKind.local),(PySem.Str.ofString "sign",PySem.NameKind.free)],isGenerator:=false,isCoroutine:=false,more:=[]:PySem.Scope }
theorem qK:cI ["cell", "shift", "signs", "words", "sign", "web"] ["other", "cell", "shift", "signs", "words", "sign", "web"] (aJ fM) nZ "other" := ⟨rfl,by decide +kernel,by decide +kernel,rfl,by decide +kernel,rfl,rfl,by decide +kernel,rfl,by decide +kernel,by decide +kernel⟩
def oA:Scope:={ kind:=PySem.ScopeKind.function,names:=[ (PySem.Str.ofString ".0",PySem.NameKind.local),(PySem.Str.ofString "other",PySem.NameKind.local),(PySem.Str.ofString "signs",PySem.NameKind.free)],isGenerator:=false,isCoroutine:=false,more:=[]:PySem.Scope }
theorem pD:cI ["cell", "shift", "signs", "words", "sign", "web"] ["other", "cell", "shift", "signs", "words", "sign", "web"] (aJ fM) oA "other" := ⟨rfl,by decide +kernel,by decide +kernel,rfl,by decide +kernel,rfl,rfl,by decide +kernel,rfl,by decide +kernel,by decide +kernel⟩
theorem fV:aY ["script", "words", "web", "piece", "many", "far", "number", "tree", "spoiled", "some"] ["script"] (aJ mD):=⟨rfl,rfl,rfl,by decide +kernel,rfl,by decide +kernel,by decide +kernel⟩
set_option genInjectivity false in
structure Adr where
 BadKinds:Addr
 BadWord:Addr
 TooMany:Addr
 NoSuch:Addr
 NotOne:Addr
 OnceError:Addr
 Web:Addr
 KNOWN_TIMES:Addr
 u_FIRST_PRIME:Value
 u_STEP:Value
 u_LETTERS:Value
 u_LONGEST:Value
 u_MOST_OF_A_WEB:Value
 u_LONGEST_OF_A_WEB:Value
 u_MOST_TREES:Value
set_option genInjectivity false in
structure Txt (K:PySem.W.Frag)(mg:Str->Option Value)(ad:Adr):Prop where
 b_abs:mg "abs" = none
 b_all:mg "all" = none
 b_enumerate:mg "enumerate" = none
 b_isinstance:mg "isinstance" = none
 b_len:mg "len" = none
 b_list:mg "list" = none
 b_range:mg "range" = none
 b_set:mg "set" = none
 b_sorted:mg "sorted" = none
 b_sum:mg "sum" = none
 b_tuple:mg "tuple" = none
 b_zip:mg "zip" = none
 m_BadKinds:mg "BadKinds" = some (.ref ad.BadKinds)
 m_BadWord:mg "BadWord" = some (.ref ad.BadWord)
 m_TooMany:mg "TooMany" = some (.ref ad.TooMany)
 m_NoSuch:mg "NoSuch" = some (.ref ad.NoSuch)
 m_NotOne:mg "NotOne" = some (.ref ad.NotOne)
 m_OnceError:mg "OnceError" = some (.ref ad.OnceError)
 m_Web:mg "Web" = some (.ref ad.Web)
 m_KNOWN_TIMES:mg "KNOWN_TIMES" = some (.ref ad.KNOWN_TIMES)
 x_BadKinds:Exc K mg "BadKinds" ad.BadKinds
 x_BadWord:Exc K mg "BadWord" ad.BadWord
 x_TooMany:Exc K mg "TooMany" ad.TooMany
 x_NoSuch:Exc K mg "NoSuch" ad.NoSuch
 x_NotOne:Exc K mg "NotOne" ad.NotOne
 n_NoSuch:Knd K ad.NoSuch
 n_NotOne:Knd K ad.NotOne
 n_TooMany:Knd K ad.TooMany
 g_FIRST_PRIME:mg "FIRST_PRIME" = some ad.u_FIRST_PRIME
 r_FIRST_PRIME:bH (.int 2305843009213693951) ad.u_FIRST_PRIME
 g_STEP:mg "STEP" = some ad.u_STEP
 r_STEP:bH (.int 6277101735386680763835789423207666416102355444464034512896) ad.u_STEP
 g_LETTERS:mg "LETTERS" = some ad.u_LETTERS
 r_LETTERS:bH (T [97,98,99,100,101,102]) ad.u_LETTERS
 g_LONGEST:mg "LONGEST" = some ad.u_LONGEST
 r_LONGEST:bH (.int 24) ad.u_LONGEST
 g_MOST_OF_A_WEB:mg "MOST_OF_A_WEB" = some ad.u_MOST_OF_A_WEB
 r_MOST_OF_A_WEB:bH (.int 64) ad.u_MOST_OF_A_WEB
 g_LONGEST_OF_A_WEB:mg "LONGEST_OF_A_WEB" = some ad.u_LONGEST_OF_A_WEB
 r_LONGEST_OF_A_WEB:bH (.int 8) ad.u_LONGEST_OF_A_WEB
 g_MOST_TREES:mg "MOST_TREES" = some ad.u_MOST_TREES
 r_MOST_TREES:bH (.int 500) ad.u_MOST_TREES
 q_so:PySem.W.exmOne K (.ref ad.NoSuch) (.ref ad.OnceError)=some true
 q_ss:PySem.W.kitOne K (.ref ad.NoSuch) (.ref ad.NoSuch)=some true
 q_sn:PySem.W.kitOne K (.ref ad.NoSuch) (.ref ad.NotOne)=some false
 q_sm:PySem.W.kitOne K (.ref ad.NoSuch) (.ref ad.TooMany)=some false
 q_no:PySem.W.exmOne K (.ref ad.NotOne) (.ref ad.OnceError)=some true
 q_ns:PySem.W.kitOne K (.ref ad.NotOne) (.ref ad.NoSuch)=some false
 q_nn:PySem.W.kitOne K (.ref ad.NotOne) (.ref ad.NotOne)=some true
 q_nm:PySem.W.kitOne K (.ref ad.NotOne) (.ref ad.TooMany)=some false
 q_mo:PySem.W.exmOne K (.ref ad.TooMany) (.ref ad.OnceError)=some true
 q_ms:PySem.W.kitOne K (.ref ad.TooMany) (.ref ad.NoSuch)=some false
 q_mn:PySem.W.kitOne K (.ref ad.TooMany) (.ref ad.NotOne)=some false
 q_mm:PySem.W.kitOne K (.ref ad.TooMany) (.ref ad.TooMany)=some true
 kt:tupIs K ad.KNOWN_TIMES [133,211,598,652,721,850,1282,1417,1582,1681,1726,1837,1885,2017,2377,2383,2452,2476,2530,2611,2662,2698,2773,2878,2917,2980,2998,3082,3238,3250,3343,3421,3427,3670,3817,4162,4252,4447,4468,4621,4630,4747,4867,4891,4915,5128,5143,5236,5401,5587,5650,5803,5833,5923,5986,6202,6235,6286,6496,6526,6736,7093,7561,7696,7831,7855,7882,7927,8143,8248]=true
 cl_Web:Cls K ad.Web
 na_Web_words:jW K ad.Web "words"
 na_Web_length:jW K ad.Web "length"
theorem dI {CX:CXT}{P:Program}{w:World}{K:PySem.W.Frag}{mg:Str->Option Value}{base:Heap}{N:List Str}{q:Str}{sc:Scope}{f:Addr}{cdv:Value}{A:Around}{outer:List Env}{s:Shared}{H:Hp}{E:XK}:(nU CX P w K mg base N q sc f cdv A outer s H E).nox.K=K:=rfl
section
variable {P:Program}{w:World}{K:PySem.W.Frag}{mg:Str->Option Value}{base:Heap}{ad:Adr}
theorem Rf {m:Nat}(h:m<6):([97,98,99,100,101,102]:List Nat)[m]?=some (97+m):=by
 have key:∀ m:Nat,m<6->([97,98,99,100,101,102]:List Nat)[m]?=some (97+m):=by decide
 exact key m h
theorem zM {k c:Nat}(hk:k<=6):c∈([97,98,99,100,101,102]:List Nat).take k↔97<=c∧c<97+k:=by
 have key:∀ k:Nat,k<7->([97,98,99,100,101,102]:List Nat).take k=(List.range k).map (97 + ·):=by decide
 rw [key k (Nat.lt_succ_of_le hk),List.mem_map]
 exact ⟨fun ⟨i,h,e⟩=>e▸⟨Nat.le_add_right _ _,Nat.add_lt_add_left (List.mem_range.mp h) _⟩,fun ⟨h1,h2⟩=>⟨c-97,List.mem_range.mpr (Nat.sub_lt_left_of_lt_add h1 h2),Nat.add_sub_cancel' h1⟩⟩
def pQ (ad:Adr):Sp:=fun vs H Q E=>∃ k:Int,vs=[.int k]∧((1<=k∧k<=6)->Q .non H)∧(¬ (1<=k∧k<=6)->E (.ref ad.BadKinds) none H)
theorem oH {f:Addr}{fd:FuncData}(F:Fun K "looked_kinds" "looked_kinds" gE f fd)(tt:Txt K mg ad):cD P w K mg base (CX1 P w) 1 f fd ["kinds"] (pQ ad):=by
 refine F.okX oG (fun vs H Q E h=>?_) (fun cdv A outer s H vs Q E hr h=>?_)
 ·obtain ⟨k,rfl,_⟩:=h
  rfl
 ·obtain ⟨k,rfl,q,x⟩:=h
  have hs:sizeLine=16777216:=sizeLine_eq
  refine ⟨_,(aG (bT (PW.pt (wI (aN qB (pv 0) aE (aP _)) (pY (aN jI (pv 0) (aQ eA (by rfl) tt.b_len PySem.boot_len (aA (dA (by rfl) tt.g_LETTERS tt.r_LETTERS) aD)) (aP _))))) (aG (dP (E:=fun cls H'=>E cls none H') tt.x_BadKinds rfl (fun _ _ _ _ _ _ _ I hx q=>fU I hx q) (aA (aS [107,105,110,100,115,32,97,114,101,32,97,32,119,104,111,108,101,32,110,117,109,98,101,114,32,102,114,111,109,32,49,32,116,111,32,54] (by decide +kernel)) aD))) aW)),?_⟩
  (try rw [dI]);(try rw [cxK1])
  refine ⟨_,rfl,_,_,rfl,rfl,_,rfl,?_⟩
  refine eP (fun h0=>Cr ?_) (fun h0=>?_)
  ·have h1:k<1:=of_decide_eq_true h0
   exact ⟨(by show 1<=sizeLine;omega),x fun z=>by omega⟩
  ·have h1:¬ k<1:=fun z=>h0 (decide_eq_true z)
   refine ⟨_,rfl,_,rfl,(by show 6<=sizeLine;omega),_,_,rfl,rfl,_,rfl,?_⟩
   refine eP (fun h2=>?_) (fun h2=>?_)
   ·have h3:(6:Int)<k:=of_decide_eq_true h2
    exact ⟨(by show 1<=sizeLine;omega),x fun z=>by omega⟩
   ·have h3:¬ (6:Int)<k:=fun z=>h2 (decide_eq_true z)
    exact q ⟨by omega,by omega⟩
def Gu (ad:Adr):Sp:=fun vs H Q E=>∃ n k:Int,vs=[.int n,.int k]∧((1<=k∧k<=6)->(1<=n∧n<=24)->Q .non H)∧(¬ (1<=k∧k<=6)->E (.ref ad.BadKinds) none H)∧((1<=k∧k<=6)->¬ (1<=n∧n<=24)->E (.ref ad.BadWord) none H)
theorem mP {f:Addr}{fd:FuncData}(F:Fun K "looked_length" "looked_length" fS f fd)(tt:Txt K mg ad)(C_looked_kinds:Cal P w K mg base (CX1 P w) "looked_kinds" 1 ["kinds"] (pQ ad)) :
  cD P w K mg base (CX1 P w) 2 f fd ["length", "kinds"] (Gu ad):=by
 refine F.okX mW (fun vs H Q E h=>?_) (fun cdv A outer s H vs Q E hr h=>?_)
 ·obtain ⟨n,k,rfl,_⟩:=h
  rfl
 ·obtain ⟨n,k,rfl,q,x1,x2⟩:=h
  have hs:sizeLine=16777216:=sizeLine_eq
  refine ⟨_,(aB (dG (aO C_looked_kinds hr jJ (aA (pv 1) aD)))
   (aG (bT (PW.pt (wI (aN qB (pv 0) aE (aP _)) (pY (aN jI (pv 0) (dA (by rfl) tt.g_LONGEST tt.r_LONGEST) (aP _))))) (aG (dP (E:=fun cls H'=>E cls none H') tt.x_BadWord rfl (fun _ _ _ _ _ _ _ I hx q=>fU I hx q) (aA (aS [97,32,119,111,114,100,32,104,97,115,32,49,32,116,111,32,50,52,32,108,101,116,116,101,114,115] (by decide +kernel)) aD))) aW))),?_⟩
  (try rw [dI]);(try rw [cxK1])
  refine ⟨_,rfl,k,rfl,fun hk=>?_,x1⟩
  refine ⟨_,rfl,_,_,rfl,rfl,_,rfl,?_⟩
  refine eP (fun h0=>Cr ?_) (fun h0=>?_)
  ·have h1:n<1:=of_decide_eq_true h0
   exact ⟨(by show 1<=sizeLine;omega),x2 hk fun z=>by omega⟩
  ·have h1:¬ n<1:=fun z=>h0 (decide_eq_true z)
   refine ⟨_,rfl,_,_,rfl,rfl,_,rfl,?_⟩
   refine eP (fun h2=>?_) (fun h2=>?_)
   ·have h3:(24:Int)<n:=of_decide_eq_true h2
    exact ⟨(by show 1<=sizeLine;omega),x2 hk fun z=>by omega⟩
   ·have h3:¬ (24:Int)<n:=fun z=>h2 (decide_eq_true z)
    exact q hk ⟨by omega,by omega⟩
def oW (ad:Adr):Sp:=fun vs H Q E=>∃ k:Int,vs=[.int k]∧(∀ kn:Nat,k=(kn:Nat)->(1<=kn∧kn<=6)->Q (T (([97,98,99,100,101,102]:List Nat).take kn)) H)∧(¬ (1<=k∧k<=6)->E (.ref ad.BadKinds) none H)
theorem xT {f:Addr}{fd:FuncData}(F:Fun K "letters" "letters" nE f fd)(tt:Txt K mg ad)(C_looked_kinds:Cal P w K mg base (CX1 P w) "looked_kinds" 1 ["kinds"] (pQ ad)):cD P w K mg base (CX1 P w) 2 f fd ["kinds"] (oW ad):=by
 refine F.okX zE (fun vs H Q E h=>?_) (fun cdv A outer s H vs Q E hr h=>?_)
 ·obtain ⟨k,rfl,_⟩:=h
  rfl
 ·obtain ⟨k,rfl,q,x⟩:=h
  have hs:sizeLine=16777216:=sizeLine_eq
  refine ⟨_,(aB (dG (aO C_looked_kinds hr jJ (aA (pv 0) aD)))
   (aG (bA (bD kU (dA (by rfl) tt.g_LETTERS tt.r_LETTERS) bN (bF (pv 0)))))),?_⟩
  (try rw [dI]);(try rw [cxK1])
  refine ⟨_,rfl,k,rfl,fun hk=>?_,x⟩
  obtain ⟨kn,rfl⟩:∃ kn:Nat,k=(kn:Nat):=⟨k.toNat,by omega⟩
  refine ⟨_,rfl,_,rfl,_,rfl,(by show 6<=sizeLine;omega),?_⟩
  rw [Iw (by show kn<=6;omega)]
  exact q kn rfl ⟨by omega,by omega⟩
def tZ (w:List Nat)(kn:Nat):Prop:=(1<=w.length∧w.length<=24)∧∀ c∈w,97<=c∧c<97+kn
def sU (ad:Adr):Sp:=fun vs H Q E=>∃ (w:List Nat) (k:Int),vs=[T w,.int k]∧w.length<=100000∧(¬ (1<=k∧k<=6)->E (.ref ad.BadKinds) none H) ∧
 ∀ kn:Nat,k=(kn:Nat)->(1<=kn∧kn<=6)->(tZ w kn->Q .non H)∧(¬ tZ w kn->E (.ref ad.BadWord) none H)
theorem Bt {f:Addr}{fd:FuncData}(F:Fun K "looked" "looked" pP f fd)(tt:Txt K mg ad)(C_looked_length:Cal P w K mg base (CX1 P w) "looked_length" 2 ["length", "kinds"] (Gu ad))
  (C_letters:Cal P w K mg base (CX1 P w) "letters" 2 ["kinds"] (oW ad)):cD P w K mg base (CX1 P w) 3 f fd ["word", "kinds"] (sU ad):=by
 refine F.okX nA (fun vs H Q E h=>?_) (fun cdv A outer s H vs Q E hr h=>?_)
 ·obtain ⟨w,k,rfl,_⟩:=h
  rfl
 ·obtain ⟨w,k,rfl,hw,x1,q⟩:=h
  have hs:sizeLine=16777216:=sizeLine_eq
  refine ⟨_,(aB (dG (aO C_looked_length hr jJ (aA (aQ eA (by rfl) tt.b_len PySem.boot_len (aA (pv 0) aD)) (aA (pv 1) aD))))
   (aB (aI (i:=2) nA.nd rfl (Or.inl rfl) (aO C_letters hr jJ (aA (pv 1) aD)))
   (aG (cC PassesOwn.leaving rfl (jX (pv 0)) (bJ (i:=3) nA.nd rfl (Or.inl rfl)) (aG (bT (aN wY (pv 3) (pv 2) (by with_unfolding_all rfl)) (aG (dP (E:=fun cls H'=>E cls none H') tt.x_BadWord rfl (fun _ _ _ _ _ _ _ I hx q=>fU I hx q) (aA (aS [97,32,119,111,114,100,32,104,97,115,32,108,101,116,116,101,114,115,32,111,102,32,105,116,115,32,107,105,110,100,115,32,97,108,111,110,101] (by decide +kernel)) aD))) aW)))))),?_⟩
  (try rw [dI]);(try rw [cxK1])
  refine ⟨_,rfl,_,rfl,(by omega),_,rfl,_,k,rfl,fun hk hn=>?_,x1,fun hk hn=>?_⟩
  rotate_left
  ·obtain ⟨kn,rfl⟩:∃ kn:Nat,k=(kn:Nat):=⟨k.toNat,by omega⟩
   exact (q kn rfl ⟨by omega,by omega⟩).2 fun z=>hn ⟨by have:=z.1;omega,by have:=z.1;omega⟩
  obtain ⟨kn,rfl⟩:∃ kn:Nat,k=(kn:Nat):=⟨k.toNat,by omega⟩
  obtain ⟨q1,q2⟩:=q kn rfl ⟨by omega,by omega⟩
  refine ⟨_,rfl,_,rfl,fun kn' ek hk'=>?_,fun z=>absurd hk z⟩
  obtain rfl:kn=kn':=by omega
  refine ⟨_,rfl,_,rfl,?_⟩
  refine pF (l:=w) (fun i σ H2=>H=H2∧(∀ c∈w.take i,97<=c∧c<97+kn)∧∃ v,σ=[some (T w),some (.int (kn:Nat)),some (T (([97,98,99,100,101,102]:List Nat).take kn)),v]) ⟨rfl,fun c hc=>(by simp at hc),none,rfl⟩ ?_ ?_
  ·rintro i c σ H2 hi ⟨rfl,hall,v,rfl⟩
   refine ⟨_,rfl,_,rfl,_,rfl,_,rfl,_,rfl,?_⟩
   refine eP (fun h0=>?_) (fun h0=>?_)
   ·have h1:¬ c∈([97,98,99,100,101,102]:List Nat).take kn:=fun z=>by
     rw [decide_eq_true z] at h0
     cases h0
    refine ⟨(by show 1<=sizeLine;omega),q2 fun z=>h1 ?_⟩
    exact (zM (by omega)).mpr (z.2 c (List.mem_of_getElem? hi))
   ·have h1:c∈([97,98,99,100,101,102]:List Nat).take kn:=by
     apply Classical.byContradiction
     intro z
     rw [decide_eq_false z] at h0
     exact h0 rfl
    refine ⟨rfl,fun d hd=>?_,_,rfl⟩
    have hil:=(List.getElem?_eq_some_iff.mp hi).1
    rw [List.take_add_one,hi] at hd
    rcases List.mem_append.mp hd with z | z
    ·exact hall d z
    ·have:d=c:=by simpa using z
     subst this
     exact (zM (by omega)).mp h1
  ·rintro σ H2 ⟨rfl,hall,v,rfl⟩
   rw [List.take_length] at hall
   exact q1 ⟨⟨by omega,by omega⟩,hall⟩
def qQ (k:Nat)(ls:List (List Nat)):Prop:=∃ ps:List (List Nat),ps.length<=k∧∀ w∈ls,w.take (w.length-1)∈ps∧w.drop 1∈ps
def Few (ls:List (List Nat)):Prop:=qQ 61 ls
theorem qQ.sub {k:Nat}{ls ms:List (List Nat)}(h:qQ k ls)(s:∀ w∈ms,w∈ls):qQ k ms:=h.elim fun ps g=>⟨ps,g.1,fun w hw=>g.2 w (s w hw)⟩
theorem qQ.len {k:Nat}{ls:List (List Nat)}(h:2*ls.length<=k):qQ k ls:=⟨ls.map (fun w=>w.take (w.length-1))++ls.map (fun w=>w.drop 1),by rw [List.length_append,List.length_map,List.length_map];omega,fun w hw=>⟨List.mem_append.mpr (.inl (List.mem_map.mpr ⟨w,hw,rfl⟩)),List.mem_append.mpr (.inr (List.mem_map.mpr ⟨w,hw,rfl⟩))⟩⟩
theorem Fz {ls:List (List Nat)}(h:ls.Nodup):(uniq ls).length=ls.length:=((List.perm_ext_iff_of_nodup (qJ ls) h).mpr fun x=>gJ ls x).length_eq
theorem Mp {H:Hp}{p x C dx:Addr}{fs:List (Str×V)}{xs:List V}{o:HO}(h:SqL K H p xs)(hx:H x=some (.ins C dx fs)):SqL K (upd H x o) p xs:=by
 rcases h with (h | ⟨q,h⟩) | h
 ·exact .inl (.inl (by rw [aH (fun z=>by subst z;rw [hx] at h;cases h)];exact h))
 ·exact .inl (.inr ⟨q,by rw [aH (fun z=>by subst z;rw [hx] at h;cases h)];exact h⟩)
 ·exact .inr h
def fP (ls:List (List Nat))(n:Nat):Prop:=ls≠[]∧ls.length<=63∧((1<=n∧n<=8)∧Few ls)∧(∀ x∈ls,x.length=n∧∀ c∈x,97<=c∧c<103)∧ls.Nodup
def Ds (K:PySem.W.Frag):Sp:=fun vs H Q _=>∃ (p:Addr) (ls:List (List Nat)) (n:Nat),vs=[.ref p]∧SqL K H p (ls.map T)∧fP ls n∧∀ H',aM H H'->Q .non H'
theorem rD {f:Addr}{fd:FuncData}(F:Fun K "looked_web" "looked_web" iV f fd)(tt:Txt K mg ad)(C_looked:Cal P w K mg base (CX1 P w) "looked" 3 ["word", "kinds"] (sU ad)) :
  cD P w K mg base (CX1 P w) 4 f fd ["words"] (Ds K):=by
 refine F.okX lF (fun vs H Q E h=>?_) (fun cdv A outer s H vs Q E hr h=>?_)
 ·obtain ⟨p,ls,n,rfl,_⟩:=h
  rfl
 ·obtain ⟨p,ls,n,rfl,hS,⟨hne,h64,hn,hx,hnd⟩,q⟩:=h
  have hs:sizeLine=16777216:=sizeLine_eq
  have hl0:0<ls.length:=List.length_pos_iff.mpr hne
  obtain ⟨x0,hx0⟩:∃ x0,ls[0]?=some x0:=⟨_,List.getElem?_eq_getElem hl0⟩
  have hx0l:=(hx x0 (List.mem_of_getElem? hx0)).1
  refine ⟨_,(aB (bT (aN jI (aQ aV (by rfl) tt.b_len PySem.boot_len (aA (pv 0) aD)) (dA (by rfl) tt.g_MOST_OF_A_WEB tt.r_MOST_OF_A_WEB) (aP _)) (aG (dP (E:=fun cls H'=>E cls none H') tt.x_TooMany rfl (fun _ _ _ _ _ _ _ I hx q=>fU I hx q) (aA (aS [97,32,119,101,98,32,104,97,115,32,97,116,32,109,111,115,116,32,54,52,32,119,111,114,100,115] (by decide +kernel)) aD))) aW)
   (aB (bT (aN cG (aQ aV (by rfl) tt.b_len PySem.boot_len (aA (pv 0) aD)) aE (aP _)) (aG (dP (E:=fun cls H'=>E cls none H') tt.x_BadWord rfl (fun _ _ _ _ _ _ _ I hx q=>fU I hx q) (aA (aS [97,32,119,101,98,32,104,97,115,32,97,116,32,108,101,97,115,116,32,111,110,101,32,119,111,114,100] (by decide +kernel)) aD))) aW)
   (aB (cC PassesOwn.leaving rfl (bW (pv 0)) (bJ (i:=1) lF.nd rfl (Or.inl rfl)) (aB (dG (aO C_looked hr jJ (aA (pv 1) (aA (aQ eA (by rfl) tt.b_len PySem.boot_len (aA (dA (by rfl) tt.g_LETTERS tt.r_LETTERS) aD)) aD))))
   (aB (bT (aN jI (aQ eA (by rfl) tt.b_len PySem.boot_len (aA (pv 1) aD)) (dA (by rfl) tt.g_LONGEST_OF_A_WEB tt.r_LONGEST_OF_A_WEB) (aP _)) (aG (dP (E:=fun cls H'=>E cls none H') tt.x_BadWord rfl (fun _ _ _ _ _ _ _ I hx q=>fU I hx q) (aA (aS [97,32,119,111,114,100,32,111,102,32,97,32,119,101,98,32,104,97,115,32,97,116,32,109,111,115,116,32,56,32,108,101,116,116,101,114,115] (by decide +kernel)) aD))) aW)
   (aG (bT (aN jE (aQ eA (by rfl) tt.b_len PySem.boot_len (aA (pv 1) aD)) (aQ eA (by rfl) tt.b_len PySem.boot_len (aA (cO cH (pv 0) aE (fun _ _=>rfl)) aD)) (aP _)) (aG (dP (E:=fun cls H'=>E cls none H') tt.x_BadWord rfl (fun _ _ _ _ _ _ _ I hx q=>fU I hx q) (aA (aS [116,104,101,32,119,111,114,100,115,32,111,102,32,97,32,119,101,98,32,104,97,118,101,32,111,110,101,32,108,101,110,103,116,104] (by decide +kernel)) aD))) aW)))))
   (aG (bT (aN jE (aQ By (by rfl) tt.b_len PySem.boot_len (aA (dR (Ct rfl) (by rfl) tt.b_set (by decide +kernel) (aA (pv 0) aD)) aD)) (aQ aV (by rfl) tt.b_len PySem.boot_len (aA (pv 0) aD)) (aP _)) (aG (dP (E:=fun cls H'=>E cls none H') tt.x_BadWord rfl (fun _ _ _ _ _ _ _ I hx q=>fU I hx q) (aA (aS [97,32,119,111,114,100,32,115,116,97,110,100,115,32,105,110,32,97,32,119,101,98,32,111,110,99,101] (by decide +kernel)) aD))) aW))))),?_⟩
  (try rw [dI]);(try rw [cxK1])
  refine ⟨_,rfl,p,_,rfl,.inl hS,_,_,rfl,rfl,_,rfl,?_⟩
  rw [List.length_map]
  refine eP (fun h0=>absurd (of_decide_eq_true h0) (by omega)) (fun _=>?_)
  refine ⟨_,rfl,p,_,rfl,.inl hS,_,rfl,_,rfl,_,rfl,?_⟩
  rw [List.length_map]
  refine eP (fun h0=>absurd (of_decide_eq_true h0) (by omega)) (fun _=>?_)
  refine ⟨_,rfl,p,rfl,⟨_,hS⟩,?_⟩
  refine cK (K:=K) (a:=p) (xs:=ls.map T) (fun i σ H2=>H2=H∧∃ v,σ=[some (.ref p),v]) ⟨rfl,none,rfl⟩ (fun i σ H2 _ h=>by rw [h.1];exact hS) ?_ ?_
  ·rintro i y σ H2 hi ⟨rfl,v,rfl⟩
   obtain ⟨x,hxi,rfl⟩:∃ x,ls[i]?=some x∧y=T x:=by
    rw [List.getElem?_map] at hi
    obtain ⟨x,h1,h2⟩:=Option.map_eq_some_iff.mp hi
    exact ⟨x,h1,h2.symm⟩
   obtain ⟨hxl,hxc⟩:=hx x (List.mem_of_getElem? hxi)
   have hg:∀ kn:Nat,(6:Int)=(kn:Nat)->tZ x kn:=fun kn e=>⟨⟨by omega,by omega⟩,fun c hc=>by have:=hxc c hc;omega⟩
   refine ⟨_,rfl,_,rfl,(by show 6<=sizeLine;omega),x,6,rfl,(by omega),fun z=>absurd ⟨by decide,by decide⟩ z,fun kn ek hk=>⟨fun _=>?_,fun z=>absurd (hg kn ek) z⟩⟩
   refine ⟨_,rfl,_,rfl,(by omega),_,_,rfl,rfl,_,rfl,?_⟩
   refine eP (fun h0=>absurd (of_decide_eq_true h0) (by omega)) (fun _=>?_)
   refine ⟨_,rfl,_,rfl,(by omega),_,rfl,p,_,_,_,rfl,rfl,hS,bS (j:=0) (by rw [List.getElem?_map,hx0];rfl),_,rfl,(by omega),_,rfl,_,rfl,_,rfl,?_⟩
   refine Kk (by rw [hxl,hx0l]) ?_
   exact ⟨rfl,_,rfl⟩
  ·rintro σ H2 ⟨rfl,v,rfl⟩
   refine ⟨_,rfl,p,ls,rfl,hS,(by omega),fun D hD=>?_⟩
   have sD:aM H2 (upd H2 D (Gr P w D (uniq ls))):=fun b o e=>by rw [aH (aK e hD)];exact e
   refine ⟨D,_,rfl,aC,_,rfl,p,_,rfl,.inl (sD.seq hS),_,rfl,_,rfl,_,rfl,?_⟩
   refine Kk (by rw [List.length_map,Fz hnd]) ?_
   exact q _ sD
def Ju (tp:Addr)(n:Int):List (Str×V):=jD "length" (.int n) (jD "words" (.ref tp) [])
theorem qL (tp:Addr)(n:Int):(Ju tp n).lookup ("words" : Str)=some (.ref tp):=by
 unfold Ju
 rw [gM,if_neg (by decide +kernel),gM,if_pos rfl]
def pZ (K:PySem.W.Frag)(C:Addr):Sp:=fun vs H Q _=>∃ (x dx p:Addr) (ls:List (List Nat)) (n:Nat),vs=[.ref x,.ref p]∧H x=some (.ins C dx [])∧SqL K H p (ls.map T)∧fP ls n ∧
 ∀ (tp:Addr) (ms:List (List Nat)) (H':Hp),ms.Perm ls->ms.Pairwise (fun a b=>¬ b<a)->(∀ b o,H b=some o->b≠x->H' b=some o)->H' x=some (.ins C dx (Ju tp (n:Nat)))->H' tp=some (.tup (ms.map T))->Q .non H'
theorem xJ {f:Addr}{fd:FuncData}(F:Fun K "__init__" "Web.__init__" fH f fd)(tt:Txt K mg ad)(C_looked_web:Cal P w K mg base (CX1 P w) "looked_web" 4 ["words"] (Ds K)) :
  cD P w K mg base (CX1 P w) 5 f fd ["self", "words"] (pZ K ad.Web):=by
 refine F.okX vS (fun vs H Q E h=>?_) (fun cdv A outer s H vs Q E hr h=>?_)
 ·obtain ⟨x,dx,p,ls,n,rfl,_⟩:=h
  rfl
 ·obtain ⟨x,dx,p,ls,n,rfl,hx,hS,hok,q⟩:=h
  have hs:sizeLine=16777216:=sizeLine_eq
  obtain ⟨hne,h64,hn,hxs,hnd⟩:=id hok
  have hl0:0<ls.length:=List.length_pos_iff.mpr hne
  obtain ⟨x0,hx0⟩:∃ x0,ls[0]?=some x0:=⟨_,List.getElem?_eq_getElem hl0⟩
  have hx0l:=(hxs x0 (List.mem_of_getElem? hx0)).1
  refine ⟨_,(aB (dG (aO C_looked_web hr jJ (aA (pv 1) aD)))
   (aB (Gi (pv 0) (dR lA (by rfl) tt.b_tuple (by decide +kernel) (aA (aQ uI (by rfl) tt.b_sorted PyProof.Rows.boot_sorted (aA (pv 1) aD)) aD)) rfl)
   (aG (Gi (pv 0) (aQ eA (by rfl) tt.b_len PySem.boot_len (aA (cO cH (pv 1) aE (fun _ _=>rfl)) aD)) rfl)))),?_⟩
  (try rw [dI]);(try rw [cxK1])
  refine ⟨_,rfl,p,ls,n,rfl,hS,hok,fun H1 s1=>?_⟩
  refine ⟨_,rfl,p,ls,rfl,s1.seq hS,(by omega),fun ms D hD hperm hpw=>?_⟩
  have s2:aM H1 (upd H1 D (.lst (ms.map T))):=fun b o e=>by rw [aH (aK e hD)];exact e
  refine ⟨D,_,rfl,.inl ⟨SqL.of aC,fun tp htp=>?_⟩⟩
  have s3:aM (upd H1 D (.lst (ms.map T))) (upd (upd H1 D (.lst (ms.map T))) tp (.tup (ms.map T))):=fun b o e=>by rw [aH (aK e htp)];exact e
  generalize hH3:upd (upd H1 D (.lst (ms.map T))) tp (.tup (ms.map T))=H3 at s3
  have htp3:H3 tp=some (.tup (ms.map T)):=by rw [<- hH3];exact aC
  have s13:aM H H3:=s1.trans (s2.trans s3)
  have hx3:=s13 x _ hx
  have hxt:tp≠x:=fun z=>by subst z;rw [htp3] at hx3;cases hx3
  refine ⟨_,rfl,x,ad.Web,dx,[],rfl,hx3,tt.cl_Web,tt.na_Web_words,(by show 0<1000;decide),?_⟩
  have hS4:SqL K (upd H3 x (.ins ad.Web dx (jD "words" (.ref tp) []))) p (ls.map T):=Mp (s13.seq hS) hx3
  refine ⟨_,rfl,p,_,_,_,rfl,rfl,hS4,bS (j:=0) (by rw [List.getElem?_map,hx0];rfl),_,rfl,(by omega),_,rfl,x,ad.Web,dx,_,rfl,aC,tt.cl_Web,tt.na_Web_length,(by show 1<1000;decide),?_⟩
  refine q tp ms _ hperm hpw (fun b o e hb=>?_) ?_ ?_
  ·rw [aH hb,aH hb]
   exact s13 b o e
  ·rw [aC,hx0l]
   rfl
  ·rw [aH hxt,aH hxt]
   exact htp3
def fN (C:Addr)(H:Hp)(x tp:Addr)(n:Nat)(ms:List (List Nat)):Prop:=(∃ dx,H x=some (.ins C dx (Ju tp (n:Nat))))∧H tp=some (.tup (ms.map T))
theorem fN.on {C:Addr}{H H':Hp}{x tp:Addr}{n:Nat}{ms:List (List Nat)}(h:fN C H x tp n ms)(s:aM H H'):fN C H' x tp n ms:=let ⟨⟨dx,e⟩,t⟩:=h;⟨⟨dx,s _ _ e⟩,s _ _ t⟩
def jA:Sp:=fun vs H Q _=>∃ t:List Nat,vs=[T t]∧(1<=t.length∧t.length<=1000)∧Q (T (t.take (t.length-1))) H
theorem Bx {t:List Nat}(h:1<=t.length):fE t none (some (-1))=t.take (t.length-1):=by
 unfold fE
 rw [HT.eC,List.drop_zero,Nat.sub_zero]
 show t.take (if (-1:Int)<0 then ((-1:Int)+(t.length:Int)).toNat else min (-1:Int).toNat t.length)=_
 rw [if_pos (by decide),show ((-1:Int)+(t.length:Int)).toNat=t.length-1 by omega]
theorem wB {f:Addr}{fd:FuncData}(F:Fun K "begin_of" "begin_of" lI f fd)(tt:Txt K mg ad):cD P w K mg base (CX1 P w) 1 f fd ["word"] jA:=by
 refine F.okN wX (fun vs H Q E h=>?_) (fun cdv A outer s H vs Q E hr h=>?_)
 ·obtain ⟨t,rfl,_⟩:=h
  rfl
 ·obtain ⟨t,rfl,hl,q⟩:=h
  have hs:sizeLine=16777216:=sizeLine_eq
  refine ⟨_,(aG (bA (bD kU (pv 0) bN (bF (sV nG aE))))),?_⟩
  (try rw [dI]);(try rw [cxK1])
  refine ⟨_,rfl,_,rfl,_,rfl,_,rfl,(by omega),?_⟩
  rw [show -(1:Int) = -1 from rfl,Bx hl.1]
  exact q
def Ah:Sp:=fun vs H Q _=>∃ t:List Nat,vs=[T t]∧(1<=t.length∧t.length<=1000)∧Q (T (t.drop 1)) H
theorem Cn {f:Addr}{fd:FuncData}(F:Fun K "end_of" "end_of" pT f fd)(tt:Txt K mg ad):cD P w K mg base (CX1 P w) 1 f fd ["word"] Ah:=by
 refine F.okN Bk (fun vs H Q E h=>?_) (fun cdv A outer s H vs Q E hr h=>?_)
 ·obtain ⟨t,rfl,_⟩:=h
  rfl
 ·obtain ⟨t,rfl,hl,q⟩:=h
  have hs:sizeLine=16777216:=sizeLine_eq
  refine ⟨_,(aG (bA (bD kU (pv 0) (bF aE) bN))),?_⟩
  (try rw [dI]);(try rw [cxK1])
  refine ⟨_,rfl,_,rfl,_,rfl,(by omega),?_⟩
  have e:fE t (some 1) none=t.drop 1:=hZ (k:=1) hl.1
  rw [e]
  exact q
theorem aF {H:Hp}{D:Addr}{o:HO}(h:H D=none):aM H (upd H D o):=fun b u e=>by rw [aH (aK e h)];exact e
theorem Fp {H G:Hp}(s:aM H G):∃ H',H'=G∧aM H H':=⟨G,rfl,s⟩
theorem uC {H G:Hp}{D:Addr}{o:HO}(s:aM H (upd G D o)):∃ H',H'=upd G D o∧aM H H'∧H' D=some o:=⟨_,rfl,s,aC⟩
def beg (l:List Nat):List Nat:=l.take (l.length-1)
def Abc (x:List Nat):Prop:=∀ c∈x,97<=c∧c<103
theorem sO {t:List Nat}:∀ {ls:List (List Nat)},inV (T t) (ls.map T)=decide (t∈ls)
 | []=>by simp [inV]
 | l::ls=>by
  have ih:=@sO t ls
  have e:inV (T t) ((l::ls).map T)=(eqV (T l) (T t)||inV (T t) (ls.map T)):=rfl
  have e2:eqV (T l) (T t)=decide (t=l):=by
   show (tx l==tx t)=decide (t=l)
   rw [Bool.eq_iff_iff,beq_iff_eq,decide_eq_true_iff]
   exact ⟨fun h=>(fD h).symm,fun h=>by rw [h]⟩
  rw [e,ih,e2,Bool.eq_iff_iff,Bool.or_eq_true,decide_eq_true_iff,decide_eq_true_iff,decide_eq_true_iff,List.mem_cons]
theorem itP {c A B:Prop}[Decidable c](hc:c)(h:A):if c then A else B:=by rw [if_pos hc];exact h
theorem itN {c A B:Prop}[Decidable c](hc:¬ c)(h:B):if c then A else B:=by rw [if_neg hc];exact h
def IsP (ms:List (List Nat))(z:List Nat):Prop:=∃ w∈ms,z=beg w∨z=w.drop 1
theorem wJ {k:Nat}{ls ps:List (List Nat)}{p:List Nat}(h:qQ k ls)(hn:ps.Nodup)(hm:∀ z∈ps,z=p∨IsP ls z):ps.length<=k+1:=by
 obtain ⟨qs,h1,h2⟩:=h
 have:=Hg.tN (ms:=p::qs) hn fun z hz=>by
  rcases hm z hz with rfl | ⟨w,hw,rfl | rfl⟩
  ·exact List.mem_cons_self ..
  ·exact List.mem_cons_of_mem _ (h2 w hw).1
  ·exact List.mem_cons_of_mem _ (h2 w hw).2
 rw [List.length_cons] at this
 omega
theorem Ox {ls ps:List (List Nat)}{p:List Nat}(h:Few ls)(hn:ps.Nodup)(hm:∀ z∈ps,z=p∨IsP ls z):ps.length<64:=by
 have:=wJ h hn hm
 omega
def vU (C:Addr):Sp:=fun vs H Q _=>∃ (x tp:Addr) (n:Nat) (ms:List (List Nat)),vs=[.ref x]∧fN C H x tp n ms∧fP ms n ∧
 ∀ (D:Addr) (ps:List (List Nat)) (H':Hp),H D=none->aM H H'->H' D=some (.lst (ps.map T))->ps.Pairwise (fun a b=>¬ b<a)->ps.Nodup->(∀ z,z∈ps↔IsP ms z)->Q (.ref D) H'
theorem Bu {f:Addr}{fd:FuncData}(F:Fun K "pieces" "pieces" kA f fd)(tt:Txt K mg ad)(C_begin_of:Cal P w K mg base (CX1 P w) "begin_of" 1 ["word"] jA)(C_end_of:Cal P w K mg base (CX1 P w) "end_of" 1 ["word"] Ah) :
  cD P w K mg base (CX1 P w) 2 f fd ["web"] (vU ad.Web):=by
 refine F.okN Dk (fun vs H Q E h=>?_) (fun cdv A outer s H vs Q E hr h=>?_)
 ·obtain ⟨x,tp,n,ms,rfl,_⟩:=h
  rfl
 ·obtain ⟨x,tp,n,ms,rfl,hW,hok,q⟩:=h
  have hs:sizeLine=16777216:=sizeLine_eq
  obtain ⟨⟨dx,hx⟩,htp⟩:=id hW
  obtain ⟨hne,h64,hn,hxs,hnd⟩:=id hok
  have ulen:∀ ls:List (List Nat),(uniq ls).length<=ls.length:=fun ls=>nH ls _
  refine ⟨_,(aG (bA (aQ (rM rfl) (by rfl) tt.b_sorted PyProof.Rows.boot_sorted (aA (aL Mc (dR (rY rfl) (by rfl) tt.b_set (by decide +kernel) (aA (dU vN rfl (tU (qC (pv 0) rfl)) (fun cl C s' H' fp=>(aO C_begin_of hr aZ (aA (pv 0) aD)))) aD)) (dR (rY rfl) (by rfl) tt.b_set (by decide +kernel) (aA (dU xD rfl (tU (qC (pv 0) rfl)) (fun cl C s' H' fp=>(aO C_end_of hr aZ (aA (pv 0) aD)))) aD))) aD)))),?_⟩
  (try rw [dI]);(try rw [cxK1])
  refine ⟨_,rfl,x,ad.Web,dx,_,_,rfl,hx,tt.cl_Web,tt.na_Web_words,qL _ _,tp,rfl,⟨_,SqT.of htp⟩,?_⟩
  refine jG (fun v=>T (beg (unT v))) (iE (SqT.of htp)) (by rw [List.length_map];omega) (fun v H2 hv s2 N hN=>?_) fun D1 H2 hD1 s2 hd2=>?_
  ·obtain ⟨l,hl,rfl⟩:=List.mem_map.mp hv
   have hll:=(hxs l hl).1
   have z:=hN H2 (aM.refl _)
   rw [eF] at z
   exact ⟨_,rfl,l,rfl,⟨by omega,by omega⟩,z⟩
  rw [gN (f:=fun l=>T (beg l)),show ms.map (fun l=>T (beg l))=(ms.map beg).map T by rw [List.map_map];rfl] at hd2
  refine ⟨D1,ms.map beg,rfl,SqL.of hd2,(by rw [List.length_map];omega),fun S1 hS1=>?_⟩
  have s3:=s2.trans (aF (o:=lW w S1 (uniq (ms.map beg))) hS1)
  have hd3:upd H2 S1 (lW w S1 (uniq (ms.map beg))) S1=some (lW w S1 (uniq (ms.map beg))):=aC
  refine ⟨_,rfl,x,ad.Web,dx,_,_,rfl,s3 x _ hx,tt.cl_Web,tt.na_Web_words,qL _ _,tp,rfl,⟨_,SqT.of (s3 tp _ htp)⟩,?_⟩
  refine jG (fun v=>T ((unT v).drop 1)) (iE (SqT.of (s3 tp _ htp))) (by rw [List.length_map];omega) (fun v H4 hv s4 N hN=>?_) fun D2 H4 hD2 s4 hd4=>?_
  ·obtain ⟨l,hl,rfl⟩:=List.mem_map.mp hv
   have hll:=(hxs l hl).1
   have z:=hN H4 (aM.refl _)
   rw [eF] at z
   exact ⟨_,rfl,l,rfl,⟨by omega,by omega⟩,z⟩
  rw [gN (f:=fun l=>T (l.drop 1)),show ms.map (fun l=>T (l.drop 1))=(ms.map fun l=>l.drop 1).map T by rw [List.map_map];rfl] at hd4
  refine ⟨D2,ms.map (fun l=>l.drop 1),rfl,SqL.of hd4,(by rw [List.length_map];omega),fun S2 hS2=>?_⟩
  have s5:=aF (o:=lW w S2 (uniq (ms.map fun l=>l.drop 1))) hS2
  have l1:=ulen (ms.map beg)
  have l2:=ulen (ms.map fun l=>l.drop 1)
  rw [List.length_map] at l1 l2
  have hS1':=s5 S1 _ (s4 S1 _ hd3)
  have ne12:S1≠S2:=fun z=>by
   have g:=s4 S1 _ hd3
   rw [z,hS2] at g
   cases g
  refine ⟨S1,S2,_,_,rfl,rfl,ne12,hS1',aC,(fun z=>?_),(by omega),fun D5 qs hD5 hqn hql hqm=>?_⟩
  ·obtain ⟨m0,hm0⟩:∃ m0,m0∈ms:=List.exists_mem_of_ne_nil _ hne
   have:beg m0∈uniq (ms.map beg):=(gJ _ _).mpr (List.mem_map_of_mem hm0)
   rw [z] at this
   cases this
  have s6:=aF (o:=lW w D5 qs) hD5
  refine ⟨D5,qs,rfl,aC,(Ox (p:=[]) hok.2.2.1.2 hqn fun z hz=>.inr ?few),fun ps D6 hD6 hp6 hw6=>?_⟩
  case few =>
   rw [hqm,gJ,gJ,List.mem_map,List.mem_map] at hz
   rcases hz with ⟨l,hl,rfl⟩ | ⟨l,hl,rfl⟩
   ·exact ⟨l,hl,.inl rfl⟩
   ·exact ⟨l,hl,.inr rfl⟩
  have s7:=aF (o:=.lst (ps.map T)) hD6
  have sall:=s3.trans (s4.trans (s5.trans (s6.trans s7)))
  have hD6':H D6=none:=by
   cases e:H D6 with
   | none=>rfl
   | some o =>
    have g:=(s3.trans (s4.trans (s5.trans s6))) D6 o e
    exact absurd (g.symm.trans hD6) (fun z=>nomatch z)
  refine q D6 ps _ hD6' sall aC hw6 (hp6.nodup_iff.mpr hqn) fun z=>?_
  rw [hp6.mem_iff,hqm,gJ,gJ,List.mem_map,List.mem_map]
  constructor
  ·rintro (⟨l,hl,rfl⟩ | ⟨l,hl,rfl⟩)
   ·exact ⟨l,hl,.inl rfl⟩
   ·exact ⟨l,hl,.inr rfl⟩
  ·rintro ⟨l,hl,rfl | rfl⟩
   ·exact .inl ⟨l,hl,rfl⟩
   ·exact .inr ⟨l,hl,rfl⟩
theorem qN {xs:List V}{k:Nat}(h:k<=xs.length):dJ xs (some (k:Int)) none=xs.drop k:=by
 unfold dJ
 rw [HT.eC,show HT.sIx xs.length 0 (some (k:Int))=min k xs.length from HT.dB _ _ k,Nat.min_eq_left h,List.take_of_length_le (by rw [List.length_drop];exact Nat.le_refl _)]
theorem Mn {xs:List V}{k:Nat}(h:k<=xs.length):dJ xs none (some (k:Int))=xs.take k:=by
 unfold dJ
 rw [HT.eC,List.drop_zero,Nat.sub_zero,HT.dB,Nat.min_eq_left h]
theorem eK {i:Int}{n:Nat}(h:i.natAbs<=n)(hn:n<2 ^ 8000):Bg i:=Nat.lt_of_le_of_lt h hn
theorem jB {n k:Nat}(h:n<2 ^ k)(hk:k<=8000):n<2 ^ 8000:=Nat.lt_of_lt_of_le h (Nat.pow_le_pow_right (by decide) hk)
theorem kN {ns:List Int}{j:Nat}(h:j<ns.length):(ns.map V.int)[j]?=some (.int (ns.getD j 0)):=by
 rw [List.getElem?_map,List.getD_eq_getElem?_getD,List.getElem?_eq_getElem h]
 rfl
def yN:Sp:=fun vs H Q _=>∃ (num:Int) (pr:Nat),vs=[.int num,.int (pr:Nat)]∧Dt.cX pr∧pr<2 ^ 1000∧num % (pr:Int)≠0∧∀ inv:Int,Dt.Cg pr (inv*num) 1->0<=inv∧inv<pr->Q (.int inv) H
theorem yK {f:Addr}{fd:FuncData}(F:Fun K "inverse" "inverse" mZ f fd)(tt:Txt K mg ad):cD P w K mg base (CX1 P w) 1 f fd ["number", "prime"] yN:=by
 refine F.okN cJ (fun vs H Q E h=>?_) (fun cdv A outer s H vs Q E hr h=>?_)
 ·obtain ⟨num,pr,rfl,_⟩:=h
  rfl
 ·obtain ⟨num,pr,rfl,hp,hpl,h0,q⟩:=h
  have hp1:=hp.1
  have hpos:(0:Int)<(pr:Int):=by omega
  have h8:=jB hpl (by decide)
  obtain ⟨r,hr'⟩:∃ r:Nat,num % (pr:Int)=r:=⟨(num % pr).toNat,by have:=Int.emod_nonneg num (show (pr:Int)≠0 by omega);omega⟩
  have hrl:r<pr:=by have:=Int.emod_lt_of_pos num hpos;omega
  refine ⟨_,(aB (aI (i:=2) cJ.nd rfl (Or.inl rfl) (pv 1))
   (aB (aI (i:=3) cJ.nd rfl (Or.inl rfl) (aL bY (pv 0) (pv 1)))
   (aB (aI (i:=4) cJ.nd rfl (Or.inl rfl) aE)
   (aB (aI (i:=5) cJ.nd rfl (Or.inl rfl) aE)
   (aB (jZ PassesOwn.never (aN jE (pv 3) aE (aP _)) (aB (aI (i:=6) cJ.nd rfl (Or.inl rfl) (aL Eg (pv 2) (pv 3)))
   (aB (aI (i:=7) cJ.nd rfl (Or.inl rfl) (aL fR (pv 2) (aL eX (pv 6) (pv 3))))
   (aB (aI (i:=2) cJ.nd rfl (Or.inl rfl) (pv 3))
   (aB (aI (i:=3) cJ.nd rfl (Or.inl rfl) (pv 7))
   (aB (aI (i:=8) cJ.nd rfl (Or.inl rfl) (aL fR (pv 4) (aL eX (pv 6) (pv 5))))
   (aB (aI (i:=4) cJ.nd rfl (Or.inl rfl) (pv 5))
   (aG (aI (i:=5) cJ.nd rfl (Or.inl rfl) (pv 8))))))))))
   (aG (bA (aL bY (pv 5) (pv 1))))))))),?_⟩
  (try rw [dI]);(try rw [cxK1])
  refine ⟨_,rfl,?_⟩
  refine ⟨_,rfl,_,rfl,_,_,rfl,rfl,hpos,?_⟩
  refine ⟨fun m σ H2=>H2=H∧∃ (last rest:Nat) (lt t:Int) (v6 v7 v8:Option V),m=rest∧Dt.Euc pr num last rest lt t∧(last<=pr∧rest<=pr)∧σ=[some (.int num),some (.int (pr:Nat)),some (.int (last:Nat)),some (.int (rest:Nat)),some (.int lt),some (.int t),v6,v7,v8],
   ⟨_,rfl,pr,r,0,1,none,none,none,rfl,Dt.Euc.init hp hr' (by omega),⟨Nat.le_refl _,by omega⟩,by rw [<- hr'];rfl⟩,?_⟩
  rintro m σ H2 ⟨rfl,last,rest,lt,t,v6,v7,v8,rfl,he,⟨hl,hrp⟩,rfl⟩
  have hpo:=he.pos
  obtain ⟨ht,hlt⟩:=he.tle
  refine ⟨_,rfl,_,rfl,_,rfl,_,rfl,?_⟩
  by_cases h1:m=1
  ·refine itN (by rw [decide_eq_true (by omega)];exact Bool.false_ne_true) ?_
   exact ⟨_,rfl,_,rfl,_,_,rfl,rfl,hpos,q _ (he.fin h1) ⟨Int.emod_nonneg _ (by omega),Int.emod_lt_of_pos _ hpos⟩⟩
  ·refine itP (by rw [decide_eq_false (by omega)];rfl) ?_
   refine ⟨_,fun σ' H' z=>z,?_⟩
   have hq1:=Nat.div_le_self last m
   have bm:Bg ((m:Nat):Int):=eK (n:=pr) (by rw [Int.natAbs_natCast];exact hrp) h8
   have bq:Bg ((last/m:Nat):Int):=eK (n:=pr) (by rw [Int.natAbs_natCast];omega) h8
   refine ⟨_,rfl,_,rfl,_,_,rfl,rfl,⟨by show (0:Int)<(m:Int);omega,bm⟩,?_⟩
   refine ⟨_,rfl,_,rfl,_,rfl,_,_,rfl,rfl,⟨bq,bm⟩,_,_,rfl,rfl,?_⟩
   have e1:((last:Nat):Int)-((last/m:Nat):Int)*((m:Nat):Int)=((last % m:Nat):Int):=by
    have h:=congrArg (fun n:Nat=>(n:Int)) (Nat.div_add_mod last m)
    simp only [Int.natCast_add,Int.natCast_mul] at h
    rw [Int.mul_comm] at h
    omega
   refine ⟨_,rfl,?_⟩
   refine ⟨_,rfl,?_⟩
   refine ⟨_,rfl,_,rfl,_,rfl,_,_,rfl,rfl,⟨bq,eK ht h8⟩,_,_,rfl,rfl,?_⟩
   refine ⟨_,rfl,?_⟩
   refine ⟨_,rfl,?_⟩
   have hml:=Nat.mod_lt last (show m>0 by omega)
   exact ⟨last % m,hml,rfl,m,last % m,t,_,_,_,_,rfl,he.step h1,⟨hrp,by omega⟩,by rw [<- e1];rfl⟩
def low (back:Int)(pr:Nat)(top row:List Int):List Int:=List.zipWith (fun x y=>x-row.getD 0 0*back % (pr:Int)*y) (row.drop 1) (top.drop 1)
set_option genInjectivity false in
structure vQ (back:Int)(pr n:Nat)(top row:List Int):Prop where
 l1:row.length=n+1
 l2:top.length=n+1
 sz:n<=1000
 pos:0<pr
 ps:pr<2 ^ 1000
 b0:Bg (row.getD 0 0)
 bk:back.natAbs<=pr
 tp:∀ y∈top,y.natAbs<=pr
def Kg (K:PySem.W.Frag):Sp:=fun vs H Q _=>∃ (a b:Addr) (back:Int) (pr n:Nat) (row top:List Int),vs=[.ref a,.ref b,.int back,.int (pr:Nat)]∧SqL K H a (row.map V.int)∧SqL K H b (top.map V.int)∧vQ back pr n top row∧∀ D H',H D=none->aM H H'->H' D=some (.lst ((low back pr top row).map V.int))->Q (.ref D) H'
theorem xU {f:Addr}{fd:FuncData}(F:Fun K "lowered" "lowered" kQ f fd)(tt:Txt K mg ad):cD P w K mg base (CX1 P w) 1 f fd ["row", "top", "back", "prime"] (Kg K):=by
 refine F.okN pO (fun vs H Q E h=>?_) (fun cdv A outer s H vs Q E hr h=>?_)
 ·obtain ⟨a,b,back,pr,n,row,top,rfl,_⟩:=h
  rfl
 ·obtain ⟨a,b,back,pr,n,row,top,rfl,hA,hB,ok,q⟩:=h
  have hs:sizeLine=16777216:=sizeLine_eq
  obtain ⟨l1,l2,sz,pos,ps,b0,bk,tp⟩:=ok
  have hpos:(0:Int)<(pr:Int):=by omega
  have h8:=jB ps (by decide)
  have t0:=Int.emod_nonneg (row.getD 0 0*back) (show (pr:Int)≠0 by omega)
  have t1:=Int.emod_lt_of_pos (row.getD 0 0*back) hpos
  refine ⟨_,(aB (aI (i:=4) pO.nd rfl (Or.inr rfl) (aL bY (aL eX (cO cH (pv 0) aE (fun _ _=>rfl)) (pv 2)) (pv 3)))
   (aB (bT (aN cG (pv 4) aE (aP _)) (aG (bA (bD dF (pv 0) (bF aE) bN))) aW)
   (aG (bA (Ga vB rfl (Mw (by rfl) tt.b_zip (aA (bD dF (pv 0) (bF aE) bN) (aA (bD dF (pv 1) (bF aE) bN) aD))) (fun cl C s' H' fp=>(aL fR (pv 0) (aL eX (pv 6) (pv 1))))))))),?_⟩
  (try rw [dI]);(try rw [cxK1])
  refine ⟨_,rfl,a,_,_,_,rfl,rfl,hA,bS (j:=0) (kN (by omega)),_,rfl,_,_,rfl,rfl,⟨b0,eK bk h8⟩,_,rfl,_,_,rfl,rfl,hpos,?_⟩
  refine ⟨_,rfl,_,rfl,_,rfl,_,rfl,?_⟩
  have cA:dJ (row.map V.int) (some (1:Int)) none=(row.drop 1).map V.int:=by rw [List.map_drop];exact qN (k:=1) (by rw [List.length_map];omega)
  have cB:dJ (top.map V.int) (some (1:Int)) none=(top.drop 1).map V.int:=by rw [List.map_drop];exact qN (k:=1) (by rw [List.length_map];omega)
  by_cases hz:row.getD 0 0*back % (pr:Int)=0
  ·refine itP (decide_eq_true hz) ?_
   refine ⟨_,rfl,_,rfl,a,_,rfl,hA,fun p hp=>?_⟩
   rw [cA]
   refine q p _ hp (aF hp) ?_
   rw [aC]
   congr 3
   unfold low
   rw [hz]
   refine List.ext_getElem? fun i=>?_
   rw [List.getElem?_zipWith]
   by_cases hi:i<n
   ·rw [List.getElem?_eq_getElem (l:=row.drop 1) (by rw [List.length_drop];omega),List.getElem?_eq_getElem (l:=top.drop 1) (by rw [List.length_drop];omega)]
    show some _=some _
    rw [Int.zero_mul,Int.sub_zero]
   ·rw [List.getElem?_eq_none (by rw [List.length_drop];omega)]
  ·refine itN (fun z=>hz (of_decide_eq_true z)) ?_
   refine ⟨_,rfl,_,rfl,a,_,rfl,hA,fun p1 hp1=>?_⟩
   rw [cA]
   have t1':=aF (o:=.lst ((row.drop 1).map V.int)) hp1
   refine ⟨_,rfl,_,rfl,b,_,rfl,t1'.seq hB,fun p2 hp2=>?_⟩
   rw [cB]
   have t2':=aF (o:=.lst ((top.drop 1).map V.int)) hp2
   refine ⟨p1,p2,rfl,⟨_,SqL.of (t2' p1 _ aC)⟩,⟨_,SqL.of aC⟩,?_⟩
   refine Ho (fun x y=>match x,y with | .int i,.int j=>.int (i-row.getD 0 0*back % (pr:Int)*j) | _,_=>.non) (SqL.of (t2' p1 _ aC)) (SqL.of aC) (by rw [List.length_map,List.length_map,List.length_drop,List.length_drop,l1,l2]) (by rw [List.length_map,List.length_drop];omega) (fun i x y H' hx hy s' N hN=>?_) fun D H' hD s' hd=>?_
   ·rw [List.getElem?_map] at hx hy
    obtain ⟨i1,hi1,rfl⟩:=Option.map_eq_some_iff.mp hx
    obtain ⟨j1,hj1,rfl⟩:=Option.map_eq_some_iff.mp hy
    have hj2:=tp j1 (List.mem_of_mem_drop (List.mem_of_getElem? hj1))
    exact ⟨_,rfl,_,rfl,_,rfl,_,_,rfl,rfl,⟨eK (n:=pr) (by omega) h8,eK hj2 h8⟩,_,_,rfl,rfl,hN H' (aM.refl _)⟩
   ·have hD0:H D=none:=by
     cases e:H D with
     | none=>rfl
     | some o=>have:=(t1'.trans t2') D o e;rw [hD] at this;cases this
    refine q D H' hD0 (t1'.trans (t2'.trans s')) ?_
    rw [hd]
    congr 3
    unfold low
    rw [List.zipWith_map,List.map_zipWith]
def zH (K:PySem.W.Frag):Sp:=fun vs H Q _=>∃ (a:Addr) (ns:List Int),vs=[.ref a]∧SqL K H a (ns.map V.int)∧(∀ H',aM H H'->(∀ x∈ns,x=0)->Q .non H')∧∀ (p:Nat) (H':Hp),aM H H'->p<ns.length->ns.getD p 0≠0->Q (.int (p:Nat)) H'
theorem gI {f:Addr}{fd:FuncData}(F:Fun K "first_other_than_nought" "first_other_than_nought" cR f fd)(tt:Txt K mg ad):cD P w K mg base (CX1 P w) 1 f fd ["numbers"] (zH K):=by
 refine F.okN cP (fun vs H Q E h=>?_) (fun cdv A outer s H vs Q E hr h=>?_)
 ·obtain ⟨a,ns,rfl,_⟩:=h
  rfl
 ·obtain ⟨a,ns,rfl,hA,q0,q1⟩:=h
  refine ⟨_,(aB (cC PassesOwn.never rfl (Hy (by rfl) tt.b_enumerate (aA (pv 0) aD)) (yR rfl (gZ (bJ (i:=1) cP.nd rfl (Or.inl rfl)) (gZ (bJ (i:=2) cP.nd rfl (Or.inl rfl)) uA))) (aG (bT (aN jE (pv 2) aE (aP _)) (aG (bA (pv 1))) aW)))
   (aG (bA mT))),?_⟩
  (try rw [dI]);(try rw [cxK1])
  refine ⟨_,rfl,a,rfl,⟨_,hA⟩,?_⟩
  refine Gm (K:=K) (a:=a) (xs:=ns.map V.int) (fun i σ H2=>aM H H2∧(∀ j,j<i->ns.getD j 0=0)∧∃ v1 v2:Option V,σ=[some (.ref a),v1,v2]) ⟨aM.refl _,fun j hj=>absurd hj (Nat.not_lt_zero j),none,none,rfl⟩ (fun i σ H2 _ h=>h.1.seq hA) ?_ ?_
  ·rintro i x p σ H2 hx hp ⟨s2,hz,v1,v2,rfl⟩
   have hi:i<ns.length:=by have:=(List.getElem?_eq_some_iff.mp hx).1;rwa [List.length_map] at this
   rw [kN hi] at hx
   obtain rfl:=Option.some.inj hx
   have t2:=aF (o:=.tup [.int (i:Nat),.int (ns.getD i 0)]) hp
   refine ⟨p,_,rfl,SqT.of aC,rfl,_,_,rfl,_,_,rfl,rfl,?_⟩
   refine ⟨_,rfl,_,rfl,_,rfl,_,rfl,?_⟩
   by_cases h0:ns.getD i 0=0
   ·refine itN (by rw [decide_eq_true h0];exact Bool.false_ne_true) ?_
    exact ⟨s2.trans t2,fun j hj=>by
     rcases Nat.lt_or_ge j i with z | z
     ·exact hz j z
     ·rw [show j=i by omega];exact h0,_,_,rfl⟩
   ·refine itP (by rw [decide_eq_false h0];rfl) ?_
    exact ⟨_,rfl,q1 i _ (s2.trans t2) hi h0⟩
  ·rintro σ H2 ⟨s2,hz,v1,v2,rfl⟩
   rw [List.length_map] at hz
   exact q0 H2 s2 fun x hx=>by
    obtain ⟨j,hj⟩:=List.getElem?_of_mem hx
    have hjl:=(List.getElem?_eq_some_iff.mp hj).1
    have:=hz j hjl
    rwa [List.getD_eq_getElem?_getD,hj] at this
set_option genInjectivity false in
structure Fn (M:List (List Int))(n pr E:Nat):Prop where
 len:M.length=n
 row:∀ r∈M,r.length=n
 sz:n<=100
 pm:Dt.cX pr
 ps:pr<2 ^ 1000
 be:∀ r∈M,∀ x∈r,x.natAbs<=E
 bd:E+n*(pr*pr)<2 ^ 8000
def Gz (K:PySem.W.Frag):Sp:=fun vs H Q _=>∃ (a:Addr) (as:List Addr) (M:List (List Int)) (n pr E:Nat),vs=[.ref a,.int (pr:Nat)]∧SqL K H a (as.map V.ref)∧cZ K H as M∧Fn M n pr E∧∀ (r:Int) (H':Hp),aM H H'->0<=r∧r<pr->Dt.Cg pr r (Dt.det n (Dt.ent M))->Q (.int r) H'
theorem mE {ns:List Int}{j:Nat}(h:j<ns.length):ns.getD j 0∈ns:=by
 rw [List.getD_eq_getElem?_getD,List.getElem?_eq_getElem h]
 exact List.getElem_mem h
theorem zN {back:Int}{pr n:Nat}{top row:List Int}(h:vQ back pr n top row):(low back pr top row).length=n:=by
 unfold low
 have:=h.l1
 have:=h.l2
 rw [List.length_zipWith,List.length_drop,List.length_drop]
 omega
theorem Be {back:Int}{pr n:Nat}{top row:List Int}(h:vQ back pr n top row){k:Nat}(hk:k<n):(low back pr top row).getD k 0=row.getD (k+1) 0-row.getD 0 0*back % (pr:Int)*top.getD (k+1) 0:=by
 have h1:=h.l1
 have h2:=h.l2
 unfold low
 rw [List.getD_eq_getElem?_getD,List.getElem?_zipWith,List.getElem?_drop,List.getElem?_drop,Nat.add_comm 1 k,List.getElem?_eq_getElem (show k+1<row.length by omega),List.getElem?_eq_getElem (show k+1<top.length by omega),List.getD_eq_getElem?_getD (l:=row) (i:=k+1),List.getElem?_eq_getElem (show k+1<row.length by omega),List.getD_eq_getElem?_getD (l:=top),List.getElem?_eq_getElem (show k+1<top.length by omega)]
 rfl
theorem Jx {back:Int}{pr n E:Nat}{top row:List Int}(h:vQ back pr n top row)(hE:∀ x∈row,x.natAbs<=E):∀ x∈low back pr top row,x.natAbs<=E+pr*pr:=fun x hx=>by
 obtain ⟨k,hk⟩:=List.getElem?_of_mem hx
 have hkl:=(List.getElem?_eq_some_iff.mp hk).1
 rw [zN h] at hkl
 have h1:=h.l1
 have h2:=h.l2
 have e:=Be h hkl
 rw [List.getD_eq_getElem?_getD,hk] at e
 have e:x=_:=e
 have b1:=hE _ (mE (ns:=row) (j:=k+1) (by omega))
 have b2:=h.tp _ (mE (ns:=top) (j:=k+1) (by omega))
 have hp:=h.pos
 have t0:=Int.emod_nonneg (row.getD 0 0*back) (show (pr:Int)≠0 by omega)
 have t1:=Int.emod_lt_of_pos (row.getD 0 0*back) (show (0:Int)<pr by omega)
 have b3:=Int.natAbs_sub_le (row.getD (k+1) 0) (row.getD 0 0*back % (pr:Int)*top.getD (k+1) 0)
 rw [Int.natAbs_mul] at b3
 have b4:(row.getD 0 0*back % (pr:Int)).natAbs*(top.getD (k+1) 0).natAbs<=pr*pr:=Nat.mul_le_mul (by omega) b2
 rw [e]
 omega
theorem kW {f:Addr}{fd:FuncData}(F:Fun K "determinant_rest" "determinant_rest" bZ f fd)(tt:Txt K mg ad)(C_first_other_than_nought:Cal P w K mg base (CX1 P w) "first_other_than_nought" 1 ["numbers"] (zH K))(C_inverse:Cal P w K mg base (CX1 P w) "inverse" 1 ["number", "prime"] yN)(C_lowered:Cal P w K mg base (CX1 P w) "lowered" 1 ["row", "top", "back", "prime"] (Kg K)):cD P w K mg base (CX1 P w) 2 f fd ["square", "prime"] (Gz K):=by
 refine F.okN bG (fun vs H Q E h=>?_) (fun cdv A outer s H vs Q E hr h=>?_)
 ·obtain ⟨a,as,M,n,pr,E0,rfl,_⟩:=h
  rfl
 ·obtain ⟨a,as,M,n,pr,B,rfl,hA,hR,ok,q⟩:=h
  have hs:sizeLine=16777216:=sizeLine_eq
  have hu:=Nat.lt_of_succ_lt (jH hr)
  obtain ⟨len,row,sz,pm,ps,be,bd⟩:=ok
  have hp1:=pm.1
  have hpos:(0:Int)<(pr:Int):=by omega
  have h8:=jB ps (by decide)
  refine ⟨_,(aB (aI (i:=2) bG.nd rfl (Or.inl rfl) (dR uJ (by rfl) tt.b_list (by decide +kernel) (aA (pv 0) aD)))
   (aB (aI (i:=3) bG.nd rfl (Or.inl rfl) aE)
   (aB (jZ PassesOwn.never (aN (Ep K rfl hu) (pv 2) (bK aD) (aP _)) (aB (aI (i:=4) bG.nd rfl (Or.inl rfl) (aO C_first_other_than_nought hr aZ (aA (dU jN rfl (bW (pv 2)) (fun cl C s' H' fp=>(aL bY (cO (tI K rfl) (pv 0) aE (fun _ _=>rfl)) (pv 2)))) aD)))
   (aB (bT (Gs (Ly (pv 4))) (aG (bA aE)) aW)
   (aB (aI (i:=5) bG.nd rfl (Or.inr rfl) (dU jM rfl (bW (cO cH (pv 2) (pv 4) (fun _ _=>rfl))) (fun cl C s' H' fp=>(aL bY (pv 0) (pv 2)))))
   (aB (aI (i:=6) bG.nd rfl (Or.inr rfl) (aO C_inverse hr aZ (aA (cO cH (pv 5) aE (fun _ _=>rfl)) (aA (pv 1) aD))))
   (aB (aI (i:=3) bG.nd rfl (Or.inl rfl) (aL bY (aL eX (pv 3) (cO cH (pv 5) aE (fun _ _=>rfl))) (pv 1)))
   (aB (Hn (t':=(fun D σ H=>∃ (x0 x2:V) (pr:Nat) (rst:Int) (p:Nat) (v5 v6:Option V),σ=[some x0,some (.int (pr:Nat)),some x2,some (.int rst),some (.int (p:Nat)),v5,v6]∧D.nx [some x0,some (.int (pr:Nat)),some x2,some (.int (if p % 2=1 then (pr:Int)-rst else rst)),some (.int (p:Nat)),v5,v6] H)) (bT (aN cG (aL bY (pv 4) aE) aE (aP _)) (aG (aI (i:=3) bG.nd rfl (Or.inl rfl) (aL fR (pv 1) (pv 3)))) aW) ?rA)
   (aG (yO (i:=2) jL rfl (bW (aL eV (bD dF (pv 2) bN (bF (pv 4))) (bD dF (pv 2) (bF (aL cQ (pv 4) aE)) bN))) (fun cl C s' H' fp=>(aO C_lowered hr aZ (aA (pv 0) (aA (pv 6) (aA (pv 7) (aA (pv 2) aD)))))) bG.nd rfl rfl)))))))))
   (aG (bA (pv 3)))))),?_⟩
  (try rw [dI]);(try rw [cxK1])
  case rA =>
   rintro D σ H ⟨x0,x2,pr,rst,p,v5,v6,rfl,nxt⟩
   refine ⟨_,rfl,_,_,rfl,rfl,(by show (0:Int)<2;decide),_,rfl,_,rfl,_,rfl,?_⟩
   by_cases h2:p % 2=1
   ·refine itP (decide_eq_true (by omega)) ?_
    refine ⟨_,rfl,_,rfl,_,_,rfl,rfl,?_⟩
    rw [if_pos h2] at nxt
    exact nxt
   ·refine itN (fun z=>h2 (by have:=of_decide_eq_true z;omega)) ?_
    rw [if_neg h2] at nxt
    exact nxt
  refine ⟨_,rfl,a,_,rfl,.inl hA,fun L0 hL0=>?_⟩
  have t0:=aF (o:=.lst (as.map V.ref)) hL0
  refine ⟨fun m σ G=>∃ (Lr:Addr) (bs:List Addr) (N:List (List Int)) (k:Nat) (rest:Int) (v4 v5 v6:Option V),aM H G∧G Lr=some (.lst (bs.map V.ref))∧cZ K G bs N∧N.length=m∧(∀ r∈N,r.length=m)∧m+k=n∧(∀ r∈N,∀ x∈r,x.natAbs<=B+k*(pr*pr))∧(0<rest∧rest<pr)∧Dt.Cg pr (rest*Dt.det m (Dt.ent N)) (Dt.det n (Dt.ent M))∧σ=[some (.ref a),some (.int (pr:Nat)),some (.ref Lr),some (.int rest),v4,v5,v6],
   ⟨n,L0,as,M,0,1,none,none,none,t0,aC,hR.on t0,len,row,by omega,fun r hr x hx=>by rw [Nat.zero_mul];exact be r hr x hx,⟨by decide,by omega⟩,by rw [Int.one_mul];exact Dt.Cg.refl _,rfl⟩,?_⟩
  rintro m σ G ⟨Lr,bs,N,k,rest,v4,v5,v6,sG,hL,hN,hNl,hNr,hmk,hNb,hrest,hcg,rfl⟩
  have hbl:=hN.1
  refine ⟨_,rfl,(by show 0<=sizeLine;omega),fun E1 hE1=>?_⟩
  have tE:=aF (o:=.lst []) hE1
  refine ⟨Lr,E1,_,rfl,rfl,SqL.of (tE Lr _ hL),SqL.of aC,_,rfl,?_⟩
  cases m with
  | zero =>
   obtain rfl:bs=[]:=List.length_eq_zero_iff.mp (by omega)
   refine Bw ?_
   refine ⟨_,rfl,q rest _ (sG.trans tE) ⟨by omega,hrest.2⟩ ?_⟩
   have e:rest*Dt.det 0 (Dt.ent N)=rest:=Int.mul_one rest
   rw [e] at hcg
   exact hcg
  | succ m =>
   refine itP (by cases bs with | nil=>rw [List.length_nil] at hbl;omega | cons y r=>rfl) ?_
   refine ⟨_,fun σ' H' z=>z,?_⟩
   have hL2:=tE Lr _ hL
   have hN2:=hN.on tE
   generalize upd G E1 (.lst [])=G2 at tE hL2 hN2
   refine ⟨_,rfl,Lr,rfl,⟨_,SqL.of hL2⟩,?_⟩
   refine Oy (fun r=>r.getD 0 0 % (pr:Int)) (dY (SqL.of hL2)) hN2 (by omega) (fun a' r G' hrm hS s' N' hN'=>?_) fun D1 G3 hD1 s3 hd3=>?_
   ·exact ⟨_,rfl,a',_,_,_,rfl,rfl,hS,bS (j:=0) (kN (by rw [hNr r hrm];omega)),_,rfl,_,_,rfl,rfl,hpos,hN' G' (aM.refl _)⟩
   have hL3:=s3 Lr _ hL2
   have hN3:=hN2.on s3
   have sG3:=sG.trans (tE.trans s3)
   refine ⟨D1,_,rfl,SqL.of hd3,fun G4 s4 hall=>?_,fun p G4 s4 hp hne=>?_⟩
   ·refine ⟨_,rfl,_,rfl,Cr ?_⟩
    refine q 0 G4 (sG3.trans s4) ⟨Int.le_refl _,hpos⟩ ?_
    have h0:=Dt.Pd (m:=pr) (M:=N) (n:=m) (fun r hrm=>Int.dvd_of_emod_eq_zero (hall _ (List.mem_map.mpr ⟨r,hrm,rfl⟩))) hNl
    have h1:=(Dt.Cg.refl (m:=pr) rest).mul h0
    rw [Int.mul_zero] at h1
    exact h1.symm.trans hcg
   ·rw [List.length_map] at hp
    obtain ⟨rp,hrp⟩:∃ rp,N[p]?=some rp:=⟨_,List.getElem?_eq_getElem hp⟩
    obtain ⟨bp,hbp⟩:∃ bp,bs[p]?=some bp:=⟨_,List.getElem?_eq_getElem (by omega)⟩
    have hrpm:=List.mem_of_getElem? hrp
    have hrl:=hNr rp hrpm
    have hne2:rp.getD 0 0 % (pr:Int)≠0:=by
     rw [List.getD_eq_getElem?_getD,List.getElem?_map,hrp] at hne
     exact hne
    refine ⟨_,rfl,_,rfl,Bw ?_⟩
    have hL4:=s4 Lr _ hL3
    have hN4:=hN3.on s4
    have hS4:=hN4.2 p bp rp hbp hrp
    refine ⟨_,rfl,_,rfl,Lr,_,_,_,rfl,rfl,SqL.of hL4,bS (j:=p) (by rw [List.getElem?_map,hbp];rfl),bp,rfl,⟨_,hS4⟩,?_⟩
    refine jG (fun v=>match v with | .int i=>.int (i % (pr:Int)) | _=>.non) (dY hS4) (by rw [List.length_map];omega) (fun v G' hv s' N' hN'=>?_) fun D2 G5 hD2 s5 hd5=>?_
    ·obtain ⟨i,hi,rfl⟩:=List.mem_map.mp hv
     exact ⟨_,rfl,_,rfl,_,_,rfl,rfl,hpos,hN' G' (aM.refl _)⟩
    have hd5:G5 D2=some (.lst ((rp.map fun i=>i % (pr:Int)).map V.int)):=by rw [hd5,List.map_map,List.map_map];rfl
    have htl:(rp.map fun i=>i % (pr:Int)).length=m+1:=by rw [List.length_map,hrl]
    have htop:∀ k,k<m+1->(rp.map fun i=>i % (pr:Int)).getD k 0=rp.getD k 0 % (pr:Int):=fun k hk=>by
     rw [List.getD_eq_getElem?_getD,List.getElem?_map,List.getD_eq_getElem?_getD,List.getElem?_eq_getElem (by omega)]
     rfl
    have htb:∀ y∈rp.map (fun i=>i % (pr:Int)),y.natAbs<=pr:=fun y hy=>by
     obtain ⟨i,_,rfl⟩:=List.mem_map.mp hy
     have:=Int.emod_nonneg i (show (pr:Int)≠0 by omega)
     have:=Int.emod_lt_of_pos i hpos
     omega
    have ht0:(rp.map fun i=>i % (pr:Int)).getD 0 0 % (pr:Int)≠0:=by rw [htop 0 (by omega),Int.emod_emod];exact hne2
    have htc:∀ k,k<m+1->Dt.Cg pr ((rp.map fun i=>i % (pr:Int)).getD k 0) ((N.getD p []).getD k 0):=fun k hk=>by
     rw [htop k hk,List.getD_eq_getElem?_getD (l:=N),hrp]
     exact Dt.nF _
    generalize rp.map (fun i=>i % (pr:Int))=top at hd5 htl htop htb ht0 htc
    have sG5:=sG3.trans (s4.trans s5)
    have hL5:=s5 Lr _ hL4
    have hN5:=hN4.on s5
    refine ⟨_,rfl,D2,_,_,_,rfl,rfl,SqL.of hd5,bS (j:=0) (kN (by omega)),_,rfl,top.getD 0 0,pr,rfl,pm,ps,ht0,fun inv hinv hib=>?_⟩
    have ht0b:=htb _ (mE (ns:=top) (j:=0) (by omega))
    refine ⟨_,rfl,_,rfl,D2,_,_,_,rfl,rfl,SqL.of hd5,bS (j:=0) (kN (by omega)),_,_,rfl,rfl,⟨eK (n:=pr) (by omega) h8,eK ht0b h8⟩,_,rfl,_,_,rfl,rfl,hpos,?_⟩
    refine ⟨_,_,pr,_,p,_,_,rfl,?_⟩
    have hpl:p<=bs.length:=by omega
    have c1:dJ (bs.map V.ref) none (some ((p:Nat):Int))=(bs.take p).map V.ref:=by rw [List.map_take];exact Mn (by rw [List.length_map];omega)
    have c2:dJ (bs.map V.ref) (some ((p:Nat)+1:Int)) none=(bs.drop (p+1)).map V.ref:=by rw [List.map_drop];exact qN (k:=p+1) (by rw [List.length_map];omega)
    refine ⟨_,rfl,_,rfl,_,rfl,Lr,_,rfl,SqL.of hL5,fun p1 hp1=>?_⟩
    rw [c1]
    have u1:=aF (o:=.lst ((bs.take p).map V.ref)) hp1
    refine ⟨_,rfl,_,rfl,_,_,rfl,rfl,_,rfl,Lr,_,rfl,SqL.of (u1 Lr _ hL5),fun p2 hp2=>?_⟩
    rw [c2]
    have u2:=aF (o:=.lst ((bs.drop (p+1)).map V.ref)) hp2
    refine ⟨p1,p2,_,_,rfl,rfl,SqL.of (u2 p1 _ aC),SqL.of aC,(by rw [List.length_map,List.length_map,List.length_take,List.length_drop];omega),fun p3 hp3=>?_⟩
    rw [show (bs.take p).map V.ref++(bs.drop (p+1)).map V.ref=(bs.eraseIdx p).map V.ref by rw [<- List.map_append,List.eraseIdx_eq_take_drop_succ]]
    have u3:=aF (o:=.lst ((bs.eraseIdx p).map V.ref)) hp3
    have u123:=u1.trans (u2.trans u3)
    refine ⟨p3,rfl,⟨_,SqL.of aC⟩,?_⟩
    have hlok:∀ r∈N,vQ inv pr m top r:=fun r hrm=>⟨hNr r hrm,htl,by omega,by omega,ps,eK (hNb r hrm _ (mE (by rw [hNr r hrm];omega))) (Nat.lt_of_le_of_lt (Nat.add_le_add_left (Nat.mul_le_mul_right _ (show k<=n by omega)) B) bd),by omega,htb⟩
    have hsub:∀ r∈N.eraseIdx p,r∈N:=fun r hr=>List.mem_of_mem_eraseIdx hr
    refine Pj (low inv pr top) (dY (SqL.of aC)) ((hN5.erase p).on u123) (by rw [List.length_eraseIdx];split <;> omega) (fun a' r G' hrm hS s' N' hN'=>?_) fun D4 cs G6 hD4 s6 hd6 _ hR6=>?_
    ·exact ⟨_,rfl,_,rfl,_,rfl,_,rfl,a',D2,inv,pr,m,r,top,rfl,hS,SqL.of (s' D2 _ (u123 D2 _ hd5)),hlok r (hsub r hrm),fun D G'' hD s'' hd=>hN' D G'' s'' hD hd⟩
    ·have hel:=Dt.elim (m:=pr) (n:=m) (p:=p) (M:=N) (top:=top) (back:=inv) (t:=fun r=>r.getD 0 0*inv % (pr:Int)) (low:=low inv pr top) (by omega) hNl htc (by rw [Int.mul_comm];exact hinv) (fun r _=>Dt.nF _) fun r hrm k hk=>Be (hlok r hrm) hk
     obtain ⟨r1,r2⟩:=Dt.Dg hrest hinv hel hcg
     refine ⟨m,Nat.lt_succ_self m,D4,cs,(N.eraseIdx p).map (low inv pr top),k+1,_,_,_,_,sG5.trans (u123.trans s6),hd6,hR6,by rw [List.length_map,List.length_eraseIdx,if_pos (by omega)];omega,fun r hr=>?_,by omega,fun r hr=>?_,r1,r2,rfl⟩
     ·obtain ⟨r',hr',rfl⟩:=List.mem_map.mp hr
      exact zN (hlok r' (hsub r' hr'))
     ·obtain ⟨r',hr',rfl⟩:=List.mem_map.mp hr
      rw [Nat.add_mul,Nat.one_mul,<- Nat.add_assoc]
      exact Jx (hlok r' (hsub r' hr')) (hNb r' (hsub r' hr'))
set_option genInjectivity false in
structure pV (M:List (List Int))(n:Nat):Prop where
 len:M.length=n
 row:∀ r∈M,r.length=n
 sz:n<=64
 sm:∀ r∈M,Dt.rs n r<=2 ^ 110
theorem pV.part {M:List (List Int)}{n:Nat}(h:pV M n)(i:Nat):Dt.pL ((M.take i).map (Dt.rs n))<2 ^ 8000:=by
 have h1:=Dt.Ft (R:=2 ^ 110) (l:=(M.take i).map (Dt.rs n)) fun x hx=>by
  obtain ⟨r,hr,rfl⟩:=List.mem_map.mp hx
  exact h.sm r (List.mem_of_mem_take hr)
 rw [List.length_map,List.length_take,<- Nat.pow_mul] at h1
 have:=h.len
 have:=h.sz
 exact Nat.lt_of_le_of_lt h1 (Nat.pow_lt_pow_right (by decide) (by omega))
def zZ (K:PySem.W.Frag):Sp:=fun vs H Q _=>∃ (a:Addr) (as:List Addr) (M:List (List Int)) (n:Nat),vs=[.ref a]∧SqL K H a (as.map V.ref)∧cZ K H as M∧pV M n∧∀ H',aM H H'->Q (.int (Dt.pL (M.map (Dt.rs n)):Nat)) H'
theorem pE {f:Addr}{fd:FuncData}(F:Fun K "greatest_of" "greatest_of" fL f fd)(tt:Txt K mg ad):cD P w K mg base (CX1 P w) 1 f fd ["square"] (zZ K):=by
 refine F.okN eU (fun vs H Q E h=>?_) (fun cdv A outer s H vs Q E hr h=>?_)
 ·obtain ⟨a,as,M,n,rfl,_⟩:=h
  rfl
 ·obtain ⟨a,as,M,n,rfl,hA,hR,ok,q⟩:=h
  have hs:sizeLine=16777216:=sizeLine_eq
  have hrl:=hR.1
  have hlen:=ok.len
  have hsz:=ok.sz
  refine ⟨_,(aB (aI (i:=1) eU.nd rfl (Or.inl rfl) aE)
   (aB (cC PassesOwn.never rfl (bW (pv 0)) (bJ (i:=2) eU.nd rfl (Or.inl rfl)) (aG (aI (i:=1) eU.nd rfl (Or.inl rfl) (aL eX (pv 1) (aQ (Cu rfl) (by rfl) tt.b_sum PyProof.Rows.boot_sum (aA (dU nI rfl (bW (pv 2)) (fun cl C s' H' fp=>(aQ Hl (by rfl) tt.b_abs PyProof.Rows.boot_abs (aA (pv 0) aD)))) aD))))))
   (aG (bA (pv 1))))),?_⟩
  (try rw [dI]);(try rw [cxK1])
  refine ⟨_,rfl,a,rfl,⟨_,hA⟩,?_⟩
  refine cK (K:=K) (a:=a) (xs:=as.map V.ref) (fun i σ G=>aM H G∧∃ v2:Option V,σ=[some (.ref a),some (.int (Dt.pL ((M.take i).map (Dt.rs n)):Nat)),v2]) ⟨aM.refl _,none,rfl⟩ (fun i σ G _ h=>h.1.seq hA) ?_ ?_
  ·rintro i v σ G hi ⟨sG,v2,rfl⟩
   obtain ⟨a',r,rfl,hr',hS⟩:=(hR.on sG).at hi
   have hrm:=List.mem_of_getElem? hr'
   have hrl2:=ok.row r hrm
   refine ⟨_,rfl,_,rfl,a',rfl,⟨_,hS⟩,?_⟩
   refine jG (fun v=>match v with | .int i=>.int (if i<0 then -i else i) | _=>.non) (dY hS) (by rw [List.length_map];omega) (fun v G' hv s' N' hN'=>?_) fun D2 G5 hD2 s5 hd5=>?_
   ·obtain ⟨i,hi,rfl⟩:=List.mem_map.mp hv
    exact ⟨_,rfl,_,rfl,hN' G' (aM.refl _)⟩
   have hd5:G5 D2=some (.lst ((r.map fun i=>if i<0 then -i else i).map V.int)):=by rw [hd5,List.map_map,List.map_map];rfl
   refine ⟨D2,_,rfl,SqL.of hd5,?_⟩
   rw [Dt.Jy hrl2]
   have e:Dt.pL ((M.take (i+1)).map (Dt.rs n))=Dt.pL ((M.take i).map (Dt.rs n))*Dt.rs n r:=by rw [List.take_add_one,hr',List.map_append];exact Dt.Ax _ _
   refine ⟨_,_,rfl,rfl,⟨eK (by rw [Int.natAbs_natCast];exact Nat.le_refl _) (ok.part i),eK (n:=2 ^ 110) (by rw [Int.natAbs_natCast];exact ok.sm r hrm) (jB (k:=111) (by decide +kernel) (by decide))⟩,?_⟩
   refine ⟨sG.trans s5,some (.ref a'),?_⟩
   rw [e,Int.natCast_mul]
   rfl
  ·rintro σ G ⟨sG,v2,rfl⟩
   rw [List.length_map,List.take_of_length_le (by omega)]
   exact ⟨_,rfl,q G sG⟩
def kts:List Int:=[133,211,598,652,721,850,1282,1417,1582,1681,1726,1837,1885,2017,2377,2383,2452,2476,2530,2611,2662,2698,2773,2878,2917,2980,2998,3082,3238,3250,3343,3421,3427,3670,3817,4162,4252,4447,4468,4621,4630,4747,4867,4891,4915,5128,5143,5236,5401,5587,5650,5803,5833,5923,5986,6202,6235,6286,6496,6526,6736,7093,7561,7696,7831,7855,7882,7927,8143,8248]
def Az:Sp:=fun vs H Q _=>∃ (j:Nat) (last:Int),vs=[.int (j:Nat),.int last]∧j<7∧Q (.int (kts.getD j 0)) H
theorem mQ {f:Addr}{fd:FuncData}(F:Fun K "further_times" "further_times" fQ f fd)(tt:Txt K mg ad):cD P w K mg base (CX1 P w) 1 f fd ["place", "last"] Az:=by
 refine F.okN mY (fun vs H Q E h=>?_) (fun cdv A outer s H vs Q E hr h=>?_)
 ·obtain ⟨j,last,rfl,_⟩:=h
  rfl
 ·obtain ⟨j,last,rfl,hj,q⟩:=h
  have hkt:SqT K H ad.KNOWN_TIMES (kts.map V.int):=SqT.tupIs tt.kt
  have hkl:(kts.map V.int).length=70:=rfl
  refine ⟨_,(aB (bT (aN qB (pv 0) (aQ aV (by rfl) tt.b_len PySem.boot_len (aA (dA (v:=.ref ad.KNOWN_TIMES) (by rfl) tt.m_KNOWN_TIMES rfl) aD)) (aP _)) (aG (bA (cO Lz (dA (v:=.ref ad.KNOWN_TIMES) (by rfl) tt.m_KNOWN_TIMES rfl) (pv 0) (fun _ _=>rfl)))) aW)
   Hc),?_⟩
  (try rw [dI]);(try rw [cxK1])
  refine ⟨_,rfl,ad.KNOWN_TIMES,_,rfl,.inr hkt,_,_,rfl,rfl,_,rfl,?_⟩
  rw [hkl]
  refine itP (decide_eq_true (by omega)) ?_
  exact ⟨_,rfl,ad.KNOWN_TIMES,_,_,_,rfl,rfl,hkt,bS (j:=j) (kN (by show j<70;omega)),q⟩
theorem Nx:∀ j,j<7->kts.getD j 0*6277101735386680763835789423207666416102355444464034512896+1=((Dt.pr j:Nat):Int):=by decide +kernel
theorem Lx:∀ j,j<7->(kts.getD j 0).natAbs<2 ^ 20:=by decide +kernel
def Kj (K:PySem.W.Frag):Sp:=fun vs H Q _=>∃ (a:Addr) (as:List Addr) (M:List (List Int)) (n:Nat),vs=[.ref a]∧SqL K H a (as.map V.ref)∧cZ K H as M∧pV M n∧2*Dt.pL (M.map (Dt.rs n))<Dt.md 7∧∀ H',aM H H'->Q (.int (Dt.det n (Dt.ent M))) H'
theorem My {n p:Nat}(hn:n<=64)(hp:p<2 ^ 250):2 ^ 110+n*(p*p)<2 ^ 8000:=by
 have h1:n*(p*p)<=64*(2 ^ 250*2 ^ 250):=Nat.mul_le_mul hn (Nat.mul_le_mul (Nat.le_of_lt hp) (Nat.le_of_lt hp))
 exact Nat.lt_of_le_of_lt (Nat.add_le_add_left h1 _) (by decide +kernel)
theorem pV.rest {M:List (List Int)}{n p:Nat}(h:pV M n)(hp:Dt.cX p)(hl:p<2 ^ 250):Fn M n p (2 ^ 110) :=
 ⟨h.len,h.row,Nat.le_trans h.sz (by decide),hp,Nat.lt_of_lt_of_le hl (Nat.pow_le_pow_right (by decide) (by decide)),fun r hr x hx=>Nat.le_trans (Dt.Mh (h.row r hr) hx) (h.sm r hr),My h.sz hl⟩
theorem pB {f:Addr}{fd:FuncData}(F:Fun K "determinant" "determinant" gX f fd)(tt:Txt K mg ad)(C_greatest_of:Cal P w K mg base (CX1 P w) "greatest_of" 1 ["square"] (zZ K))(C_determinant_rest:Cal P w K mg base (CX1 P w) "determinant_rest" 2 ["square", "prime"] (Gz K))(C_further_times:Cal P w K mg base (CX1 P w) "further_times" 1 ["place", "last"] Az)(C_inverse:Cal P w K mg base (CX1 P w) "inverse" 1 ["number", "prime"] yN) :
  cD P w K mg base (CX1 P w) 3 f fd ["square"] (Kj K):=by
 refine F.okN bL (fun vs H Q E h=>?_) (fun cdv A outer s H vs Q E hr h=>?_)
 ·obtain ⟨a,as,M,n,rfl,_⟩:=h
  rfl
 ·obtain ⟨a,as,M,n,rfl,hA,hR,ok,hlt,q⟩:=h
  have hs:sizeLine=16777216:=sizeLine_eq
  have hdet:=Dt.Ln (M:=M) ok.len
  have hbnd:=ok.part n
  rw [List.take_of_length_le (by rw [ok.len];exact Nat.le_refl _)] at hbnd
  generalize hB:Dt.pL (M.map (Dt.rs n))=B at hlt hdet hbnd
  generalize hDD:Dt.det n (Dt.ent M)=DD at q hdet
  have bB:Bg ((B:Nat):Int):=eK (by rw [Int.natAbs_natCast];exact Nat.le_refl _) hbnd
  refine ⟨_,(aB (aI (i:=1) bL.nd rfl (Or.inl rfl) (aO C_greatest_of hr aZ (aA (pv 0) aD)))
   (aB (aI (i:=2) bL.nd rfl (Or.inl rfl) (aO C_determinant_rest hr aZ (aA (pv 0) (aA (dA (by rfl) tt.g_FIRST_PRIME tt.r_FIRST_PRIME) aD))))
   (aB (aI (i:=3) bL.nd rfl (Or.inl rfl) (dA (by rfl) tt.g_FIRST_PRIME tt.r_FIRST_PRIME))
   (aB (aI (i:=4) bL.nd rfl (Or.inl rfl) aE)
   (aB (aI (i:=5) bL.nd rfl (Or.inl rfl) aE)
   (aB (jZ PassesOwn.never (aN Nz (pv 3) (aL eX aE (pv 1)) (aP _)) (aB (aI (i:=5) bL.nd rfl (Or.inl rfl) (aO C_further_times hr aZ (aA (pv 4) (aA (pv 5) aD))))
   (aB (aI (i:=4) bL.nd rfl (Or.inl rfl) (aL cQ (pv 4) aE))
   (aB (aI (i:=6) bL.nd rfl (Or.inl rfl) (aL cQ (aL eX (pv 5) (dA (by rfl) tt.g_STEP tt.r_STEP)) aE))
   (aB (aI (i:=7) bL.nd rfl (Or.inl rfl) (aL fR (aO C_determinant_rest hr aZ (aA (pv 0) (aA (pv 6) aD))) (pv 2)))
   (aB (aI (i:=2) bL.nd rfl (Or.inl rfl) (aL cQ (pv 2) (aL eX (aL bY (aL eX (pv 7) (aO C_inverse hr aZ (aA (pv 3) (aA (pv 6) aD)))) (pv 6)) (pv 3))))
   (aG (aI (i:=3) bL.nd rfl (Or.inl rfl) (aL eX (pv 3) (pv 6))))))))))
   (aB (bT (aN jI (pv 2) (pv 1) (aP _)) (aG (bA (aL fR (pv 2) (pv 3)))) aW)
   (aG (bA (pv 2)))))))))),?_⟩
  (try rw [dI]);(try rw [cxK1])
  refine ⟨_,rfl,a,as,M,n,rfl,hA,hR,ok,fun G1 s1=>?_⟩
  rw [hB]
  refine ⟨_,rfl,a,as,M,n,2305843009213693951,2 ^ 110,rfl,s1.seq hA,hR.on s1,ok.rest Dt.Qy (by decide +kernel),fun res G2 s2 hres hcg=>?_⟩
  rw [hDD] at hcg
  refine ⟨fun m σ G=>∃ (j:Nat) (res times:Int) (v6 v7:Option V),m=7-j∧j<=7∧aM H G∧(0<=res∧res<(Dt.md j:Nat))∧Dt.Cg (Dt.md j:Nat) res DD∧σ=[some (.ref a),some (.int (B:Nat)),some (.int res),some (.int (Dt.md j:Nat)),some (.int (j:Nat)),some (.int times),v6,v7],
   ⟨_,0,res,0,none,none,rfl,by omega,s1.trans s2,hres,hcg,rfl⟩,?_⟩
  rintro m σ G ⟨j,res,times,v6,v7,rfl,hj,sG,hres,hcg,rfl⟩
  refine ⟨_,rfl,_,rfl,_,_,rfl,rfl,⟨eK (n:=2) (by decide) (by decide +kernel),bB⟩,_,_,rfl,rfl,_,rfl,?_⟩
  by_cases hle:Dt.md j<=2*B
  ·refine itP (decide_eq_true (by omega)) ?_
   have hj7:j<7:=by
    rcases Nat.lt_or_ge j 7 with z | z
    ·exact z
    ·rw [show j=7 by omega] at hle
     omega
   obtain ⟨k1,k2,k3,k4⟩:=Dt.Pf j hj7
   have ePr:=Nx j hj7
   have hpp:=Dt.Fx hj7
   have hp1:=hpp.1
   have l1:=jB k1 (by decide)
   have l3:=jB k3 (by decide)
   have l4:=jB k4 (by decide)
   have bP:Bg ((Dt.pr j:Nat):Int):=eK (by rw [Int.natAbs_natCast];exact Nat.le_refl _) l1
   have bM:Bg ((Dt.md j:Nat):Int):=eK (by rw [Int.natAbs_natCast];exact Nat.le_refl _) l3
   refine ⟨_,fun σ' H' z=>z,?_⟩
   refine ⟨_,rfl,_,rfl,j,times,rfl,hj7,?_⟩
   refine ⟨_,rfl,_,_,rfl,rfl,?_⟩
   refine ⟨_,rfl,_,_,rfl,rfl,⟨eK (Nat.le_of_lt (Lx j hj7)) (jB (k:=21) (by decide +kernel) (by decide)),eK (n:=2 ^ 200) (by decide +kernel) (jB (k:=201) (by decide +kernel) (by decide))⟩,_,_,rfl,rfl,?_⟩
   refine ⟨_,rfl,_,rfl,a,as,M,n,Dt.pr j,2 ^ 110,congrArg (fun z=>[V.ref a,V.int z]) ePr,sG.seq hA,hR.on sG,ok.rest hpp k1,fun r2 G3 s3 hr2 hc2=>?_⟩
   rw [hDD] at hc2
   refine ⟨_,rfl,_,_,rfl,rfl,?_⟩
   refine ⟨_,rfl,_,rfl,_,rfl,_,rfl,((Dt.md j:Nat):Int),Dt.pr j,congrArg (fun z=>[V.int ((Dt.md j:Nat):Int),V.int z]) ePr,hpp,Nat.lt_of_lt_of_le k1 (Nat.pow_le_pow_right (by decide) (by decide)),(fun z=>k2 (by exact_mod_cast z)),fun inv hi hib=>?_⟩
   have q1:=Int.emod_nonneg ((r2-res)*inv) (show ((Dt.pr j:Nat):Int)≠0 by omega)
   have q2:=Int.emod_lt_of_pos ((r2-res)*inv) (show (0:Int)<((Dt.pr j:Nat):Int) by omega)
   obtain ⟨c1,c2,c3⟩:=Dt.crt (M1:=Dt.md j) (pr:=Dt.pr j) (D:=DD) (res:=res) (r2:=r2) (inv:=inv) (by omega) (by omega) hcg hc2 hi hres
   refine ⟨_,_,rfl,rfl,⟨eK (n:=Dt.md j+Dt.pr j) (by omega) (Nat.lt_of_lt_of_le (Nat.add_lt_add k3 k1) (by decide +kernel)),eK (n:=Dt.pr j) (by omega) l1⟩,_,rfl,_,_,rfl,rfl,(by show (0:Int)<_;rw [ePr];omega),_,rfl,_,_,rfl,rfl,⟨?_,bM⟩,_,_,rfl,rfl,?_⟩
   ·show Bg ((r2-res)*inv % _)
    rw [ePr]
    exact eK (n:=Dt.pr j) (by omega) l1
   refine ⟨_,rfl,_,rfl,_,_,rfl,rfl,⟨bM,by rw [ePr];exact bP⟩,?_⟩
   refine ⟨7-(j+1),by omega,j+1,res+(r2-res)*inv % (Dt.pr j:Nat)*(Dt.md j:Nat),kts.getD j 0,some (.int (kts.getD j 0*6277101735386680763835789423207666416102355444464034512896+1)),some (.int (r2-res)),rfl,by omega,sG.trans s3,⟨c2,c3⟩,c1,?_⟩
   rw [<- ePr,show ((Dt.md (j+1):Nat):Int)=(Dt.md j:Nat)*(kts.getD j 0*6277101735386680763835789423207666416102355444464034512896+1) by rw [ePr];exact Int.natCast_mul ..]
   rfl
  ·refine itN (fun z=>hle (by have:=of_decide_eq_true z;omega)) ?_
   have hfr:=Dt.Cz (M:=Dt.md j) (D:=DD) (res:=res) (bd:=(B:Nat)) (by omega) (by omega) hcg hres
   refine ⟨_,rfl,_,rfl,_,_,rfl,rfl,_,rfl,?_⟩
   by_cases hgt:((B:Nat):Int)<res
   ·rw [if_pos hgt] at hfr
    refine itP (decide_eq_true hgt) ?_
    refine ⟨_,rfl,_,rfl,_,_,rfl,rfl,?_⟩
    rw [<- hfr] at q
    exact q G sG
   ·rw [if_neg hgt] at hfr
    refine itN (fun z=>hgt (of_decide_eq_true z)) ?_
    rw [<- hfr] at q
    exact ⟨_,rfl,q G sG⟩
def mB (words:List (List Nat))(o:List Nat):Int:=((words.countP fun w=>decide (w.drop 1=o):Nat):Int)
def pK (texts:List (List Nat))(t:List Nat)(words:List (List Nat)):List Int:=texts.map fun o=>if o=t then ((words.length:Nat):Int)-mB words t else-mB words o
theorem zQ {words:List (List Nat)}{o:List Nat}:((((words.map fun w=>w.drop 1).map T).countP fun y=>eqV y (T o):Nat):Int)=mB words o:=by
 unfold mB
 rw [List.map_map,List.countP_map]
 congr 2
 funext w
 show (tx (w.drop 1)==tx o)=decide (w.drop 1=o)
 rw [Bool.eq_iff_iff,beq_iff_eq,decide_eq_true_iff]
 exact ⟨fun h=>fD h,fun h=>by rw [h]⟩
def Ek (K:PySem.W.Frag):Sp:=fun vs H Q _=>∃ (a b:Addr) (texts words:List (List Nat)) (t:List Nat),vs=[.ref a,T t,.ref b]∧SqL K H a (texts.map T)∧SqL K H b (words.map T)∧(texts.length<=200∧words.length<=200∧∀ x∈words,1<=x.length∧x.length<=1000)∧∀ D H',H D=none->aM H H'->H' D=some (.lst ((pK texts t words).map V.int))->Q (.ref D) H'
theorem rR {f:Addr}{fd:FuncData}(F:Fun K "choice_row" "choice_row" eZ f fd)(tt:Txt K mg ad)(C_end_of:Cal P w K mg base (CX1 P w) "end_of" 1 ["word"] Ah):cD P w K mg base (CX1 P w) 2 f fd ["texts", "text", "words"] (Ek K):=by
 refine F.okN lB (fun vs H Q E h=>?_) (fun cdv A outer s H vs Q E hr h=>?_)
 ·obtain ⟨a,b,texts,words,t,rfl,_⟩:=h
  rfl
 ·obtain ⟨a,b,texts,words,t,rfl,hA,hB,⟨h1,h2,h3⟩,q⟩:=h
  have hs:sizeLine=16777216:=sizeLine_eq
  refine ⟨_,(aB (aI (i:=3) lB.nd rfl (Or.inr rfl) (dU oB rfl (bW (pv 2)) (fun cl C s' H' fp=>(aO C_end_of hr aZ (aA (pv 0) aD)))))
   (aG (bA (dU oF rfl (bW (pv 0)) (fun cl C s' H' fp=>(Em (aN kJ (pv 0) (pv 2) (aP _)) (aL fR (aQ (xS K rfl) (by rfl) tt.b_len PySem.boot_len (aA (pv 4) aD)) (uT K rfl PySem.F.plainAttrs_list PySem.F.slot_list_count PySem.F.type_list_count (mM K rfl) (pv 4) (aA (pv 2) aD))) (sV nG (uT K rfl PySem.F.plainAttrs_list PySem.F.slot_list_count PySem.F.type_list_count (mM K rfl) (pv 4) (aA (pv 0) aD))))))))),?_⟩
  (try rw [dI]);(try rw [cxK1])
  refine ⟨_,rfl,b,rfl,⟨_,hB⟩,?_⟩
  refine jG (fun v=>T ((unT v).drop 1)) (dY hB) (by rw [List.length_map];omega) (fun v G hv sg N hN=>?_) fun D1 G1 hD1 s1 hd1=>?_
  ·obtain ⟨l,hl,rfl⟩:=List.mem_map.mp hv
   have z:=hN G (aM.refl _)
   rw [eF] at z
   have hx:=h3 l hl
   exact ⟨_,rfl,l,rfl,⟨by omega,by omega⟩,z⟩
  have hd1:G1 D1=some (.lst ((words.map fun w=>w.drop 1).map T)):=by
   rw [hd1,List.map_map,List.map_map]
   refine congrArg (fun l=>some (HO.lst l)) (List.map_congr_left fun m _=>?_)
   show T ((unT (T m)).drop 1)=T (m.drop 1)
   rw [eF]
  refine ⟨_,rfl,a,rfl,⟨_,s1.seq hA⟩,?_⟩
  refine jG (fun v=>.int (if unT v=t then ((words.length:Nat):Int)-mB words t else-mB words (unT v))) (dY (s1.seq hA)) (by rw [List.length_map];omega) (fun v G hv sg N hN=>?_) fun D2 G2 hD2 s2 hd2=>?_
  ·obtain ⟨o,ho,rfl⟩:=List.mem_map.mp hv
   have z:=hN G (aM.refl _)
   rw [eF] at z
   have hdG:=sg D1 _ hd1
   refine ⟨_,rfl,_,rfl,_,rfl,_,rfl,_,rfl,?_⟩
   by_cases hot:o=t
   ·rw [if_pos hot] at z
    refine itP (decide_eq_true hot) ?_
    refine ⟨_,rfl,D1,_,rfl,.inl (SqL.of hdG),_,rfl,.inl ⟨rfl,_,SqL.of hdG⟩,_,rfl,D1,_,_,rfl,rfl,SqL.of hdG,hX _,rfl,_,_,rfl,rfl,?_⟩
    rw [zQ,List.length_map,List.length_map]
    exact z
   ·rw [if_neg hot] at z
    refine itN (fun y=>hot (of_decide_eq_true y)) ?_
    refine ⟨_,rfl,.inl ⟨rfl,_,SqL.of hdG⟩,_,rfl,D1,_,_,rfl,rfl,SqL.of hdG,hX _,rfl,_,rfl,?_⟩
    rw [zQ]
    exact z
  have hD0:H D2=none:=by
   cases e:H D2 with
   | none=>rfl
   | some o=>have:=s1 D2 o e;rw [hD2] at this;cases this
  refine q D2 G2 hD0 (s1.trans s2) ?_
  rw [hd2]
  unfold pK
  rw [List.map_map,List.map_map]
  refine congrArg (fun l=>some (HO.lst l)) (List.map_congr_left fun m _=>?_)
  show V.int (if unT (T m)=t then _ else _)=V.int (if m=t then _ else _)
  rw [eF]
def bE (ms:List (List Nat))(p:List Nat):List (List Nat):=ms.filter fun l=>decide (beg l=p)
def vK (C:Addr):Sp:=fun vs H Q _=>∃ (x tp:Addr) (n:Nat) (ms:List (List Nat)) (p:List Nat),vs=[.ref x,T p]∧fN C H x tp n ms∧fP ms n∧∀ D H',H D=none->aM H H'->H' D=some (.lst ((bE ms p).map T))->Q (.ref D) H'
theorem Jg {f:Addr}{fd:FuncData}(F:Fun K "outs" "outs" uG f fd)(tt:Txt K mg ad)(C_begin_of:Cal P w K mg base (CX1 P w) "begin_of" 1 ["word"] jA):cD P w K mg base (CX1 P w) 2 f fd ["web", "piece"] (vK ad.Web):=by
 refine F.okN Jm (fun vs H Q E h=>?_) (fun cdv A outer s H vs Q E hr h=>?_)
 ·obtain ⟨x,tp,n,ms,p,rfl,_⟩:=h
  rfl
 ·obtain ⟨x,tp,n,ms,p,rfl,hW,hok,q⟩:=h
  have hs:sizeLine=16777216:=sizeLine_eq
  obtain ⟨⟨dx,hx⟩,htp⟩:=id hW
  obtain ⟨hne,h64,⟨hn,hfew⟩,hxs,hnd⟩:=id hok
  refine ⟨_,(aG (bA (Dy Ck rfl (tU (qC (pv 0) rfl)) (fun cl C s' H' fp=>(aN kJ (aO C_begin_of hr aZ (aA (pv 0) aD)) (pv 2) (aP _))) (fun cl C s' H' fp=>(pv 0))))),?_⟩
  (try rw [dI]);(try rw [cxK1])
  refine ⟨_,rfl,x,ad.Web,dx,_,_,rfl,hx,tt.cl_Web,tt.na_Web_words,qL _ _,tp,rfl,⟨_,SqT.of htp⟩,?_⟩
  refine xW (fun v=>decide (beg (unT v)=p)) (fun v=>v) (iE (SqT.of htp)) (by rw [List.length_map];omega) (fun v H2 hv s2 N hN=>?_) (fun v H2 hv hp s2 N hN=>?_) fun D1 H2 hD1 s2 hd2=>?_
  ·obtain ⟨l,hl,rfl⟩:=List.mem_map.mp hv
   have hll:=hxs l hl
   have z:=hN H2 (aM.refl _)
   rw [eF] at z
   exact ⟨_,rfl,l,rfl,⟨by omega,by omega⟩,_,rfl,_,rfl,_,rfl,_,rfl,z⟩
  ·exact ⟨_,rfl,hN H2 (aM.refl _)⟩
  rw [show (ms.map T).filter (fun v=>decide (beg (unT v)=p))=(ms.filter fun l=>decide (beg l=p)).map T from iH (p:=fun l=>decide (beg l=p)) ms,List.map_id'] at hd2
  exact q D1 H2 hD1 s2 hd2
inductive aX (H:Hp)(g:List Nat->List (List Nat)):List (List Nat)->List (Key×V)->Prop
 | nil:aX H g [] []
 | cons {o:List Nat} {a:Addr} {ls:List (List Nat)} {kvs:List (Key×V)}:H a=some (.lst ((g o).map T))->aX H g ls kvs->aX H g (o::ls) ((Sum.inr (tx o),.ref a)::kvs)
theorem aX.keys {H:Hp}{g:List Nat->List (List Nat)}{ls:List (List Nat)}{kvs:List (Key×V)}(h:aX H g ls kvs):kvs.map (·.1)=ls.map fun t=>Sum.inr (tx t):=by
 induction h with
 | nil=>rfl
 | cons _ _ ih=>rw [List.map_cons,List.map_cons,ih]
theorem aX.len {H:Hp}{g:List Nat->List (List Nat)}{ls:List (List Nat)}{kvs:List (Key×V)}(h:aX H g ls kvs):kvs.length=ls.length:=by
 have:=congrArg List.length h.keys
 rwa [List.length_map,List.length_map] at this
theorem aX.mono {H H':Hp}{g:List Nat->List (List Nat)}{ls:List (List Nat)}{kvs:List (Key×V)}(s:aM H H')(h:aX H g ls kvs):aX H' g ls kvs:=by
 induction h with
 | nil=>exact .nil
 | cons e _ ih=>exact .cons (s _ _ e) ih
theorem aX.updD {H:Hp}{g:List Nat->List (List Nat)}{ls:List (List Nat)}{kvs k:List (Key×V)}{D:Addr}{o:HO}(hd:H D=some (.dK k))(h:aX H g ls kvs):aX (upd H D o) g ls kvs:=by
 induction h with
 | nil=>exact .nil
 | @cons _ a _ _ e _ ih =>
  have hne:a≠D:=fun z=>by rw [z,hd] at e;cases e
  exact .cons (by rw [aH hne];exact e) ih
theorem aX.snoc {H:Hp}{g:List Nat->List (List Nat)}{ls:List (List Nat)}{kvs:List (Key×V)}{o:List Nat}{a:Addr}(h:aX H g ls kvs)(e:H a=some (.lst ((g o).map T))):aX H g (ls++[o]) (kvs++[(Sum.inr (tx o),.ref a)]):=by
 induction h with
 | nil=>exact .cons e .nil
 | cons e1 _ ih=>exact .cons e1 ih
theorem aX.put {H:Hp}{g:List Nat->List (List Nat)}{ls:List (List Nat)}{kvs:List (Key×V)}{o:List Nat}{a:Addr}(h:aX H g ls kvs)(ho:o∉ls)(e:H a=some (.lst ((g o).map T))):aX H g (ls++[o]) (cN kvs (Sum.inr (tx o)) (.ref a)):=by
 have hn:¬ (kvs.any fun kv=>decide (kv.1=Sum.inr (tx o)))=true:=fun z=>by
  obtain ⟨kv,h1,h2⟩:=List.any_eq_true.mp z
  have h3:kv.1∈kvs.map (·.1):=List.mem_map_of_mem h1
  rw [h.keys,of_decide_eq_true h2] at h3
  obtain ⟨t,h4,h5⟩:=List.mem_map.mp h3
  have h6:t=o:=fD (Sum.inr.inj h5)
  exact ho (h6▸h4)
 unfold cN
 rw [if_neg hn]
 exact h.snoc e
theorem aX.get {H:Hp}{g:List Nat->List (List Nat)}{ls:List (List Nat)}{kvs:List (Key×V)}{o:List Nat}(h:aX H g ls kvs)(ho:o∈ls):∃ a,fF kvs (Sum.inr (tx o))=some (.ref a)∧H a=some (.lst ((g o).map T)):=by
 induction h with
 | nil=>cases ho
 | @cons o' a _ _ e _ ih =>
  by_cases hoo:o'=o
  ·subst hoo
   exact ⟨a,gG rfl,e⟩
  ·obtain ⟨b,h1,h2⟩:=ih ((List.mem_cons.mp ho).resolve_left (Ne.symm hoo))
   exact ⟨b,by rw [fO (fun z=>hoo (fD (Sum.inr.inj z)))];exact h1,h2⟩
def kC (C:Addr)(ad:Adr):Sp:=fun vs H Q E=>∃ (x tp:Addr) (n:Nat) (ms:List (List Nat)) (p:List Nat),vs=[.ref x,T p]∧fN C H x tp n ms∧fP ms n∧(¬ IsP ms p->∀ H',aM H H'->E (.ref ad.NoSuch) none H') ∧
 (IsP ms p->∀ (D:Addr) (ps:List (List Nat)) (kvs:List (Key×V)) (H':Hp),H D=none->aM H H'->H' D=some (.dK kvs)->aX H' (bE ms) (ps.filter fun o=>decide (o≠p)) kvs->ps.length<=62->ps.Pairwise (fun a b=>¬ b<a)->ps.Nodup->(∀ z,z∈ps↔IsP ms z)->Q (.ref D) H')
theorem eJ {H G:Hp}{D:Addr}(s:aM H G)(h:G D=none):H D=none:=by
 cases e:H D with
 | none=>rfl
 | some o=>exact absurd ((s D o e).symm.trans h) (fun z=>nomatch z)
theorem qW {f:Addr}{fd:FuncData}(F:Fun K "ways_toward" "ways_toward" gW f fd)(tt:Txt K mg ad)(C_pieces:Cal P w K mg base (CX1 P w) "pieces" 2 ["web"] (vU ad.Web))(C_outs:Cal P w K mg base (CX1 P w) "outs" 2 ["web", "piece"] (vK ad.Web)) :
  cD P w K mg base (CX1 P w) 3 f fd ["web", "piece"] (kC ad.Web ad):=by
 refine F.okX fB (fun vs H Q E h=>?_) (fun cdv A outer s H vs Q E hr h=>?_)
 ·obtain ⟨x,tp,n,ms,p,rfl,_⟩:=h
  rfl
 ·obtain ⟨x,tp,n,ms,p,rfl,hW,hok,xn,q⟩:=h
  have hs:sizeLine=16777216:=sizeLine_eq
  obtain ⟨⟨dx,hx⟩,htp⟩:=id hW
  obtain ⟨hne,h64,⟨hn,hfew⟩,hxs,hnd⟩:=id hok
  refine ⟨_,(aB (aI (i:=2) fB.nd rfl (Or.inl rfl) (aO C_pieces hr aZ (aA (pv 0) aD)))
   (aB (bT (aN iQ (pv 1) (pv 2) (by with_unfolding_all rfl)) (aG (dP (E:=fun cls H'=>E cls none H') tt.x_NoSuch rfl (fun _ _ _ _ _ _ _ I hx q=>fU I hx q) (aA (aS [116,104,101,32,119,101,98,32,104,97,115,32,110,111,32,115,117,99,104,32,112,105,101,99,101] (by decide +kernel)) aD))) aW)
   (aB (aI (i:=3) fB.nd rfl (Or.inl rfl) xH)
   (aB (cC PassesOwn.leaving rfl (bW (pv 2)) (bJ (i:=4) fB.nd rfl (Or.inl rfl)) (aG (bT (aN iO (pv 4) (pv 1) (aP _)) (aG (mI (jH hr) (pv 3) (pv 4) (aO C_outs hr aZ (aA (pv 0) (aA (pv 4) aD))) rfl)) aW)))
   (aG (bA (pv 3))))))),?_⟩
  (try rw [dI]);(try rw [cxK1])
  refine ⟨_,rfl,x,tp,n,ms,rfl,hW,hok,fun D1 ps H1 hD1 s1 hd1 hpw hpn hpm=>?_⟩
  have hlen:ps.length<=62:=wJ (p:=[]) hfew hpn fun z hz=>.inr ((hpm z).mp hz)
  refine ⟨_,rfl,_,rfl,D1,_,rfl,.inl (SqL.of hd1),rfl,hX ps,_,rfl,?_⟩
  by_cases hp:p∈ps
  ·refine itN (by rw [sO,decide_eq_true hp];exact Bool.false_ne_true) ?_
   refine fun D hD=>?_
   have hD0:=eJ s1 hD
   have hd1':upd H1 D (.dK []) D1=some (.lst (ps.map T)):=by rw [aH (aK hd1 hD)];exact hd1
   refine ⟨_,rfl,D1,rfl,⟨_,SqL.of hd1'⟩,?_⟩
   refine cK (K:=K) (a:=D1) (xs:=ps.map T) (fun i σ H3=>aM H1 H3∧∃ (kvs:List (Key×V)) (v4:Option V),H3 D=some (.dK kvs)∧aX H3 (bE ms) ((ps.take i).filter fun o=>decide (o≠p)) kvs∧σ=[some (.ref x),some (T p),some (.ref D1),some (.ref D),v4]) ⟨aF hD,[],none,aC,.nil,rfl⟩ (fun i σ H3 _ h=>SqL.of (h.1 D1 _ hd1)) ?_ ?_
   ·rintro i y σ H3 hi ⟨s3,kvs,v4,hd3,hwa,rfl⟩
    obtain ⟨o,ho,rfl⟩:∃ o,ps[i]?=some o∧T o=y:=by rw [List.getElem?_map] at hi;exact Option.map_eq_some_iff.mp hi
    have htk:ps.take (i+1)=ps.take i++[o]:=by rw [List.take_add_one,ho];rfl
    refine ⟨_,rfl,_,rfl,_,rfl,_,rfl,_,rfl,?_⟩
    by_cases hop:o=p
    ·refine itN (by rw [decide_eq_true hop];exact Bool.false_ne_true) ?_
     refine ⟨s3,kvs,some (T o),hd3,?_,rfl⟩
     rw [htk,List.filter_append,List.filter_cons_of_neg (by simp [hop])]
     simpa using hwa
    ·refine itP (by rw [decide_eq_false hop];rfl) ?_
     refine ⟨_,rfl,_,rfl,x,tp,n,ms,o,rfl,⟨⟨dx,s3 x _ (s1 x _ hx)⟩,s3 tp _ (s1 tp _ htp)⟩,hok,fun D4 H4 hD4 s4 hd4=>?_⟩
     refine ⟨_,rfl,_,rfl,D,_,rfl,tR.k (k:=Sum.inr (tx o)) (s4 D _ hd3) (by rw [hwa.len];have:=List.length_filter_le (fun o=>decide (o≠p)) (ps.take i);rw [List.length_take] at this;omega),?_⟩
     have hno:o∉(ps.take i).filter fun o=>decide (o≠p):=fun z=>by
      have z1:=(List.mem_filter.mp z).1
      have nd:(ps.take i++[o]).Nodup:=htk▸hpn.sublist (List.take_sublist (i+1) ps)
      exact (List.nodup_append.mp nd).2.2 o z1 o (List.mem_singleton.mpr rfl) rfl
     have hne4:D4≠D:=fun z=>by rw [z,hd3] at hD4;cases hD4
     refine ⟨fun b ob e=>?_,_,some (T o),aC,?_,rfl⟩
     ·rw [aH (aK e hD)]
      exact s4 b ob (s3 b ob e)
     ·rw [htk,List.filter_append,List.filter_cons_of_pos (by simp [hop])]
      exact ((hwa.mono s4).put hno hd4).updD (s4 D _ hd3)
   ·rintro σ H3 ⟨s3,kvs,v4,hd3,hwa,rfl⟩
    rw [List.length_map,List.take_length] at hwa
    exact ⟨_,rfl,q ((hpm p).mp hp) D ps kvs H3 hD0 (s1.trans s3) hd3 hwa hlen hpw hpn hpm⟩
  ·refine itP (by rw [sO,decide_eq_false hp];rfl) ?_
   exact ⟨(by show 1<=sizeLine;omega),xn (fun z=>hp ((hpm p).mpr z)) H1 s1⟩
def eD (ls:List (List Nat))(g:List Nat->List (List Nat)):List (List Int):=ls.map fun t=>pK ls t (g t)
def iD (K:PySem.W.Frag):Sp:=fun vs H Q _=>∃ (a:Addr) (ls:List (List Nat)) (kvs:List (Key×V)) (g:List Nat->List (List Nat)),vs=[.ref a]∧H a=some (.dK kvs)∧aX H g ls kvs∧(ls.length<=64∧∀ o∈ls,(g o).length<=200∧∀ x∈g o,1<=x.length∧x.length<=1000) ∧
 pV (eD ls g) ls.length∧2*Dt.pL ((eD ls g).map (Dt.rs ls.length))<Dt.md 7∧∀ H',aM H H'->Q (.int (Dt.det ls.length (Dt.ent (eD ls g)))) H'
theorem lL {f:Addr}{fd:FuncData}(F:Fun K "choices_counted" "choices_counted" dW f fd)(tt:Txt K mg ad)(C_determinant:Cal P w K mg base (CX1 P w) "determinant" 3 ["square"] (Kj K))(C_choice_row:Cal P w K mg base (CX1 P w) "choice_row" 2 ["texts", "text", "words"] (Ek K)) :
  cD P w K mg base (CX1 P w) 4 f fd ["ways"] (iD K):=by
 refine F.okN gC (fun vs H Q E h=>?_) (fun cdv A outer s H vs Q E hr h=>?_)
 ·obtain ⟨a,ls,kvs,g,rfl,_⟩:=h
  rfl
 ·obtain ⟨a,ls,kvs,g,rfl,hd,hwa,⟨h64,hg⟩,hsq,hpl,q⟩:=h
  have hs:sizeLine=16777216:=sizeLine_eq
  refine ⟨_,(aB (aI (i:=1) gC.nd rfl (Or.inr rfl) (dR (iL rfl) (by rfl) tt.b_list (by decide +kernel) (aA (pv 0) aD)))
   (aG (bA (aO C_determinant hr aZ (aA (dU jY rfl (bW (pv 1)) (fun cl C s' H' fp=>(aO C_choice_row hr aZ (aA (pv 2) (aA (pv 0) (aA (Ak (jH hr) (pv 1) (pv 0) (fun _ _=>rfl)) aD)))))) aD))))),?_⟩
  (try rw [dI]);(try rw [cxK1])
  refine ⟨_,rfl,a,ls,kvs,rfl,hd,hwa.keys,fun D1 hD1=>?_⟩
  have s1:=aF (o:=.lst (ls.map T)) hD1
  refine ⟨_,rfl,D1,rfl,⟨_,SqL.of aC⟩,?_⟩
  refine Lf (K:=K) (fun v=>pK ls (unT v) (g (unT v))) (dY (SqL.of aC)) (by rw [List.length_map];omega) (fun v G hv sg N hN=>?_) fun D2 bs G2 hD2 s2 hd2 hne2 hR2=>?_
  ·obtain ⟨t,ht,rfl⟩:=List.mem_map.mp hv
   rw [eF] at hN
   obtain ⟨b,hb1,hb2⟩:=((hwa.mono s1).mono sg).get ht
   have hget:lQ G a (T t) (some (.ref b)):=by rw [<- hb1];exact lQ.k (k:=Sum.inr (tx t)) (sg a _ (s1 a _ hd))
   have hgt:=hg t ht
   exact ⟨_,rfl,_,rfl,_,rfl,_,rfl,a,_,rfl,hget,D1,b,ls,g t,t,rfl,SqL.of (sg D1 _ aC),SqL.of hb2,⟨by omega,hgt.1,hgt.2⟩,fun D H' hD s' hd'=>hN D H' s' hD hd'⟩
  rw [show (ls.map T).map (fun v=>pK ls (unT v) (g (unT v)))=eD ls g from by
   unfold eD
   rw [List.map_map]
   refine List.map_congr_left fun m _=>?_
   show pK ls (unT (T m)) (g (unT (T m)))=_
   rw [eF]] at hR2
  exact ⟨D2,bs,eD ls g,ls.length,rfl,SqL.of hd2,hR2,hsq,hpl,fun H' s'=>q H' ((s1.trans s2).trans s')⟩
theorem zJ {words:List (List Nat)}{o:List Nat}:(mB words o).natAbs<=words.length:=by
 unfold mB
 have:=List.countP_le_length (p:=fun w=>decide (w.drop 1=o)) (l:=words)
 omega
theorem Fh {texts words:List (List Nat)}{t:List Nat}{x:Int}(hx:x∈pK texts t words):x.natAbs<=words.length:=by
 obtain ⟨o,_,rfl⟩:=List.mem_map.mp hx
 have h1:=zJ (words:=words) (o:=t)
 have h2:=zJ (words:=words) (o:=o)
 have h3:0<=mB words t:=Int.natCast_nonneg _
 show (if o=t then ((words.length:Nat):Int)-mB words t else-mB words o).natAbs<=_
 split <;> omega
theorem Gf {f:Nat->Nat}{c:Nat}:∀ {n:Nat},(∀ j,j<n->f j<=c)->Dt.sN n f<=n*c:=fun {n} h=>by
 have h1:Dt.sN n f<=Dt.sN n fun _=>1*c:=Dt.Fm fun j hj=>by rw [Nat.one_mul];exact h j hj
 have h2:∀ n:Nat,Dt.sN n (fun _=>1)=n:=fun n=>by
  induction n with
  | zero=>rfl
  | succ n ih=>show Dt.sN n (fun _=>1)+1=n+1;rw [ih]
 rw [Dt.xM,h2] at h1
 exact h1
theorem mG {ls:List (List Nat)}{g:List Nat->List (List Nat)}(h64:ls.length<=64)(hg:∀ o∈ls,(g o).length<=64):pV (eD ls g) ls.length∧2*Dt.pL ((eD ls g).map (Dt.rs ls.length))<Dt.md 7:=by
 have hrow:∀ r∈eD ls g,Dt.rs ls.length r<=4096:=fun r hr=>by
  obtain ⟨t,ht,rfl⟩:=List.mem_map.mp hr
  have h1:Dt.rs ls.length (pK ls t (g t))<=ls.length*64:=Gf fun j hj=>by
   have hl:j<(pK ls t (g t)).length:=by unfold pK;rw [List.length_map];exact hj
   rw [List.getD_eq_getElem?_getD,List.getElem?_eq_getElem hl]
   exact Nat.le_trans (Fh (List.getElem_mem hl)) (hg t ht)
  omega
 have hlen:(eD ls g).length=ls.length:=List.length_map ..
 refine ⟨⟨hlen,fun r hr=>?_,h64,fun r hr=>Nat.le_trans (hrow r hr) (by decide)⟩,?_⟩
 ·obtain ⟨t,_,rfl⟩:=List.mem_map.mp hr
  exact List.length_map ..
 ·have h1:=Dt.Ft (R:=4096) (l:=(eD ls g).map (Dt.rs ls.length)) fun x hx=>by
   obtain ⟨r,hr,rfl⟩:=List.mem_map.mp hx
   exact hrow r hr
  rw [List.length_map,hlen] at h1
  have h2:4096 ^ ls.length<=4096 ^ 64:=Nat.pow_le_pow_right (by decide) h64
  have h3:2*4096 ^ 64<Dt.md 7:=by decide +kernel
  exact Nat.lt_of_le_of_lt (Nat.mul_le_mul_left 2 (Nat.le_trans h1 h2)) h3
theorem gK {ts:List (List Nat)}(nd:ts.Nodup)(g:List Nat->List (List Nat)):Dt.det ts.length (Dt.ent (eD ts g))=((Dt.nC ts g:Nat):Int):=Dt.Mu nd g
def qU (C:Addr)(ad:Adr):Sp:=fun vs H Q E=>∃ (x tp:Addr) (n:Nat) (ms:List (List Nat)) (p:List Nat),vs=[.ref x,T p]∧fN C H x tp n ms∧fP ms n∧(¬ IsP ms p->∀ H',aM H H'->E (.ref ad.NoSuch) none H') ∧
 (IsP ms p->∀ (ps:List (List Nat)) (H':Hp),aM H H'->ps.length<=64->ps.Pairwise (fun a b=>¬ b<a)->ps.Nodup->(∀ z,z∈ps↔IsP ms z)->Q (.int (Dt.det (ps.filter fun o=>decide (o≠p)).length (Dt.ent (eD (ps.filter fun o=>decide (o≠p)) (bE ms))))) H')
theorem rP {f:Addr}{fd:FuncData}(F:Fun K "tree_count" "tree_count" iJ f fd)(tt:Txt K mg ad)(C_choices_counted:Cal P w K mg base (CX1 P w) "choices_counted" 4 ["ways"] (iD K))(C_ways_toward:Cal P w K mg base (CX1 P w) "ways_toward" 3 ["web", "piece"] (kC ad.Web ad)) :
  cD P w K mg base (CX1 P w) 5 f fd ["web", "piece"] (qU ad.Web ad):=by
 refine F.okX rJ (fun vs H Q E h=>?_) (fun cdv A outer s H vs Q E hr h=>?_)
 ·obtain ⟨x,tp,n,ms,p,rfl,_⟩:=h
  rfl
 ·obtain ⟨x,tp,n,ms,p,rfl,hW,hok,xn,q⟩:=h
  have hs:sizeLine=16777216:=sizeLine_eq
  obtain ⟨hne,h64,⟨hn,hfew⟩,hxs,hnd⟩:=id hok
  refine ⟨_,(aG (bA (aO C_choices_counted hr aZ (aA (aO C_ways_toward hr jJ (aA (pv 0) (aA (pv 1) aD))) aD)))),?_⟩
  (try rw [dI]);(try rw [cxK1])
  refine ⟨_,rfl,_,rfl,x,tp,n,ms,p,rfl,hW,hok,xn,fun hip D ps kvs H1 hD s1 hd1 hwa hlen62 hpw hpn hpm=>?_⟩
  have hlen:ps.length<=64:=by omega
  have hfl:(ps.filter fun o=>decide (o≠p)).length<=64:=Nat.le_trans (List.length_filter_le ..) hlen
  have hout:∀ o,(bE ms o).length<=64:=fun o=>Nat.le_trans (List.length_filter_le ..) (by omega)
  obtain ⟨hsq,hpl⟩:=mG (g:=bE ms) hfl fun o _=>hout o
  refine ⟨D,_,kvs,bE ms,rfl,hd1,hwa,⟨hfl,fun o _=>⟨by have:=hout o;omega,fun y hy=>?_⟩⟩,hsq,hpl,fun H' s'=>q hip ps H' (s1.trans s') hlen hpw hpn hpm⟩
  have:=(hxs y (List.mem_filter.mp hy).1).1
  omega
theorem sY {H:Hp}{g:List Nat->List (List Nat)}{ls:List (List Nat)}{kvs:List (Key×V)}(h:aX H g ls kvs){o:List Nat}(ho:o∉ls):fF kvs (Sum.inr (tx o))=none:=by
 induction h with
 | nil=>rfl
 | @cons o' a _ _ e _ ih =>
  rw [fO (fun z=>ho (by rw [fD (Sum.inr.inj z)];exact List.mem_cons_self ..))]
  exact ih fun z=>ho (List.mem_cons_of_mem _ z)
theorem aX.cong {H:Hp}{g g':List Nat->List (List Nat)}{ls:List (List Nat)}{kvs:List (Key×V)}(h:aX H g ls kvs)(e:∀ t∈ls,g t=g' t):aX H g' ls kvs:=by
 induction h with
 | nil=>exact .nil
 | @cons o a _ _ e1 _ ih=>exact .cons (by rw [<- e o (List.mem_cons_self ..)];exact e1) (ih fun t ht=>e t (List.mem_cons_of_mem _ ht))
theorem aX.repl {H:Hp}{g:List Nat->List (List Nat)}{ls:List (List Nat)}{kvs:List (Key×V)}{o:List Nat}{a:Addr}{new:List (List Nat)}(h:aX H g ls kvs)(nd:ls.Nodup)(ho:o∈ls)(e:H a=some (.lst (new.map T))) :
  aX H (fun x=>if x=o then new else g x) ls (cN kvs (Sum.inr (tx o)) (.ref a)):=by
 have hy:(kvs.any fun kv=>decide (kv.1=Sum.inr (tx o)))=true:=by
  have h3:(Sum.inr (tx o):Key)∈kvs.map (·.1):=by rw [h.keys];exact List.mem_map_of_mem ho
  obtain ⟨kv,h1,h2⟩:=List.mem_map.mp h3
  exact List.any_eq_true.mpr ⟨kv,h1,decide_eq_true h2⟩
 unfold cN
 rw [if_pos hy]
 clear hy
 have no:∀ {ls:List (List Nat)} {kvs:List (Key×V)},aX H g ls kvs->o∉ls->aX H (fun x=>if x=o then new else g x) ls (kvs.map fun kv=>if kv.1=Sum.inr (tx o) then (kv.1,V.ref a) else kv):=fun {ls kvs} h=>by
  induction h with
  | nil=>intro _;exact .nil
  | @cons o' b _ _ e1 _ ih =>
   intro hn
   have hne:o'≠o:=fun z=>hn (z▸List.mem_cons_self ..)
   rw [List.map_cons,if_neg (fun z=>hne (fD (Sum.inr.inj z)))]
   exact .cons (by rw [if_neg hne];exact e1) (ih fun z=>hn (List.mem_cons_of_mem _ z))
 induction h with
 | nil=>cases ho
 | @cons o' b _ _ e1 hr ih =>
  rw [List.nodup_cons] at nd
  rw [List.map_cons]
  by_cases hoo:o'=o
  ·subst hoo
   rw [if_pos rfl]
   exact .cons (by rw [if_pos rfl];exact e) (no hr nd.1)
  ·rw [if_neg (fun z=>hoo (fD (Sum.inr.inj z)))]
   exact .cons (by rw [if_neg hoo];exact e1) (ih nd.2 ((List.mem_cons.mp ho).resolve_left (Ne.symm hoo)))
theorem Au {t:List Nat}{v:V}:∀ {ls:List (List Nat)},fF (tKs ls v) (Sum.inr (tx t))=if t∈ls then some v else none
 | []=>by simp [tKs,fF]
 | l::ls=>by
  have ih:=@Au t v ls
  unfold tKs fF at ih ⊢
  rw [List.map_cons,List.find?_cons]
  by_cases e:l=t
  ·subst e
   simp
  ·have e2:¬ (Sum.inr (tx l):Key)=Sum.inr (tx t):=fun z=>e (fD (Sum.inr.inj z))
   have e3:¬ t=l:=fun z=>e z.symm
   simp only [e2,decide_false,List.mem_cons,e3,false_or]
   exact ih
theorem Jq {t:List Nat}{v:V}{ls:List (List Nat)}:cN (tKs ls v) (Sum.inr (tx t)) v=tKs (Hg.Mv ls t) v:=by
 have e:((tKs ls v).any fun kv=>decide (kv.1=Sum.inr (tx t)))=decide (t∈ls):=by
  rw [Bool.eq_iff_iff,List.any_eq_true,decide_eq_true_iff]
  constructor
  ·rintro ⟨kv,h1,h2⟩
   obtain ⟨l,hl,rfl⟩:=List.mem_map.mp h1
   have:=fD (Sum.inr.inj (of_decide_eq_true h2))
   exact this▸hl
  ·exact fun h=>⟨_,List.mem_map_of_mem h,decide_eq_true rfl⟩
 unfold cN Hg.Mv
 rw [e]
 by_cases h:t∈ls
 ·rw [if_pos (decide_eq_true h),if_pos h]
  conv=>rhs;rw [<- List.map_id (tKs ls v)]
  refine List.map_congr_left fun kv hkv=>?_
  obtain ⟨l,_,rfl⟩:=List.mem_map.mp hkv
  split
  ·rfl
  ·rfl
 ·rw [if_neg (by rw [decide_eq_false h];exact Bool.false_ne_true),if_neg h]
  unfold tKs
  rw [List.map_append]
  rfl
theorem uX (ls:List (List Nat))(v:V):(tKs ls v).length=ls.length:=by unfold tKs;rw [List.length_map]
theorem aX.app {G:Hp}{g:List Nat->List (List Nat)}{ts:List (List Nat)}{kvs:List (Key×V)}{t x:List Nat}{b:Addr}(h:aX G g ts kvs):ts.Nodup->(kvs.map (·.2)).Nodup->t∈ts->fF kvs (Sum.inr (tx t))=some (.ref b)->aX (upd G b (.lst ((g t++[x]).map T))) (fun u=>if u=t then g t++[x] else g u) ts kvs:=by
 have vm:∀ {kvs:List (Key×V)} {k:Key} {v:V},fF kvs k=some v->v∈kvs.map (·.2):=fun {kvs k v}=>by
  induction kvs with
  | nil=>intro e;cases e
  | cons kv kvs ih =>
   intro e
   obtain ⟨k',v'⟩:=kv
   by_cases hk:k'=k
   ·rw [gG hk] at e
    cases e
    exact List.mem_cons_self ..
   ·rw [fO hk] at e
    exact List.mem_cons_of_mem _ (ih e)
 have no:∀ {ts:List (List Nat)} {kvs:List (Key×V)},aX G g ts kvs->t∉ts->V.ref b∉kvs.map (·.2)->aX (upd G b (.lst ((g t++[x]).map T))) (fun u=>if u=t then g t++[x] else g u) ts kvs:=fun {ts kvs} h=>by
  induction h with
  | nil=>intro _ _;exact .nil
  | @cons o a _ _ e _ ih =>
   intro h1 h2
   have hne:o≠t:=fun z=>h1 (z▸List.mem_cons_self ..)
   have hab:a≠b:=fun z=>h2 (z▸List.mem_cons_self ..)
   exact .cons (by rw [aH hab,if_neg hne];exact e) (ih (fun z=>h1 (List.mem_cons_of_mem _ z)) fun z=>h2 (List.mem_cons_of_mem _ z))
 induction h with
 | nil=>intro _ _ h;cases h
 | @cons o a _ _ e hr ih =>
  intro nd nv ht hv
  rw [List.nodup_cons] at nd
  rw [List.map_cons,List.nodup_cons] at nv
  by_cases hot:o=t
  ·subst hot
   rw [gG rfl] at hv
   cases hv
   exact .cons (by rw [aC,if_pos rfl]) (no hr nd.1 nv.1)
  ·rw [fO (fun z=>hot (fD (Sum.inr.inj z)))] at hv
   have hab:a≠b:=fun z=>nv.1 (z▸vm hv)
   exact .cons (by rw [aH hab,if_neg hot];exact e) (ih nd.2 nv.2 ((List.mem_cons.mp ht).resolve_left (Ne.symm hot)) hv)
def cg (us:List (List Nat))(t:List Nat):List (List Nat):=(us.filter fun w=>decide (w.drop 1=t)).map beg
theorem zI {us:List (List Nat)}{x t:List Nat}:cg (us++[x]) t=if t=x.drop 1 then cg us t++[beg x] else cg us t:=by
 unfold cg
 rw [List.filter_append,List.map_append]
 by_cases h:t=x.drop 1
 ·rw [if_pos h,List.filter_cons_of_pos (p:=fun w:List Nat=>decide (w.drop 1=t)) (decide_eq_true h.symm),List.filter_nil]
  rfl
 ·rw [if_neg h,List.filter_cons_of_neg (p:=fun w:List Nat=>decide (w.drop 1=t)) (fun z=>h (of_decide_eq_true z).symm),List.filter_nil,List.map_nil,List.append_nil]
theorem xY {us:List (List Nat)}{t z:List Nat}:z∈cg us t↔∃ w∈us,w.drop 1=t∧beg w=z:=by
 unfold cg
 rw [List.mem_map]
 constructor
 ·rintro ⟨w,h1,h2⟩
  obtain ⟨h3,h4⟩:=List.mem_filter.mp h1
  exact ⟨w,h3,of_decide_eq_true h4,h2⟩
 ·rintro ⟨w,h1,h2,h3⟩
  exact ⟨w,List.mem_filter.mpr ⟨h1,decide_eq_true h2⟩,h3⟩
def zF (us:List (List Nat))(p:List Nat)(fs:List (List Nat)):Prop:=∀ χ:List Nat->Prop,χ p->(∀ w∈us,χ (w.drop 1)->χ (beg w))->∀ k∈fs,χ k
def xQ (K:PySem.W.Frag):Sp:=fun vs H Q _=>∃ (a:Addr) (us:List (List Nat)) (p:List Nat),vs=[.ref a,T p]∧SqA K H a (us.map T)∧(us.length<=1000∧∀ x∈us,1<=x.length∧x.length<=1000)∧∀ (D:Addr) (fs:List (List Nat)) (H':Hp),H D=none->aM H H'->H' D=some (.dK (tKs fs (.bl true)))->fs.Nodup->p∈fs->(∀ w∈us,w.drop 1∈fs->beg w∈fs)->zF us p fs->Q (.ref D) H'
theorem tS {f:Addr}{fd:FuncData}(F:Fun K "coming_to" "coming_to" jV f fd)(tt:Txt K mg ad)(C_end_of:Cal P w K mg base (CX1 P w) "end_of" 1 ["word"] Ah)(C_begin_of:Cal P w K mg base (CX1 P w) "begin_of" 1 ["word"] jA):cD P w K mg base (CX1 P w) 2 f fd ["words", "piece"] (xQ K):=by
 refine F.okN dL (fun vs H Q E h=>?_) (fun cdv A outer s H vs Q E hr h=>?_)
 ·obtain ⟨a,ms,p,rfl,_⟩:=h
  rfl
 ·obtain ⟨a,ms,p,rfl,hS,⟨hl,hx⟩,q⟩:=h
  have hs:sizeLine=16777216:=sizeLine_eq
  have hu:=Nat.lt_of_succ_lt (jH hr)
  refine ⟨_,(aB (aI (i:=2) dL.nd rfl (Or.inl rfl) xH)
   (aB (cC PassesOwn.never rfl (oO K rfl (pv 0)) (bJ (i:=3) dL.nd rfl (Or.inl rfl)) (aG (dG (kB PySem.F.plainAttrs_list PySem.F.slot_list_append PySem.F.type_list_append eM (yX (pv 2) (aO C_end_of hr aZ (aA (pv 3) aD)) (bK aD) ⟨rfl,rfl,rfl,rfl⟩) (aA (aO C_begin_of hr aZ (aA (pv 3) aD)) aD)))))
   (aB (aI (i:=4) dL.nd rfl (Or.inl rfl) (Iu (Ha (pv 1) hU Hx) rfl rfl (fun z=>nomatch z) (by decide)))
   (aB (aI (i:=5) dL.nd rfl (Or.inl rfl) (bK (aA (pv 1) aD)))
   (aB (jZ PassesOwn.never (aN (wK hu) (pv 5) (bK aD) (aP _)) (aB (aI (i:=6) dL.nd rfl (Or.inl rfl) (Nh PySem.F.plainAttrs_list PySem.F.slot_list_pop PySem.F.type_list_pop Ni (pv 5)))
   (aG (cC PassesOwn.never rfl (bW (Hs (jH hr) (pv 2) (pv 6) (bK aD) ⟨rfl,rfl,rfl,rfl⟩)) (bJ (i:=7) dL.nd rfl (Or.inl rfl)) (aG (bT (Gs (Cm (jH hr) (pv 7) (pv 4))) (aB (mI (jH hr) (pv 4) (pv 7) hU rfl)
   (aG (dG (kB PySem.F.plainAttrs_list PySem.F.slot_list_append PySem.F.type_list_append eM (pv 5) (aA (pv 7) aD))))) aW))))))
   (aG (bA (pv 4)))))))),?_⟩
  (try rw [dI]);(try rw [cxK1])
  refine fun D hD=>?_
  have sD:=aF (o:=.dK []) hD
  refine ⟨_,rfl,a,ms.map T,_,rfl,hS,sD,fun J rd=>?_⟩
  refine sQ rd (fun i σ G=>aM H G∧∃ (kvs:List (Key×V)) (ts:List (List Nat)) (v2:Option V),G D=some (.dK kvs)∧aX G (cg (ms.take i)) ts kvs∧ts.Nodup∧(kvs.map (·.2)).Nodup∧(∀ b,V.ref b∈kvs.map (·.2)->H b=none)∧ts.length<=i∧(∀ t,t∈ts↔∃ x∈ms.take i,(x.drop 1)=t)∧σ=[some (.ref a),some (T p),some (.ref D),v2,none,none,none,none])
   ⟨sD,[],[],none,aC,.nil,List.nodup_nil,List.nodup_nil,fun b h=>(nomatch h),Nat.le_refl _,fun t=>⟨fun h=>(nomatch h),fun ⟨x,h,_⟩=>by rw [List.take_zero] at h;cases h⟩,rfl⟩ (fun i σ G _ h=>h.1) ?_ ?_
  ·rintro i y σ G hi ⟨sG,kvs,ts,v2,hd,hwa,nd,nv,hf,hlt,hm,rfl⟩
   obtain ⟨x,hxi,rfl⟩:∃ x,ms[i]?=some x∧T x=y:=by rw [List.getElem?_map] at hi;exact Option.map_eq_some_iff.mp hi
   have hil:=(List.getElem?_eq_some_iff.mp hxi).1
   have hxx:=hx x (List.mem_of_getElem? hxi)
   have htk:ms.take (i+1)=ms.take i++[x]:=by rw [List.take_add_one,hxi];rfl
   have hm2:∀ t,(∃ y∈ms.take (i+1),y.drop 1=t)↔(∃ y∈ms.take i,y.drop 1=t)∨t=(x.drop 1):=fun t=>by
    rw [htk]
    constructor
    ·rintro ⟨y,h1,h2⟩
     rcases List.mem_append.mp h1 with z | z
     ·exact .inl ⟨y,z,h2⟩
     ·rw [List.mem_singleton.mp z] at h2
      exact .inr h2.symm
    ·rintro (⟨y,h1,h2⟩ | h)
     ·exact ⟨y,List.mem_append_left _ h1,h2⟩
     ·exact ⟨x,List.mem_append_right _ (List.mem_singleton.mpr rfl),h.symm⟩
   have hgl:∀ t,(cg (ms.take i) t).length<=1000:=fun t=>by
    unfold cg
    rw [List.length_map]
    exact Nat.le_trans (List.length_filter_le ..) (by rw [List.length_take];omega)
   refine ⟨_,rfl,D,rfl,⟨_,hd⟩,_,rfl,x,rfl,⟨hxx.1,hxx.2⟩,(by show 0<=sizeLine;omega),fun e he=>?_⟩
   have s1:=aF (o:=.lst []) he
   have h1:upd G e (.lst []) e=some (.lst []):=aC
   have heH:H e=none:=eJ sG he
   have heD:e≠D:=fun z=>by rw [z,hd] at he;cases he
   have hd1:=s1 D _ hd
   have hwa1:=hwa.mono s1
   have sG1:=sG.trans s1
   have hev:V.ref e∉kvs.map (·.2):=fun z=>by
    have key:∀ {ts:List (List Nat)} {kvs:List (Key×V)},aX G (cg (ms.take i)) ts kvs->V.ref e∉kvs.map (·.2):=fun {ts kvs} h=>by
     induction h with
     | nil=>intro z;cases z
     | @cons o a' _ _ e1 _ ih =>
      intro z
      rcases List.mem_cons.mp z with z | z
      ·cases z;rw [he] at e1;cases e1
      ·exact ih z
    exact key hwa z
   generalize upd G e (.lst [])=G1 at s1 h1 hd1 hwa1 sG1
   refine ⟨kvs,Sum.inr (tx ((x.drop 1))),hd1,rfl,by rw [hwa.len];omega,fun v hv=>?_,fun hn=>?_⟩
   ·have hol:(x.drop 1)∈ts:=Decidable.byContradiction fun z=>by rw [sY hwa z] at hv;cases hv
    obtain ⟨b,hb1,hb2⟩:=hwa1.get hol
    obtain rfl:v = .ref b:=by rw [hb1] at hv;exact (Option.some.inj hv).symm
    have hbH:=hf b (by
     have vm:∀ {kvs:List (Key×V)} {k:Key} {v:V},fF kvs k=some v->v∈kvs.map (·.2):=fun {kvs k v}=>by
      induction kvs with
      | nil=>intro e;cases e
      | cons kv kvs ih =>
       intro e
       obtain ⟨k',v'⟩:=kv
       by_cases hk:k'=k
       ·rw [gG hk] at e;cases e;exact List.mem_cons_self ..
       ·rw [fO hk] at e;exact List.mem_cons_of_mem _ (ih e)
     exact vm hv)
    have hbD:b≠D:=fun z=>by rw [z,hd1] at hb2;cases hb2
    refine ⟨.inl ⟨rfl,_,SqL.of hb2⟩,_,rfl,x,rfl,⟨hxx.1,hxx.2⟩,b,_,_,rfl,rfl,hb2,(by rw [List.length_map];have:=hgl ((x.drop 1));omega),?_⟩
    have hw2:=hwa1.app (x:=beg x) nd nv hol hb1
    refine ⟨fun b' o e'=>by rw [aH (fun z=>by rw [z,hbH] at e';cases e')];exact sG1 b' o e',kvs,ts,_,by rw [aH hbD.symm];exact hd1,?_,nd,nv,hf,by omega,fun t=>?_,rfl⟩
    ·rw [List.map_append] at hw2
     refine hw2.cong fun t _=>?_
     rw [htk,zI]
     by_cases z:t=(x.drop 1)
     ·rw [if_pos z,if_pos z,z]
     ·rw [if_neg z,if_neg z]
    ·rw [hm2,hm]
     exact ⟨.inl,fun h=>h.elim id fun z=>z▸(hm _).mp hol⟩
   ·have hol:(x.drop 1)∉ts:=fun z=>by obtain ⟨a,h1,_⟩:=hwa1.get z;rw [h1] at hn;cases hn
    have hep:upd G1 D (.dK (cN kvs (Sum.inr (tx ((x.drop 1)))) (.ref e))) e=some (.lst []):=by rw [aH heD];exact h1
    refine ⟨.inl ⟨rfl,_,SqL.of hep⟩,_,rfl,x,rfl,⟨hxx.1,hxx.2⟩,e,_,_,rfl,rfl,hep,(by show 0<sizeLine;omega),?_⟩
    have hpk:cN kvs (Sum.inr (tx ((x.drop 1)))) (.ref e)=kvs++[(Sum.inr (tx ((x.drop 1))),.ref e)]:=by
     unfold cN
     rw [if_neg]
     intro z
     obtain ⟨kv,z1,z2⟩:=List.any_eq_true.mp z
     have h3:kv.1∈kvs.map (·.1):=List.mem_map_of_mem z1
     rw [hwa.keys,of_decide_eq_true z2] at h3
     obtain ⟨t,h4,h5⟩:=List.mem_map.mp h3
     exact hol (fD (Sum.inr.inj h5)▸h4)
    have og0:cg (ms.take i) (x.drop 1)=[]:=by
     unfold cg
     rw [List.filter_eq_nil_iff.mpr fun u hu z=>hol ((hm _).mpr ⟨u,hu,of_decide_eq_true z⟩)]
     rfl
    have hne:∀ b' o,H b'=some o->b'≠e∧b'≠D:=fun b' o e'=>⟨fun z=>(by rw [z,heH] at e';cases e'),fun z=>(by rw [z,hD] at e';cases e')⟩
    refine ⟨fun b' o e'=>by rw [aH (hne b' o e').1,aH (hne b' o e').2];exact sG1 b' o e',_,ts++[(x.drop 1)],_,by rw [aH heD.symm];exact aC,?_,?_,?_,?_,by rw [List.length_append];show _+1<=_;omega,fun t=>?_,rfl⟩
    ·have hw2:aX (upd (upd G1 D (.dK (cN kvs (Sum.inr (tx ((x.drop 1)))) (.ref e)))) e (.lst ([]++[T (beg x)]))) (fun t=>if t=(x.drop 1) then [beg x] else cg (ms.take i) t) ts kvs:=by
      have hw3:=hwa1.updD (o:=.dK (cN kvs (Sum.inr (tx ((x.drop 1)))) (.ref e))) hd1
      have key:∀ {G':Hp} {ts:List (List Nat)} {kvs:List (Key×V)},aX G' (cg (ms.take i)) ts kvs->V.ref e∉kvs.map (·.2)->(x.drop 1)∉ts->aX (upd G' e (.lst ([]++[T (beg x)]))) (fun t=>if t=(x.drop 1) then [beg x] else cg (ms.take i) t) ts kvs:=fun {G' ts kvs} h=>by
       induction h with
       | nil=>intro _ _;exact .nil
       | @cons o a' _ _ e1 _ ih =>
        intro z1 z2
        have n1:a'≠e:=fun z=>z1 (z▸List.mem_cons_self ..)
        have n2:o≠(x.drop 1):=fun z=>z2 (z▸List.mem_cons_self ..)
        exact .cons (by rw [aH n1,if_neg n2];exact e1) (ih (fun z=>z1 (List.mem_cons_of_mem _ z)) fun z=>z2 (List.mem_cons_of_mem _ z))
      exact key hw3 hev hol
     rw [hpk]
     rw [hpk] at hw2
     refine (hw2.snoc (a:=e) (by rw [aC,if_pos rfl];rfl)).cong fun t _=>?_
     rw [htk,zI]
     by_cases z:t=(x.drop 1)
     ·rw [if_pos z,if_pos z,z,og0];rfl
     ·rw [if_neg z,if_neg z]
    ·exact List.nodup_append.mpr ⟨nd,by simp,fun a' ha c hc z=>hol (by rw [<- List.mem_singleton.mp hc,<- z];exact ha)⟩
    ·rw [hpk,List.map_append]
     exact List.nodup_append.mpr ⟨nv,by simp,fun a' ha c hc z=>hev (by have hc:c=V.ref e:=List.mem_singleton.mp hc;rw [<- hc,<- z];exact ha)⟩
    ·intro b hb
     rw [hpk,List.map_append] at hb
     rcases List.mem_append.mp hb with z | z
     ·exact hf b z
     ·have z:V.ref b=V.ref e:=List.mem_singleton.mp z
      cases z
      exact heH
    ·rw [hm2,List.mem_append,hm,List.mem_singleton]
  ·rintro σ G ⟨sG,kvs,ts,v2,hd,hwa,nd,nv,hf,hlt,hm,rfl⟩
   rw [List.length_map,List.take_length] at hwa
   rw [List.length_map,List.take_length] at hm
   intro D2 hD2
   refine ⟨_,rfl,aC,[(Sum.inr (tx p),.bl true)],rfl,(by show 1<=15;decide),?_⟩
   have e1:upd (upd G D2 (.dK [])) D2 (.dK (mV [] [(Sum.inr (tx p),.bl true)]))=upd G D2 (.dK (tKs [p] (.bl true))):=by
    rw [Ig]
    rfl
   rw [e1]
   have s2:=aF (o:=.dK (tKs [p] (.bl true))) hD2
   refine ⟨_,rfl,(by show 1<=sizeLine;omega),fun Wt hWt=>?_⟩
   have s3:=aF (o:=.lst [T p]) hWt
   have hWD:Wt≠D2:=fun z=>by rw [z,aC] at hWt;cases hWt
   have hDD2:D≠D2:=fun z=>by rw [z,hD2] at hd;cases hd
   have hDH2:H D2=none:=eJ sG hD2
   have hWH:H Wt=none:=eJ (sG.trans s2) hWt
   have hbnd:∀ fs:List (List Nat),fs.Nodup->zF ms p fs->fs.length<=ms.length+1:=fun fs hn hle=>by
    have h1:=Dt.kI (b:=p::ms.map beg) hn (hle (fun k=>k∈p::ms.map beg) (List.mem_cons_self ..) fun w hw _=>List.mem_cons_of_mem _ (List.mem_map_of_mem hw))
    rw [List.length_cons,List.length_map] at h1
    exact h1
   have hdG:=s3 D _ (s2 D _ hd)
   have hwaG:=(hwa.mono s2).mono s3
   have hd2G:upd (upd G D2 (.dK (tKs [p] (.bl true)))) Wt (.lst [T p]) D2=some (.dK (tKs [p] (.bl true))):=by rw [aH hWD.symm];exact aC
   generalize hG3:upd (upd G D2 (.dK (tKs [p] (.bl true)))) Wt (.lst [T p])=G3 at hdG hwaG hd2G
   have hwG:G3 Wt=some (.lst ([p].map T)):=by rw [<- hG3];exact aC
   have sG3:aM H G3:=by rw [<- hG3];exact sG.trans (s2.trans s3)
   refine ⟨fun m σ G2=>∃ (fs wl:List (List Nat)) (v6 v7:Option V),m+2*fs.length=2*(ms.length+1)+wl.length∧aM H G2∧(∀ b o,b≠D2->b≠Wt->G3 b=some o->G2 b=some o)∧G2 D2=some (.dK (tKs fs (.bl true)))∧G2 Wt=some (.lst (wl.map T))∧fs.Nodup∧p∈fs∧(∀ z∈wl,z∈fs)∧zF ms p fs∧(∀ w∈ms,w.drop 1∈fs->w.drop 1∈wl∨beg w∈fs)∧wl.length<=fs.length∧σ=[some (.ref a),some (T p),some (.ref D),v2,some (.ref D2),some (.ref Wt),v6,v7],
    ⟨2*ms.length+1,[p],[p],none,none,by show 2*ms.length+1+2*1=2*(ms.length+1)+1;omega,sG3,fun b o _ _ e=>e,hd2G,hwG,by simp,by simp,fun z hz=>hz,fun χ h1 _ k hk=>by rw [List.mem_singleton.mp hk];exact h1,fun w _ h=>.inl h,Nat.le_refl _,rfl⟩,?_⟩
   rintro m σ G2 ⟨fs,wl,v6,v7,hmm,sG2,kp,hf2,hw2,hfn,hpf,hwf,hle,hcl,hwfl,rfl⟩
   refine ⟨_,rfl,(by show 0<=sizeLine;omega),fun E0 hE0=>?_⟩
   have tE:=aF (o:=.lst []) hE0
   refine ⟨Wt,E0,wl,[],rfl,rfl,SqL.of (tE Wt _ hw2),SqL.of aC,_,rfl,?_⟩
   by_cases hwe:wl=[]
   ·subst hwe
    refine itN (by rw [decide_eq_true rfl];exact Bool.false_ne_true) ?_
    refine ⟨_,rfl,?_⟩
    exact q D2 fs _ hDH2 (sG2.trans tE) (tE D2 _ hf2) hfn hpf (fun w hw h=>(hcl w hw h).resolve_left (by simp)) hle
   ·refine itP (by rw [decide_eq_false hwe];rfl) ?_
    refine ⟨_,fun σ' H' z=>z,?_⟩
    obtain ⟨wl',z,rfl⟩:∃ wl' z,wl=wl'++[z]:=⟨wl.dropLast,wl.getLast hwe,(List.dropLast_concat_getLast hwe).symm⟩
    have hE0D2:E0≠D2:=fun e=>by rw [e,hf2] at hE0;cases hE0
    have hE0W:E0≠Wt:=fun e=>by rw [e,hw2] at hE0;cases hE0
    have hzf:z∈fs:=hwf z (by simp)
    have hwfl2:wl'.length+1<=fs.length:=by rw [List.length_append] at hwfl;exact hwfl
    refine ⟨_,rfl,.inl ⟨rfl,_,SqL.of (tE Wt _ hw2)⟩,Wt,(wl'++[z]).map T,T z,rfl,rfl,tE Wt _ hw2,?_,?_⟩
    ·rw [List.length_map,List.length_append]
     show ((wl'++[z]).map T)[wl'.length+1-1]?=_
     rw [List.map_append,List.getElem?_append_right (by rw [List.length_map];omega),List.length_map,show wl'.length+1-1-wl'.length=0 by omega]
     rfl
    have hdl:((wl'++[z]).map T).dropLast=wl'.map T:=by rw [List.map_append];exact List.dropLast_concat
    rw [hdl]
    have kp2:∀ b o,b≠D2->b≠Wt->G3 b=some o->upd (upd G2 E0 (.lst [])) Wt (.lst (wl'.map T)) b=some o:=fun b o h1 h2 e=>by rw [aH h2];exact tE b o (kp b o h1 h2 e)
    have sG4:aM H (upd (upd G2 E0 (.lst [])) Wt (.lst (wl'.map T))):=fun b o e=>by rw [aH (aK e hWH)];exact tE b o (sG2 b o e)
    have hf4:upd (upd G2 E0 (.lst [])) Wt (.lst (wl'.map T)) D2=some (.dK (tKs fs (.bl true))):=by rw [aH hWD.symm];exact tE D2 _ hf2
    have hw4:upd (upd G2 E0 (.lst [])) Wt (.lst (wl'.map T)) Wt=some (.lst (wl'.map T)):=aC
    generalize upd (upd G2 E0 (.lst [])) Wt (.lst (wl'.map T))=G4 at kp2 sG4 hf4 hw4
    have hDW:D≠Wt:=fun e=>by rw [e,hwG] at hdG;cases hdG
    have hd4:=kp2 D _ hDD2 hDW hdG
    refine ⟨_,rfl,D,rfl,.inl ⟨kvs,.inl hd4⟩,_,rfl,(by show 0<=sizeLine;omega),fun e5 he5=>?_⟩
    have t5:=aF (o:=.lst []) he5
    refine ⟨_,lQ.k (k:=Sum.inr (tx z)) (t5 D _ hd4),?_⟩
    have hlist:∃ b,(fF kvs (Sum.inr (tx z))).getD (.ref e5) = .ref b∧upd G4 e5 (.lst []) b=some (.lst ((cg ms z).map T))∧b≠D2∧b≠Wt:=by
     by_cases hz:z∈ts
     ·obtain ⟨b,hb1,hb2⟩:=hwaG.get hz
      have n1:b≠D2:=fun e=>by rw [e,hd2G] at hb2;cases hb2
      have n2:b≠Wt:=fun e=>by rw [e] at hb1;obtain ⟨b',g1,g2⟩:=hwa.get hz;rw [g1] at hb1;cases hb1;rw [s2 _ _ g2] at hWt;cases hWt
      exact ⟨b,by rw [hb1];rfl,t5 b _ (kp2 b _ n1 n2 hb2),n1,n2⟩
     ·refine ⟨e5,by rw [sY hwaG hz];rfl,?_,(fun e=>by rw [e,hf4] at he5;cases he5),(fun e=>by rw [e,hw4] at he5;cases he5)⟩
      have:cg ms z=[]:=List.eq_nil_iff_forall_not_mem.mpr fun y hy=>by
       obtain ⟨w,h1,h2,_⟩:=xY.mp hy
       exact hz ((hm z).mpr ⟨w,h1,h2⟩)
      rw [this]
      exact aC
    obtain ⟨b,hb1,hb2,hbD,hbW'⟩:=hlist
    rw [hb1]
    refine ⟨b,rfl,⟨_,SqL.of hb2⟩,?_⟩
    have hcl0:(cg ms z).length<=ms.length:=by unfold cg;rw [List.length_map];exact List.length_filter_le ..
    refine cK (K:=K) (a:=b) (xs:=(cg ms z).map T) (fun j σ G5=>∃ (fs' wl2:List (List Nat)) (v7:Option V),fs'.length=fs.length+(wl2.length-wl'.length)∧wl'.length<=wl2.length∧aM H G5∧(∀ c o,c≠D2->c≠Wt->G3 c=some o->G5 c=some o)∧G5 b=some (.lst ((cg ms z).map T))∧G5 D2=some (.dK (tKs fs' (.bl true)))∧G5 Wt=some (.lst (wl2.map T))∧fs'.Nodup∧(∀ y∈fs,y∈fs')∧(∀ y∈wl',y∈wl2)∧(∀ y∈fs',y∈fs∨y∈wl2)∧(∀ y∈wl2,y∈fs')∧zF ms p fs'∧(∀ y∈(cg ms z).take j,y∈fs')∧σ=[some (.ref a),some (T p),some (.ref D),v2,some (.ref D2),some (.ref Wt),some (T z),v7])
     ⟨fs,wl',v7,by omega,Nat.le_refl _,sG4.trans t5,fun c o h1 h2 e=>t5 c o (kp2 c o h1 h2 e),hb2,t5 D2 _ hf4,t5 Wt _ hw4,hfn,fun y hy=>hy,fun y hy=>hy,fun y hy=>.inl hy,fun y hy=>hwf y (List.mem_append_left _ hy),hle,(fun y hy=>by rw [List.take_zero] at hy;cases hy),rfl⟩ (fun j σ G5 _ h=>by obtain ⟨_,_,_,_,_,_,_,h,_⟩:=h;exact SqL.of h) ?_ ?_
    ·rintro j y σ G5 hj ⟨fs',wl2,v7,hln,hlw,sG5,kp5,hb5,hf5,hw5,hfn5,hsub,hwsub,hnew,hwin,hle5,hdone,rfl⟩
     obtain ⟨y,hyj,rfl⟩:∃ y',(cg ms z)[j]?=some y'∧T y'=y:=by rw [List.getElem?_map] at hj;exact Option.map_eq_some_iff.mp hj
     have htk:(cg ms z).take (j+1)=(cg ms z).take j++[y]:=by rw [List.take_add_one,hyj];rfl
     obtain ⟨w0,hw01,hw02,hw03⟩:=xY.mp (List.mem_of_getElem? hyj)
     have hb5l:=hbnd fs' hfn5 hle5
     refine ⟨_,rfl,_,rfl,D2,_,rfl,lQ.k (k:=Sum.inr (tx y)) hf5,_,rfl,?_⟩
     rw [Au]
     by_cases hy:y∈fs'
     ·rw [if_pos hy]
      refine Bw ?_
      refine ⟨fs',wl2,some (T y),hln,hlw,sG5,kp5,hb5,hf5,hw5,hfn5,hsub,hwsub,hnew,hwin,hle5,fun x hx=>?_,rfl⟩
      rw [htk] at hx
      rcases List.mem_append.mp hx with h | h
      ·exact hdone x h
      ·rw [List.mem_singleton.mp h];exact hy
     ·rw [if_neg hy]
      refine Cr ?_
      refine ⟨_,rfl,_,rfl,D2,_,rfl,tR.k (k:=Sum.inr (tx y)) hf5 (by rw [uX];omega),?_⟩
      rw [Jq,show Hg.Mv fs' y=fs'++[y] from if_neg hy]
      have hw6:upd G5 D2 (.dK (tKs (fs'++[y]) (.bl true))) Wt=some (.lst (wl2.map T)):=by rw [aH hWD];exact hw5
      refine ⟨_,rfl,.inl ⟨rfl,_,SqL.of hw6⟩,_,rfl,Wt,_,_,rfl,rfl,hw6,(by rw [List.length_map];omega),?_⟩
      refine ⟨fs'++[y],wl2++[y],some (T y),by rw [List.length_append,List.length_append];show fs'.length+1=fs.length+(wl2.length+1-wl'.length);omega,by rw [List.length_append];omega,fun c o e=>by rw [aH (aK e hWH),aH (aK e hDH2)];exact sG5 c o e,fun c o h1 h2 e=>by rw [aH h2,aH h1];exact kp5 c o h1 h2 e,by rw [aH hbW',aH hbD];exact hb5,by rw [aH hWD.symm];exact aC,by rw [aC,List.map_append];rfl,?_,fun x hx=>List.mem_append_left _ (hsub x hx),fun x hx=>List.mem_append_left _ (hwsub x hx),fun x hx=>?_,fun x hx=>?_,fun χ h1 h2 k hk=>?_,fun x hx=>?_,rfl⟩
      ·exact List.nodup_append.mpr ⟨hfn5,by simp,fun a' ha c hc e=>hy (by rw [<- List.mem_singleton.mp hc,<- e];exact ha)⟩
      ·rcases List.mem_append.mp hx with h | h
       ·exact (hnew x h).elim .inl fun h=>.inr (List.mem_append_left _ h)
       ·exact .inr (List.mem_append_right _ h)
      ·rcases List.mem_append.mp hx with h | h
       ·exact List.mem_append_left _ (hwin x h)
       ·exact List.mem_append_right _ h
      ·rcases List.mem_append.mp hk with h | h
       ·exact hle5 χ h1 h2 k h
       ·rw [List.mem_singleton.mp h,<- hw03]
        exact h2 w0 hw01 (by rw [hw02];exact hle χ h1 h2 z hzf)
      ·rw [htk] at hx
       rcases List.mem_append.mp hx with h | h
       ·exact List.mem_append_left _ (hdone x h)
       ·exact List.mem_append_right _ h
    ·rintro σ G5 ⟨fs',wl2,v7,hln,hlw,sG5,kp5,hb5,hf5,hw5,hfn5,hsub,hwsub,hnew,hwin,hle5,hdone,rfl⟩
     rw [List.length_map,List.take_length] at hdone
     have hb5l:=hbnd fs' hfn5 hle5
     rw [List.length_append] at hmm hwfl
     have hmm:m+2*fs.length=2*(ms.length+1)+(wl'.length+1):=hmm
     have hwfl:wl'.length+1<=fs.length:=hwfl
     refine ⟨2*(ms.length+1)+wl2.length-2*fs'.length,by omega,fs',wl2,_,v7,by omega,sG5,kp5,hf5,hw5,hfn5,hsub p hpf,hwin,hle5,fun w hw h=>?_,by omega,rfl⟩
     by_cases hwz:w.drop 1=z
     ·exact .inr (hdone _ (xY.mpr ⟨w,hw,hwz,rfl⟩))
     ·rcases hnew _ h with h1 | h1
      ·rcases hcl w hw h1 with h2 | h2
       ·rcases List.mem_append.mp h2 with h3 | h3
        ·exact .inl (hwsub _ h3)
        ·exact absurd (List.mem_singleton.mp h3) hwz
       ·exact .inr (hsub _ h2)
      ·exact .inl h1
def uK (K:PySem.W.Frag):Sp:=fun vs H Q _=>∃ (a:Addr) (ns:List Int) (k:Nat),vs=[.ref a,.int (k:Nat)]∧SqL K H a (ns.map V.int)∧Q (.int (ns.getD k 0)) H
theorem nY {f:Addr}{fd:FuncData}(F:Fun K "_law_cell_at" "_law_cell_at" gH f fd)(tt:Txt K mg ad):cD P w K mg base (CX1 P w) 1 f fd ["script", "k"] (uK K):=by
 refine F.okN nV (fun vs H Q E h=>?_) (fun cdv A outer s H vs Q E hr h=>?_)
 ·obtain ⟨a,ns,k,rfl,_⟩:=h
  rfl
 ·obtain ⟨a,ns,k,rfl,hS,q⟩:=h
  refine ⟨_,(aB (bT (aN qB (pv 1) (aQ aV (by rfl) tt.b_len PySem.boot_len (aA (pv 0) aD)) (aP _)) (aG (bA (cO cH (pv 0) (pv 1) (fun _ _=>rfl)))) aW)
   (aG (bA aE))),?_⟩
  (try rw [dI]);(try rw [cxK1])
  refine ⟨_,rfl,_,rfl,a,_,rfl,.inl hS,_,_,rfl,rfl,_,rfl,?_⟩
  rw [List.length_map]
  refine eP (fun h0=>?_) (fun h0=>?_)
  ·have h1:k<ns.length:=by have:=of_decide_eq_true h0;omega
   rw [List.getD_eq_getElem?_getD,List.getElem?_eq_getElem h1] at q
   exact ⟨_,rfl,_,rfl,a,_,_,_,rfl,rfl,hS,bS (by rw [List.getElem?_map,List.getElem?_eq_getElem h1];rfl),q⟩
  ·have h1:¬ k<ns.length:=fun z=>h0 (decide_eq_true (by omega))
   rw [List.getD_eq_getElem?_getD,List.getElem?_eq_none (by omega)] at q
   exact q
theorem Hm {s:Int}(h0:0<=s)(h1:s<6):∃ c,atI [97,98,99,100,101,102] s=some c∧97<=c∧c<103:=by
 obtain ⟨m,hm⟩:=Int.eq_ofNat_of_zero_le h0
 have hm':s=(m:Int):=hm
 subst hm'
 exact ⟨97+m,bS (Rf (by omega)),by omega,by omega⟩
def WL (ls:List (List Nat))(n:Nat):Prop:=(∀ x∈ls,x.length=n∧Abc x)∧ls.Nodup
theorem WL.sub {ls ls':List (List Nat)}{n:Nat}(h:WL ls n)(s:ls'.Sublist ls):WL ls' n:=⟨fun x hx=>h.1 x (s.subset hx),h.2.sublist s⟩
theorem WL.snoc {ls:List (List Nat)}{n:Nat}{t:List Nat}(h:WL ls n)(ht:t.length=n∧Abc t)(hn:¬ t∈ls):WL (ls++[t]) n:=by
 refine ⟨fun x hx=>?_,List.nodup_append.mpr ⟨h.2,by simp,fun a ha b hb ee=>hn ?_⟩⟩
 ·rcases List.mem_append.mp hx with z | z
  ·exact h.1 x z
  ·have e:x=t:=by simpa using z
   subst e
   exact ht
 ·have hb':b=t:=by simpa using hb
  rw [<- hb',<- ee]
  exact ha
theorem wD {k c:Nat}(h:c∈([97,98,99,100,101,102]:List Nat).take k):97<=c∧c<103:=by
 have:=List.mem_of_mem_take h
 simp at this
 omega
def Gj (K:PySem.W.Frag):Sp:=fun vs H Q _=>∃ (c:Addr) (ns:List Int) (k:Nat) (f0:List Nat),vs=[.ref c,.int (k:Nat),T f0]∧SqL K H c (ns.map V.int)∧(ns.length<=63∧k<=6∧f0.length<=10)∧Abc f0 ∧
 ∀ (D:Addr) (ls:List (List Nat)) (H':Hp),aM H H'->H' D=some (.lst (ls.map T))->WL ls (f0.length+1)->ls.length<=ns.length->Q (.ref D) H'
theorem tP {f:Addr}{fd:FuncData}(F:Fun K "_law_walk" "_law_walk" gT f fd)(tt:Txt K mg ad):cD P w K mg base (CX1 P w) 1 f fd ["cells", "kinds", "first"] (Gj K):=by
 refine F.okN dE (fun vs H Q E h=>?_) (fun cdv A outer s H vs Q E hr h=>?_)
 ·obtain ⟨c,ns,k,f0,rfl,_⟩:=h
  rfl
 ·obtain ⟨c,ns,k,f0,rfl,hS,hb,hf0,q⟩:=h
  have hs:sizeLine=16777216:=sizeLine_eq
  have hnl:(ns.map V.int).length=ns.length:=List.length_map ..
  refine ⟨_,(aB (aI (i:=3) dE.nd rfl (Or.inr rfl) (bK aD))
   (aB (aI (i:=4) dE.nd rfl (Or.inr rfl) (pv 2))
   (aB (cC PassesOwn.never rfl (bW (pv 0)) (bJ (i:=5) dE.nd rfl (Or.inl rfl)) (aB (nK (i:=6) oY rfl (jX (bD kU (aS [97,98,99,100,101,102] (by decide +kernel)) bN (bF (pv 1)))) (fun cl C s' H' fp=>(aN (rQ K rfl) (aL dO (pv 5) (pv 0)) (pv 4) (by with_unfolding_all rfl))) (fun cl C s' H' fp=>(aL dO (pv 5) (pv 0))) dE.nd rfl rfl)
   (aB (bT (aN cG (aQ aV (by rfl) tt.b_len PySem.boot_len (aA (pv 6) aD)) aE (aP _)) (aG wV) aW)
   (aB (aI (i:=7) dE.nd rfl (Or.inl rfl) (cO cH (pv 6) (aL bY (pv 5) (aQ aV (by rfl) tt.b_len PySem.boot_len (aA (pv 6) aD))) (fun _ _=>rfl)))
   (aB (dG (kB PySem.F.plainAttrs_list PySem.F.slot_list_append PySem.F.type_list_append eM (pv 3) (aA (pv 7) aD)))
   (aG (aI (i:=4) dE.nd rfl (Or.inr rfl) (bD kU (pv 7) (bF aE) bN))))))))
   (aG (bA (pv 3)))))),?_⟩
  (try rw [dI]);(try rw [cxK1])
  refine ⟨(by show 0<=sizeLine;omega),fun D hD=>?_⟩
  have s0:=aF (o:=.lst []) hD
  refine ⟨_,rfl,?_⟩
  refine ⟨_,rfl,c,rfl,⟨_,s0.seq hS⟩,?_⟩
  refine cK (K:=K) (a:=c) (xs:=ns.map V.int) (fun i σ H2=>aM H H2∧∃ (ls:List (List Nat)) (hh:List Nat) (v5 v6 v7:Option V),H2 D=some (.lst (ls.map T))∧WL ls (f0.length+1)∧ls.length<=i∧hh.length=f0.length∧Abc hh∧σ=[some (.ref c),some (.int (k:Nat)),some (T f0),some (.ref D),some (T hh),v5,v6,v7])
   ⟨s0,[],f0,none,none,none,aC,⟨fun x hx=>(by simp at hx),List.nodup_nil⟩,Nat.le_refl _,rfl,hf0,rfl⟩ (fun i σ H2 _ h=>h.1.seq hS) ?_ ?_
  ·rintro i y σ H2 hi ⟨s2,ls,hh,v5,v6,v7,hd,hwl,hl,hhl,hab,rfl⟩
   have hi63:i<ns.length:=by have:=(List.getElem?_eq_some_iff.mp hi).1;omega
   obtain ⟨z,rfl⟩:∃ z,y=V.int z:=by
    obtain ⟨z,_,e⟩:=List.mem_map.mp (List.mem_of_getElem? hi)
    exact ⟨z,e.symm⟩
   refine ⟨_,rfl,_,rfl,_,rfl,(by show 6<=sizeLine;omega),?_⟩
   have ec:fE [97,98,99,100,101,102] none (some ((k:Nat):Int))=([97,98,99,100,101,102]:List Nat).take k:=iG _ _
   rw [ec]
   refine ⟨_,rfl,?_⟩
   generalize hsg:([97,98,99,100,101,102]:List Nat).take k=sg
   have hsgl:sg.length<=6:=by rw [<- hsg,List.length_take];exact Nat.min_le_right _ _
   have hsga:∀ c∈sg,97<=c∧c<103:=fun c hc=>wD (by rw [hsg];exact hc)
   refine xW (vs:=(sg.map fun c=>[c]).map T) (fun v=>!decide (hh++unT v∈ls)) (fun v=>T (hh++unT v)) gD (by rw [List.length_map,List.length_map];omega) (fun v H3 hv s3 N hN=>?_) (fun v H3 hv hp s3 N hN=>?_) fun D1 H3 hD1 s3 hd3=>?_
   ·obtain ⟨l,hl',rfl⟩:=List.mem_map.mp hv
    obtain ⟨ch,hch,rfl⟩:=List.mem_map.mp hl'
    have g:=hN H3 (aM.refl _)
    rw [eF] at g
    refine ⟨_,rfl,_,rfl,_,rfl,_,rfl,(by show hh.length+1<=sizeLine;omega),_,rfl,D,_,rfl,.inl (SqL.of (s3 D _ hd)),rfl,hX ls,_,rfl,?_⟩
    show N (!inV (T (hh++[ch])) (ls.map T)) H3
    rw [sO]
    exact g
   ·obtain ⟨l,hl',rfl⟩:=List.mem_map.mp hv
    obtain ⟨ch,hch,rfl⟩:=List.mem_map.mp hl'
    have g:=hN H3 (aM.refl _)
    rw [eF] at g
    exact ⟨_,rfl,_,rfl,_,rfl,_,rfl,(by show hh.length+1<=sizeLine;omega),g⟩
   obtain ⟨fr,hfr,hfm⟩:∃ fr:List (List Nat),(((sg.map fun c=>[c]).map T).filter (fun v=>!decide (hh++unT v∈ls))).map (fun v=>T (hh++unT v))=fr.map T∧∀ t∈fr,(t.length=f0.length+1∧Abc t)∧¬ t∈ls:=by
    refine ⟨((sg.map fun c=>[c]).filter fun l=>!decide (hh++l∈ls)).map fun l=>hh++l,?_,fun t ht=>?_⟩
    ·rw [show ((sg.map fun c=>[c]).map T).filter (fun v=>!decide (hh++unT v∈ls))=((sg.map fun c=>[c]).filter fun l=>!decide (hh++l∈ls)).map T from iH (p:=fun l=>!decide (hh++l∈ls)) _,gN (f:=fun l=>T (hh++l)),List.map_map]
     rfl
    ·obtain ⟨l,hl',rfl⟩:=List.mem_map.mp ht
     obtain ⟨h1,h2⟩:=List.mem_filter.mp hl'
     obtain ⟨ch,hch,rfl⟩:=List.mem_map.mp h1
     refine ⟨⟨by rw [List.length_append,hhl];rfl,fun d hd'=>?_⟩,fun z=>by rw [decide_eq_true z] at h2;cases h2⟩
     rcases List.mem_append.mp hd' with g | g
     ·exact hab d g
     ·have e:d=ch:=by simpa using g
      subst e
      exact hsga d hch
   rw [hfr] at hd3
   have hfl:(fr.map T).length=fr.length:=List.length_map ..
   refine ⟨_,rfl,D1,_,rfl,.inl (SqL.of hd3),_,rfl,_,rfl,_,rfl,?_⟩
   rw [hfl]
   refine eP (fun h0=>?_) (fun h0=>?_)
   ·exact ⟨_,rfl,q D ls H3 (s2.trans s3) (s3 D _ hd) hwl (by omega)⟩
   have hf0:0<fr.length:=by
    rcases Nat.eq_zero_or_pos fr.length with g | g
    ·exact absurd (decide_eq_true (by rw [g];rfl)) h0
    ·exact g
   have z0:=Int.emod_nonneg z (show ((fr.length:Nat):Int)≠0 by omega)
   have z1:=Int.emod_lt_of_pos z (show (0:Int)<((fr.length:Nat):Int) by omega)
   obtain ⟨m,hm,hml⟩:∃ m:Nat,z % ((fr.length:Nat):Int)=(m:Int)∧m<fr.length:=⟨(z % ((fr.length:Nat):Int)).toNat,by omega,by omega⟩
   obtain ⟨t,ht⟩:∃ t,fr[m]?=some t:=⟨_,List.getElem?_eq_getElem hml⟩
   obtain ⟨htn,htl⟩:=hfm t (List.mem_of_getElem? ht)
   refine ⟨_,rfl,_,rfl,_,rfl,D1,_,rfl,.inl (SqL.of hd3),_,_,rfl,rfl,(by show (0:Int)<(((fr.map T).length:Nat):Int);omega),D1,_,_,_,rfl,rfl,SqL.of hd3,(by rw [hfl,hm];exact bS (by rw [List.getElem?_map,ht];rfl)),?_⟩
   refine ⟨_,rfl,.inl ⟨rfl,_,SqL.of (s3 D _ hd)⟩,_,rfl,D,_,_,rfl,rfl,s3 D _ hd,(by rw [List.length_map];omega),?_⟩
   have ed:fE t (some 1) none=t.drop 1:=hZ (k:=1) (by omega)
   refine ⟨_,rfl,_,rfl,_,rfl,(by omega),?_⟩
   refine ⟨(fun b o e=>by rw [aH (aK e hD)];exact (s2.trans s3) b o e),ls++[t],t.drop 1,some (.int z),some (.ref D1),some (T t),by rw [List.map_append];exact aC,hwl.snoc htn htl,by rw [List.length_append,List.length_singleton];omega,by rw [List.length_drop];omega,fun d hd'=>htn.2 d (List.mem_of_mem_drop hd'),?_⟩
   rw [<- ed]
   rfl
  ·rintro σ H2 ⟨s2,ls,hh,v5,v6,v7,hd,hwl,hl,hhl,hab,rfl⟩
   exact ⟨_,rfl,q D ls H2 s2 hd hwl (by omega)⟩
theorem Bp {ns:List Int}{lo hi:Option Int}:∃ ms:List Int,dJ (ns.map V.int) lo hi=ms.map V.int:=by
 refine ⟨(ns.drop (HT.sIx ns.length 0 lo)).take (HT.sIx ns.length ns.length hi-HT.sIx ns.length 0 lo),?_⟩
 rw [dJ,List.length_map,List.map_take,List.map_drop]
theorem uZ {xs:List V}{a b:Nat}:(dJ xs (some (a:Int)) (some (b:Int))).length<=b-a:=by
 unfold dJ
 rw [HT.dB,HT.dB,List.length_take,List.length_drop]
 omega
theorem Kf {l:List Int}{lo hi:Int}(h:∀ x∈l,lo<=x∧x<=hi){z:Int}(h0:0<=z)(h1:z<l.length):∃ v:Int,atI (l.map V.int) z=some (.int v)∧lo<=v∧v<=hi:=by
 obtain ⟨m,rfl⟩:∃ m:Nat,z=(m:Int):=⟨z.toNat,by omega⟩
 have hm:m<l.length:=by omega
 obtain ⟨a,b⟩:=h _ (List.getElem_mem hm)
 exact ⟨l[m],bS (by rw [List.getElem?_map,List.getElem?_eq_getElem hm];rfl),a,b⟩
theorem Dn {ls:List (List Nat)}:dJ (ls.map T) none (some (-1))=(ls.take (ls.length-1)).map T:=by
 unfold dJ
 rw [HT.eC,List.drop_zero,Nat.sub_zero,List.length_map,List.map_take]
 show (ls.map T).take (if (-1:Int)<0 then ((-1:Int)+(ls.length:Int)).toNat else min (-1:Int).toNat ls.length)=_
 rw [if_pos (by decide),show ((-1:Int)+(ls.length:Int)).toNat=ls.length-1 by omega]
theorem Kc (n:Nat):(Wd.rep n [97]).length=n∧Abc (Wd.rep n [97]):=by
 refine ⟨by rw [Wd.zO];show n*1=n;omega,fun c hc=>?_⟩
 unfold Wd.rep at hc
 obtain ⟨l,h1,h2⟩:=List.mem_flatten.mp hc
 rw [List.eq_of_mem_replicate h1] at h2
 have e:c=97:=by simpa using h2
 omega
theorem WL.one {n:Nat}{t:List Nat}(h:t.length=n∧Abc t):WL [t] n:=⟨fun x hx=>by rw [List.mem_singleton.mp hx];exact h,by simp⟩
def wA (K:PySem.W.Frag):Sp:=fun vs H Q _=>∃ (a:Addr) (ns:List Int),vs=[.ref a,.int 0,.int 20]∧SqL K H a (ns.map V.int)∧∀ (D:Addr) (ls:List (List Nat)) (n:Nat) (H':Hp),aM H H'->H' D=some (.lst (ls.map T))->WL ls n->(1<=n∧n<=5)->ls≠[]->ls.length<=20->Q (.ref D) H'
theorem lN {f:Addr}{fd:FuncData}(F:Fun K "_law_ring_words" "_law_ring_words" fC f fd)(tt:Txt K mg ad)(C__law_cell_at:Cal P w K mg base (CX1 P w) "_law_cell_at" 1 ["script", "k"] (uK K))(C__law_walk:Cal P w K mg base (CX1 P w) "_law_walk" 1 ["cells", "kinds", "first"] (Gj K)) :
  cD P w K mg base (CX1 P w) 2 f fd ["script", "at", "most"] (wA K):=by
 refine F.okN bC (fun vs H Q E h=>?_) (fun cdv A outer s H vs Q E hr h=>?_)
 ·obtain ⟨a,ns,rfl,_⟩:=h
  rfl
 ·obtain ⟨a,ns,rfl,hS,q⟩:=h
  have hs:sizeLine=16777216:=sizeLine_eq
  obtain ⟨nz,hnz,n1,n5⟩:=Kf (l:=[2,3,1,4,2,3,5]) (lo:=1) (hi:=5) (by decide) (Int.emod_nonneg (ns.getD 0 0) (show (7:Int)≠0 by decide)) (Int.emod_lt_of_pos _ (show (0:Int)<7 by decide))
  obtain ⟨kz,hkz,k1,k6⟩:=Kf (l:=[2,3,2,2,4,6,2,1]) (lo:=1) (hi:=6) (by decide) (Int.emod_nonneg (ns.getD 1 0) (show (8:Int)≠0 by decide)) (Int.emod_lt_of_pos _ (show (0:Int)<8 by decide))
  obtain ⟨n,rfl⟩:∃ n:Nat,nz=(n:Int):=⟨nz.toNat,by omega⟩
  obtain ⟨k,rfl⟩:∃ k:Nat,kz=(k:Int):=⟨kz.toNat,by omega⟩
  refine ⟨_,(aB (aI (i:=3) bC.nd rfl (Or.inl rfl) (cO cH (bK (aA aE (aA aE (aA aE (aA aE (aA aE (aA aE (aA aE aD)))))))) (aL bY (aO C__law_cell_at hr aZ (aA (pv 0) (aA (pv 1) aD))) aE) (fun _ _=>rfl)))
   (aB (aI (i:=4) bC.nd rfl (Or.inl rfl) (cO cH (bK (aA aE (aA aE (aA aE (aA aE (aA aE (aA aE (aA aE (aA aE aD))))))))) (aL bY (aO C__law_cell_at hr aZ (aA (pv 0) (aA (aL cQ (pv 1) aE) aD))) aE) (fun _ _=>rfl)))
   (aB (aI (i:=5) bC.nd rfl (Or.inl rfl) (aO C__law_cell_at hr aZ (aA (pv 0) (aA (aL cQ (pv 1) aE) aD))))
   (aB (aI (i:=6) bC.nd rfl (Or.inl rfl) (aS [] (by decide +kernel)))
   (aB (cC PassesOwn.never rfl (iB (by rfl) tt.b_range (aA (aL fR (pv 3) aE) aD)) (bJ (i:=7) bC.nd rfl (Or.inl rfl)) (aB (aI (i:=6) bC.nd rfl (Or.inl rfl) (aL dO (pv 6) (cO tO (aS [97,98,99,100,101,102] (by decide +kernel)) (aL bY (pv 5) (pv 4)) (fun _ _=>rfl))))
   (aG (aI (i:=5) bC.nd rfl (Or.inl rfl) (aL gQ (pv 5) (pv 4))))))
   (aB (aI (i:=8) bC.nd rfl (Or.inl rfl) (aO C__law_walk hr aZ (aA (bD dF (pv 0) (bF (aL cQ (pv 1) aE)) (bF (aL cQ (aL cQ (pv 1) aE) (pv 2)))) (aA (pv 4) (aA (pv 6) aD)))))
   (aB (jZ PassesOwn.never (PW.pt (uW (aN jI (aQ aV (by rfl) tt.b_len PySem.boot_len (aA (pv 8) aD)) aE (aP _)) (oR (aN iO (bD kU (cO cH (pv 8) (sV nG aE) (fun _ _=>rfl)) (bF aE) bN) (pv 6) (aP _))))) (aG (aI (i:=8) bC.nd rfl (Or.inl rfl) (bD dF (pv 8) bN (bF (sV nG aE))))))
   (aB (bT (aN cG (aQ aV (by rfl) tt.b_len PySem.boot_len (aA (pv 8) aD)) aE (aP _)) (aG (aI (i:=8) bC.nd rfl (Or.inl rfl) (bK (aA (aL wC (aS [97] (by decide +kernel)) (pv 3)) aD)))) aW)
   (aG (bA (pv 8))))))))))),?_⟩
  (try rw [dI]);(try rw [cxK1])
  refine ⟨(by show 7<=sizeLine;omega),fun p1 hp1=>?_⟩
  have s1:=aF (o:=.lst [.int 2,.int 3,.int 1,.int 4,.int 2,.int 3,.int 5]) hp1
  refine ⟨_,rfl,_,rfl,a,ns,0,rfl,s1.seq hS,_,_,rfl,rfl,(by show (0:Int)<7;decide),p1,_,_,_,rfl,rfl,SqL.of aC,hnz,?_⟩
  refine ⟨(by show 8<=sizeLine;omega),fun p2 hp2=>?_⟩
  have s2:=s1.trans (aF (o:=.lst [.int 2,.int 3,.int 2,.int 2,.int 4,.int 6,.int 2,.int 1]) hp2)
  refine ⟨_,rfl,_,rfl,_,_,rfl,rfl,a,ns,1,rfl,s2.seq hS,_,_,rfl,rfl,(by show (0:Int)<8;decide),p2,_,_,_,rfl,rfl,SqL.of aC,hkz,?_⟩
  obtain ⟨H2,hH2,s2⟩:=Fp s2
  rw [<- hH2]
  refine ⟨_,rfl,_,rfl,_,_,rfl,rfl,a,ns,2,rfl,s2.seq hS,?_⟩
  refine ⟨_,rfl,_,_,rfl,rfl,_,rfl,by omega,by omega,?_⟩
  rw [show (((n:Nat):Int)-1).toNat=n-1 by omega]
  refine iC (fun i σ H3=>H2=H3∧∃ (d:Int) (t:List Nat) (v7:Option V),t.length=i∧Abc t∧σ=[some (.ref a),some (.int 0),some (.int 20),some (.int (n:Nat)),some (.int (k:Nat)),some (.int d),some (T t),v7,none])
   ⟨rfl,ns.getD 2 0,[],none,rfl,(fun c hc=>by simp at hc),rfl⟩ ?_ ?_
  ·rintro i σ H3 hi ⟨rfl,d,t,v7,ht,hab,rfl⟩
   have z0:=Int.emod_nonneg d (show ((k:Nat):Int)≠0 by omega)
   have z1:=Int.emod_lt_of_pos d (show (0:Int)<((k:Nat):Int) by omega)
   obtain ⟨c,hc,c0,c1⟩:=Hm z0 (by omega)
   refine ⟨_,rfl,_,rfl,_,rfl,_,_,rfl,rfl,(by show (0:Int)<((k:Nat):Int);omega),_,rfl,_,rfl,(by show 6<=sizeLine;omega),c,hc,_,rfl,_,rfl,(by show t.length+1<=sizeLine;omega),?_⟩
   refine ⟨_,rfl,_,rfl,_,_,rfl,rfl,⟨by omega,by omega⟩,?_⟩
   refine ⟨rfl,d/((k:Nat):Int),t++[c],some (.int (0+(i:Int))),by rw [List.length_append,ht];rfl,fun e he=>?_,rfl⟩
   rcases List.mem_append.mp he with g | g
   ·exact hab e g
   ·have e':e=c:=by simpa using g
    subst e'
    exact ⟨c0,c1⟩
  ·rintro σ H3 ⟨rfl,d,f0,v7,hf,hab,rfl⟩
   obtain ⟨ds,hds⟩:∃ ds:List Int,dJ (ns.map V.int) (some ((3:Nat):Int)) (some ((23:Nat):Int))=ds.map V.int:=Bp
   have hdl:ds.length<=20:=by
    have e:=congrArg List.length hds
    have e2:=uZ (xs:=ns.map V.int) (a:=3) (b:=23)
    rw [List.length_map] at e
    omega
   refine ⟨_,rfl,_,rfl,_,_,rfl,rfl,_,rfl,_,rfl,_,_,rfl,rfl,_,rfl,_,_,rfl,rfl,_,rfl,a,_,rfl,s2.seq hS,fun p4 hp4=>?_⟩
   rw [show dJ (ns.map V.int) (some ((0:Int)+3)) (some ((0:Int)+3+20))=ds.map V.int from hds]
   have s4:=s2.trans (aF (o:=.lst (ds.map V.int)) hp4)
   refine ⟨_,rfl,_,rfl,p4,ds,k,f0,rfl,SqL.of aC,⟨by omega,by omega,by omega⟩,hab,fun D ls H5 s5 hd hwl hl=>?_⟩
   have hn':f0.length+1=n:=by omega
   rw [hn'] at hwl
   have s05:=s4.trans s5
   refine ⟨fun m σ H6=>∃ (p:Addr) (ls':List (List Nat)),m=ls'.length∧aM H H6∧H6 p=some (.lst (ls'.map T))∧WL ls' n∧ls'.length<=20∧σ=[some (.ref a),some (.int 0),some (.int 20),some (.int (n:Nat)),some (.int (k:Nat)),some (.int d),some (T f0),v7,some (.ref p)],⟨ls.length,D,ls,rfl,s05,hd,hwl,by omega,rfl⟩,?_⟩
   rintro m σ H6 ⟨p,ls',hm,s6,hd6,hw6,hl6,rfl⟩
   have hml:(ls'.map T).length=ls'.length:=List.length_map ..
   have fin:∀ (D:Addr) (ls2:List (List Nat)) (H':Hp),aM H H'->H' D=some (.lst (ls2.map T))->WL ls2 n->ls2≠[]->ls2.length<=20->Q (.ref D) H':=fun D ls2 H' h1 h2 h3 h4 h5=>q D ls2 n H' h1 h2 h3 ⟨by omega,by omega⟩ h4 h5
   refine ⟨_,rfl,p,_,rfl,.inl (SqL.of hd6),_,_,rfl,rfl,_,rfl,?_⟩
   rw [hml]
   refine eP (fun h0=>?a) (fun h0=>?b)
   case' a =>
    have h0':0<ls'.length:=by have:=of_decide_eq_true h0;omega
    obtain ⟨t,ht⟩:∃ t,ls'[ls'.length-1]?=some t:=⟨_,List.getElem?_eq_getElem (by omega)⟩
    have htl:=(hw6.1 t (List.mem_of_getElem? ht)).1
    have hat:atI (ls'.map T) (-1)=some (T t):=by
     show (ixN (ls'.map T).length (-1)).bind _=_
     rw [hml]
     unfold ixN
     rw [if_neg (by decide),if_pos (by omega),show ((-1:Int)+ls'.length).toNat=ls'.length-1 by omega]
     show (ls'.map T)[ls'.length-1]?=_
     rw [List.getElem?_map,ht]
     rfl
    refine ⟨_,rfl,_,rfl,p,_,_,_,rfl,rfl,SqL.of hd6,hat,_,rfl,_,rfl,(by omega),_,rfl,_,rfl,_,rfl,_,rfl,?_⟩
    refine eP (fun h1=>?a1) (fun h1=>?a2)
   case a1 =>
    refine ⟨_,fun σ' H' z=>z,?_⟩
    refine ⟨_,rfl,_,rfl,_,rfl,p,_,rfl,SqL.of hd6,fun p7 hp7=>?_⟩
    rw [show dJ (ls'.map T) none (some (-(1:Int)))=(ls'.take (ls'.length-1)).map T from Dn]
    have htk:(ls'.take (ls'.length-1)).length=ls'.length-1:=by rw [List.length_take];omega
    exact ⟨ls'.length-1,by omega,p7,ls'.take (ls'.length-1),htk.symm,s6.trans (aF hp7),aC,hw6.sub (List.take_sublist _ _),by omega,rfl⟩
   all_goals
    refine ⟨_,rfl,p,_,rfl,.inl (SqL.of hd6),_,rfl,_,rfl,_,rfl,?_⟩
    rw [hml]
    refine eP (fun h2=>?_) (fun h2=>?_)
    ·refine ⟨_,rfl,_,rfl,n,rfl,⟨by omega,by show n*1<=sizeLine;omega⟩,(by show 1<=sizeLine;omega),fun p7 hp7=>?_⟩
     exact ⟨_,rfl,fin p7 [Wd.rep n [97]] _ (s6.trans (aF hp7)) aC (WL.one (Kc n)) (by simp) (by show 1<=20;decide)⟩
    ·exact ⟨_,rfl,fin p ls' H6 s6 hd6 hw6 (fun z=>h2 (decide_eq_true (by rw [z];rfl))) hl6⟩
def ext (ws:List (List Nat))(sg:List Nat):List (List Nat):=ws.flatMap fun w=>sg.map fun c=>w++[c]
theorem Fo (ws:List (List Nat))(w:List Nat)(sg:List Nat):ext (ws++[w]) sg=ext ws sg++sg.map fun c=>w++[c]:=by
 unfold ext
 rw [List.flatMap_append]
 simp
theorem vC (sg:List Nat):∀ ws:List (List Nat),(ext ws sg).length=ws.length*sg.length
 | []=>by simp [ext]
 | w::ws=>by
  have ih:=vC sg ws
  unfold ext at ih ⊢
  rw [List.flatMap_cons,List.length_append,ih,List.length_map,List.length_cons,Nat.succ_mul,Nat.add_comm]
theorem Ad {ws:List (List Nat)}{sg:List Nat}{x:List Nat}(h:x∈ext ws sg):∃ w∈ws,∃ c∈sg,x=w++[c]:=by
 obtain ⟨w,hw,hx⟩:=List.mem_flatMap.mp h
 obtain ⟨c,hc,e⟩:=List.mem_map.mp hx
 exact ⟨w,hw,c,hc,e.symm⟩
theorem sS {sg:List Nat}(hs:sg.Nodup):∀ {ws:List (List Nat)},ws.Nodup->(ext ws sg).Nodup
 | [],_=>List.nodup_nil
 | w::ws,h=>by
  rw [List.nodup_cons] at h
  have ih:=sS hs h.2
  show (ext (w::ws) sg).Nodup
  have e:ext (w::ws) sg=(sg.map fun c=>w++[c])++ext ws sg:=by unfold ext;rw [List.flatMap_cons]
  rw [e]
  refine List.nodup_append.mpr ⟨?_,ih,fun a ha b hb ee=>h.1 ?_⟩
  ·refine List.pairwise_map.mpr (hs.imp fun hne z=>hne ?_)
   have:=List.append_cancel_left z
   simpa using this
  ·obtain ⟨c,hc,e1⟩:=List.mem_map.mp ha
   obtain ⟨w',hw',c',hc',e2⟩:=Ad hb
   have z:w++[c]=w'++[c']:=e1.trans (ee.trans e2)
   have z2:=(List.append_inj' z rfl).1
   rw [z2]
   exact hw'
theorem WL.ext {ws:List (List Nat)}{sg:List Nat}{i:Nat}(h:WL ws i)(hs:sg.Nodup)(ha:∀ c∈sg,97<=c∧c<103):WL (ext ws sg) (i+1):=by
 refine ⟨fun x hx=>?_,sS hs h.2⟩
 obtain ⟨w,hw,c,hc,rfl⟩:=Ad hx
 obtain ⟨h1,h2⟩:=h.1 w hw
 refine ⟨by rw [List.length_append,h1];rfl,fun d hd=>?_⟩
 rcases List.mem_append.mp hd with g | g
 ·exact h2 d g
 ·have e:d=c:=by simpa using g
  subst e
  exact ha d hc
def zY:Sp:=fun vs H Q _=>∃ (k n:Nat),vs=[.int (k:Nat),.int (n:Nat)]∧(k<=6∧n<=4)∧∀ (D:Addr) (ls:List (List Nat)) (H':Hp),H D=none->aM H H'->H' D=some (.lst (ls.map T))->WL ls n->ls.length<=2000->Q (.ref D) H'
theorem rC {f:Addr}{fd:FuncData}(F:Fun K "_law_every" "_law_every" fY f fd)(tt:Txt K mg ad):cD P w K mg base (CX1 P w) 1 f fd ["kinds", "length"] zY:=by
 refine F.okN dQ (fun vs H Q E h=>?_) (fun cdv A outer s H vs Q E hr h=>?_)
 ·obtain ⟨k,n,rfl,_⟩:=h
  rfl
 ·obtain ⟨k,n,rfl,hb,q⟩:=h
  have hs:sizeLine=16777216:=sizeLine_eq
  obtain ⟨sg,hsg,hsgl,hsga,hsgn⟩:∃ sg:List Nat,fE [97,98,99,100,101,102] none (some ((k:Nat):Int))=sg∧sg.length<=6∧(∀ c∈sg,97<=c∧c<103)∧sg.Nodup :=
   ⟨_,iG _ _,by rw [List.length_take];exact Nat.min_le_right _ _,fun c hc=>wD hc,(show ([97,98,99,100,101,102]:List Nat).Nodup by decide).sublist (List.take_sublist _ _)⟩
  refine ⟨_,(aB (aI (i:=2) dQ.nd rfl (Or.inl rfl) (bK (aA (aS [] (by decide +kernel)) aD)))
   (aB (cC PassesOwn.never rfl (iB (by rfl) tt.b_range (aA (pv 1) aD)) (bJ (i:=3) dQ.nd rfl (Or.inl rfl)) (aB (aI (i:=4) dQ.nd rfl (Or.inl rfl) (bK aD))
   (aB (cC PassesOwn.never rfl (bW (pv 2)) (bJ (i:=5) dQ.nd rfl (Or.inr rfl)) (aG (dG (kB PySem.F.plainAttrs_list PySem.F.slot_list_extend PySem.F.type_list_extend kO (pv 4) (aA (dU nX rfl (jX (bD kU (aS [97,98,99,100,101,102] (by decide +kernel)) bN (bF (pv 0)))) (fun cl C s' H' fp=>(aL dO (pv 6) (pv 0)))) aD)))))
   (aG (aI (i:=2) dQ.nd rfl (Or.inl rfl) (pv 4))))))
   (aG (bA (pv 2))))),?_⟩
  (try rw [dI]);(try rw [cxK1])
  refine ⟨(by show 1<=sizeLine;omega),fun p0 hp0=>?_⟩
  refine ⟨_,rfl,_,rfl,by omega,by omega,?_⟩
  rw [Int.toNat_natCast]
  refine iC (fun i σ H2=>aM H H2∧∃ (p:Addr) (ls:List (List Nat)) (v3 v4 v5:Option V),H p=none∧H2 p=some (.lst (ls.map T))∧WL ls i∧ls.length<=6 ^ i∧σ=[some (.int (k:Nat)),some (.int (n:Nat)),some (.ref p),v3,v4,v5])
   ⟨aF hp0,p0,[[]],none,none,none,hp0,aC,⟨fun x hx=>by rw [List.mem_singleton.mp hx];exact ⟨rfl,fun c hc=>by simp at hc⟩,by simp⟩,(by decide),rfl⟩ ?_ ?_
  ·rintro i σ H2 hi ⟨s2,p,ls,v3,v4,v5,hpn,hd,hwl,hl,rfl⟩
   have hl3:ls.length<=216:=Nat.le_trans hl (Nat.pow_le_pow_right (by decide) (show i<=3 by omega))
   refine ⟨(by show 0<=sizeLine;omega),fun D hD=>?_⟩
   have s3:=aF (o:=.lst []) hD
   refine ⟨_,rfl,p,rfl,⟨_,SqL.of (s3 p _ hd)⟩,?_⟩
   refine cK (K:=K) (a:=p) (xs:=ls.map T) (fun j σ H3=>aM H2 H3∧∃ (v5:Option V),H3 D=some (.lst ((ext (ls.take j) sg).map T))∧σ=[some (.int (k:Nat)),some (.int (n:Nat)),some (.ref p),some (.int (0+(i:Int))),some (.ref D),v5])
    ⟨s3,v5,aC,rfl⟩ (fun j σ H3 _ h=>SqL.of (h.1 p _ hd)) ?_ ?_
   ·rintro j y σ H3 hj ⟨s4,v5,hd4,rfl⟩
    obtain ⟨wd,hwd,rfl⟩:∃ wd,ls[j]?=some wd∧y=T wd:=by
     rw [List.getElem?_map] at hj
     obtain ⟨x,h1,h2⟩:=Option.map_eq_some_iff.mp hj
     exact ⟨x,h1,h2.symm⟩
    have hwdl:=(hwl.1 wd (List.mem_of_getElem? hwd)).1
    refine ⟨_,rfl,.inl ⟨rfl,_,SqL.of hd4⟩,_,rfl,_,rfl,_,rfl,(by show 6<=sizeLine;omega),?_⟩
    rw [hsg]
    refine ⟨_,rfl,?_⟩
    refine jG (vs:=(sg.map fun c=>[c]).map T) (fun v=>T (wd++unT v)) gD (by rw [List.length_map,List.length_map];omega) (fun v H5 hv s5 N hN=>?_) fun D1 H5 hD1 s5 hd5=>?_
    ·obtain ⟨l,hl',rfl⟩:=List.mem_map.mp hv
     obtain ⟨ch,hch,rfl⟩:=List.mem_map.mp hl'
     have g:=hN H5 (aM.refl _)
     rw [eF] at g
     exact ⟨_,rfl,_,rfl,_,rfl,_,rfl,(by show wd.length+1<=sizeLine;omega),g⟩
    rw [gN (f:=fun l=>T (wd++l)),List.map_map] at hd5
    have e5:sg.map ((fun l=>T (wd++l))∘fun c=>[c])=(sg.map fun c=>wd++[c]).map T:=by rw [List.map_map];rfl
    rw [e5] at hd5
    have hjl:j<ls.length:=(List.getElem?_eq_some_iff.mp hwd).1
    have el:=vC sg (ls.take j)
    have htk:(ls.take j).length<=216:=by rw [List.length_take];omega
    have hm:(ls.take j).length*sg.length<=216*6:=Nat.mul_le_mul htk hsgl
    refine ⟨D,D1,_,_,rfl,rfl,s5 D _ hd4,hd5,(by rw [List.length_map,List.length_map,List.length_map,el];omega),?_⟩
    refine ⟨(fun b o e=>by rw [aH (aK e hD)];exact (s4.trans s5) b o e),some (T wd),?_,rfl⟩
    rw [List.take_add_one,hwd,show (some wd).toList=[wd] from rfl,Fo,List.map_append]
    exact aC
   ·rintro σ H3 ⟨s4,v5',hd4,rfl⟩
    rw [List.length_map,List.take_length] at hd4
    refine ⟨_,rfl,?_⟩
    have hDn:H D=none:=by
     cases e:H D with
     | none=>rfl
     | some o=>exact absurd ((s2 D o e).symm.trans hD) (fun z=>nomatch z)
    refine ⟨s2.trans s4,D,ext ls sg,some (.int (0+(i:Int))),some (.ref D),v5',hDn,hd4,hwl.ext hsgn hsga,?_,rfl⟩
    rw [vC,Nat.pow_succ]
    exact Nat.mul_le_mul hl hsgl
  ·rintro σ H2 ⟨s2,p,ls,v3,v4,v5,hpn,hd,hwl,hl,rfl⟩
   have hl4:ls.length<=1296:=Nat.le_trans hl (Nat.pow_le_pow_right (by decide) (show n<=4 by omega))
   exact ⟨_,rfl,q p ls H2 hpn s2 hd hwl (by omega)⟩
def zL:Sp:=fun vs H Q _=>∃ (cell:Int),vs=[.int cell,.int 20]∧∀ (D:Addr) (ls:List (List Nat)) (n:Nat) (H':Hp),aM H H'->H' D=some (.lst (ls.map T))->WL ls n->(1<=n∧n<=5)->ls≠[]->ls.length<=20->Q (.ref D) H'
theorem kR {f:Addr}{fd:FuncData}(F:Fun K "_law_digit_words" "_law_digit_words" eI f fd)(tt:Txt K mg ad)(C__law_every:Cal P w K mg base (CX1 P w) "_law_every" 1 ["kinds", "length"] zY):cD P w K mg base (CX1 P w) 2 f fd ["cell", "most"] zL:=by
 refine F.okN bI (fun vs H Q E h=>?_) (fun cdv A outer s H vs Q E hr h=>?_)
 ·obtain ⟨cell,rfl,_⟩:=h
  rfl
 ·obtain ⟨cell,rfl,q⟩:=h
  have hs:sizeLine=16777216:=sizeLine_eq
  obtain ⟨m,hm,hm9⟩:∃ m:Nat,cell % 9=(m:Int)∧m<9:=⟨(cell % 9).toNat,by omega,by omega⟩
  obtain ⟨k,n,hpr,hk,hn⟩:∃ k n:Nat,([(2,2),(2,3),(2,4),(3,2),(3,3),(4,2),(6,1),(6,2),(5,2)]:List (Int×Int))[m]?=some (((k:Nat):Int),((n:Nat):Int))∧(1<=k∧k<=6)∧(1<=n∧n<=4):=by
   match m,hm9 with
   | 0,_=>exact ⟨2,2,rfl,by decide,by decide⟩
   | 1,_=>exact ⟨2,3,rfl,by decide,by decide⟩
   | 2,_=>exact ⟨2,4,rfl,by decide,by decide⟩
   | 3,_=>exact ⟨3,2,rfl,by decide,by decide⟩
   | 4,_=>exact ⟨3,3,rfl,by decide,by decide⟩
   | 5,_=>exact ⟨4,2,rfl,by decide,by decide⟩
   | 6,_=>exact ⟨6,1,rfl,by decide,by decide⟩
   | 7,_=>exact ⟨6,2,rfl,by decide,by decide⟩
   | 8,_=>exact ⟨5,2,rfl,by decide,by decide⟩
  refine ⟨_,(aB (aI (i:=2) bI.nd rfl (Or.inl rfl) (bK (vP [((_,_,_),(_,_,_),_,_),((_,_,_),(_,_,_),_,_),((_,_,_),(_,_,_),_,_),((_,_,_),(_,_,_),_,_),((_,_,_),(_,_,_),_,_),((_,_,_),(_,_,_),_,_),((_,_,_),(_,_,_),_,_),((_,_,_),(_,_,_),_,_),((_,_,_),(_,_,_),_,_)])))
   (aB (Lg (cO cH (pv 2) (aL bY (pv 0) aE) (fun _ _=>rfl)) (yR rfl (gZ (bJ (i:=3) bI.nd rfl (Or.inl rfl)) (gZ (bJ (i:=4) bI.nd rfl (Or.inl rfl)) uA))))
   (aB (aI (i:=5) bI.nd rfl (Or.inl rfl) (aL gQ (pv 0) aE))
   (aB (aI (i:=6) bI.nd rfl (Or.inl rfl) (bK aD))
   (aB (cC PassesOwn.never rfl (bW (aO C__law_every hr aZ (vR (pv 3) (vR (pv 4) aD)))) (bJ (i:=7) bI.nd rfl (Or.inl rfl)) (aB (bT (PW.pt (uW (aN cG (aL bY (pv 5) aE) aE (aP _)) (oR (aN qB (aQ aV (by rfl) tt.b_len PySem.boot_len (vR (pv 6) aD)) (pv 1) (aP _))))) (aG (dG (kB PySem.F.plainAttrs_list PySem.F.slot_list_append PySem.F.type_list_append eM (pv 6) (vR (pv 7) aD)))) aW)
   (aG (aI (i:=5) bI.nd rfl (Or.inl rfl) (aL gQ (pv 5) aE)))))
   (aB (bT (aN cG (aQ aV (by rfl) tt.b_len PySem.boot_len (vR (pv 6) aD)) aE (aP _)) (aG (aI (i:=6) bI.nd rfl (Or.inl rfl) (bK (Om (aL wC (aS [97] (by decide +kernel)) (pv 4)) aD)))) aW)
   (aG (bA (pv 6))))))))),?_⟩
  (try rw [dI]);(try rw [cxK1])
  refine tF _ fun vs9 G9 hvl sG9 hv=>?_
  refine ⟨(by rw [hvl];show 9<=sizeLine;omega),fun ps hps=>?_⟩
  obtain ⟨tp,htp,hT⟩:=hv m _ hpr
  have s1:=sG9.trans (aF (o:=.lst vs9) hps)
  have hTp:=aF (o:=.lst vs9) hps tp _ hT
  obtain ⟨H1,hH1,s1,hd1⟩:=uC s1
  rw [<- hH1] at hTp ⊢
  refine ⟨_,rfl,_,rfl,_,_,rfl,rfl,(by show (0:Int)<9;decide),ps,_,_,_,rfl,rfl,SqL.of hd1,(by rw [hm];exact bS htp),tp,_,rfl,SqT.of hTp,rfl,_,_,rfl,_,_,rfl,rfl,?_⟩
  refine ⟨_,rfl,_,_,rfl,rfl,⟨by decide,by decide⟩,?_⟩
  refine ⟨(by show 0<=sizeLine;omega),fun D hD=>?_⟩
  have s2:=s1.trans (aF (o:=.lst []) hD)
  refine ⟨_,rfl,_,rfl,k,n,rfl,⟨by omega,by omega⟩,fun De es He hDe se hde hwe hel=>⟨De,rfl,⟨_,SqL.of hde⟩,?_⟩⟩
  have hDD:De≠D:=fun z=>by rw [z] at hDe;exact absurd (aC.symm.trans hDe) (fun z=>nomatch z)
  have hD0:He D=some (.lst []):=se D _ aC
  have hHn:H D=none:=by
   cases e:H D with
   | none=>rfl
   | some o=>exact absurd ((s1 D o e).symm.trans hD) (fun z=>nomatch z)
  refine cK (K:=K) (a:=De) (xs:=es.map T) (fun i σ H3=>aM H H3∧H3 De=some (.lst (es.map T))∧∃ (ls:List (List Nat)) (pt:Int) (v7:Option V),H3 D=some (.lst (ls.map T))∧ls.Sublist (es.take i)∧ls.length<=20∧σ=[some (.int cell),some (.int 20),some (.ref ps),some (.int (k:Nat)),some (.int (n:Nat)),some (.int pt),some (.ref D),v7])
   ⟨s2.trans se,hde,[],cell/9,none,hD0,List.nil_sublist _,by decide,rfl⟩ (fun i σ H3 _ h=>SqL.of h.2.1) ?_ ?_
  ·rintro i y σ H3 hi ⟨s3,hd3,ls,pt,v7,hdl,hsub,hl,rfl⟩
   obtain ⟨wd,hwd,rfl⟩:∃ wd,es[i]?=some wd∧y=T wd:=by
    rw [List.getElem?_map] at hi
    obtain ⟨x,h1,h2⟩:=Option.map_eq_some_iff.mp hi
    exact ⟨x,h1,h2.symm⟩
   have hml:(ls.map T).length=ls.length:=List.length_map ..
   have etk:es.take (i+1)=es.take i++[wd]:=by rw [List.take_add_one,hwd];rfl
   refine ⟨_,rfl,_,_,rfl,rfl,(by show (0:Int)<2;decide),_,rfl,_,rfl,_,rfl,?_⟩
   refine eP (fun h0=>?_) (fun h0=>?_)
   ·refine ⟨_,rfl,D,_,rfl,.inl (SqL.of hdl),_,rfl,_,_,rfl,rfl,_,rfl,?_⟩
    rw [hml]
    refine eP (fun h1=>?_) (fun h1=>?_)
    ·have h40:ls.length<20:=by have:=of_decide_eq_true h1;omega
     refine ⟨_,rfl,.inl ⟨rfl,_,SqL.of hdl⟩,_,rfl,D,_,_,rfl,rfl,hdl,(by rw [hml];omega),?_⟩
     refine ⟨_,rfl,_,_,rfl,rfl,⟨by decide,by decide⟩,?_⟩
     refine ⟨(fun b o e=>by rw [aH (aK e hHn)];exact s3 b o e),by rw [aH hDD];exact hd3,ls++[wd],pt/2,some (T wd),by rw [List.map_append];exact aC,?_,by rw [List.length_append,List.length_singleton];omega,rfl⟩
     rw [etk]
     exact hsub.append (List.Sublist.refl _)
    ·refine ⟨_,rfl,_,_,rfl,rfl,⟨by decide,by decide⟩,?_⟩
     exact ⟨s3,hd3,ls,pt/2,some (T wd),hdl,by rw [etk];exact hsub.trans (List.sublist_append_left _ _),hl,rfl⟩
   ·refine ⟨_,rfl,_,_,rfl,rfl,⟨by decide,by decide⟩,?_⟩
    exact ⟨s3,hd3,ls,pt/2,some (T wd),hdl,by rw [etk];exact hsub.trans (List.sublist_append_left _ _),hl,rfl⟩
  ·rintro σ H3 ⟨s3,hd3,ls,pt,v7,hdl,hsub,hl,rfl⟩
   rw [List.length_map,List.take_length] at hsub
   have hml:(ls.map T).length=ls.length:=List.length_map ..
   refine ⟨_,rfl,D,_,rfl,.inl (SqL.of hdl),_,rfl,_,rfl,_,rfl,?_⟩
   rw [hml]
   refine eP (fun h2=>?_) (fun h2=>?_)
   ·refine ⟨_,rfl,_,rfl,n,rfl,⟨by omega,by show n*1<=sizeLine;omega⟩,(by show 1<=sizeLine;omega),fun p7 hp7=>?_⟩
    exact ⟨_,rfl,q p7 [Wd.rep n [97]] n _ (s3.trans (aF hp7)) aC (WL.one (Kc n)) ⟨by omega,by omega⟩ (by simp) (by show 1<=20;decide)⟩
   ·exact ⟨_,rfl,q D ls n H3 s3 hdl (hwe.sub hsub) ⟨by omega,by omega⟩ (fun z=>h2 (decide_eq_true (by rw [z];rfl))) hl⟩
theorem Ix (d:Int){n:Nat}(h:0<n):∃ m:Nat,d % ((n:Nat):Int)=(m:Int)∧m<n:=by
 have z0:=Int.emod_nonneg d (show ((n:Nat):Int)≠0 by omega)
 have z1:=Int.emod_lt_of_pos d (show (0:Int)<((n:Nat):Int) by omega)
 exact ⟨(d % ((n:Nat):Int)).toNat,by omega,by omega⟩
theorem oM {α:Type}(l:List α)(m:Nat):(l.take m++l.drop (m+1)).Sublist l:=by
 have h:(l.take m++l.drop (m+1)).Sublist (l.take m++l.drop m):=(List.Sublist.refl _).append (by rw [<- List.drop_drop];exact List.drop_sublist _ _)
 rwa [List.take_append_drop] at h
theorem hJ {ls:List (List Nat)}{k:Nat}(h:k<=ls.length):dJ (ls.map T) (some (k:Int)) none=(ls.drop k).map T:=by
 unfold dJ
 rw [HT.dB,HT.eC,List.length_map,Nat.min_eq_left h,<- List.map_drop,<- List.map_take,List.take_of_length_le (by rw [List.length_drop];omega)]
theorem oS {ls:List (List Nat)}{k:Nat}(h:k<=ls.length):dJ (ls.map T) none (some (k:Int))=(ls.take k).map T:=by
 unfold dJ
 rw [HT.dB,HT.eC,List.length_map,Nat.min_eq_left h,List.drop_zero,Nat.sub_zero,List.map_take]
def As (K:PySem.W.Frag):Sp:=fun vs H Q _=>∃ (a:Addr) (ns:List Int),vs=[.ref a,.int 0,.int 20]∧SqL K H a (ns.map V.int)∧∀ (D:Addr) (ls:List (List Nat)) (n:Nat) (H':Hp),aM H H'->H' D=some (.lst (ls.map T))->WL ls n->(1<=n∧n<=5)->ls≠[]->ls.length<=23->Q (.ref D) H'
theorem lJ {f:Addr}{fd:FuncData}(F:Fun K "_law_some_words" "_law_some_words" eY f fd)(tt:Txt K mg ad)(C__law_cell_at:Cal P w K mg base (CX1 P w) "_law_cell_at" 1 ["script", "k"] (uK K))(C__law_ring_words:Cal P w K mg base (CX1 P w) "_law_ring_words" 2 ["script", "at", "most"] (wA K))
  (C__law_digit_words:Cal P w K mg base (CX1 P w) "_law_digit_words" 2 ["cell", "most"] zL):cD P w K mg base (CX1 P w) 3 f fd ["script", "at", "most"] (As K):=by
 refine F.okN aU (fun vs H Q E h=>?_) (fun cdv A outer s H vs Q E hr h=>?_)
 ·obtain ⟨a,ns,rfl,_⟩:=h
  rfl
 ·obtain ⟨a,ns,rfl,hS,q⟩:=h
  have hs:sizeLine=16777216:=sizeLine_eq
  refine ⟨_,(aB (aI (i:=3) aU.nd rfl (Or.inl rfl) (aO C__law_ring_words hr aZ (aA (pv 0) (aA (pv 1) (aA (pv 2) aD)))))
   (aB (aI (i:=4) aU.nd rfl (Or.inl rfl) (aL bY (aL gQ (aO C__law_cell_at hr aZ (aA (pv 0) (aA (pv 1) aD))) aE) aE))
   (aB (bT (aN cG (pv 4) aE (aP _)) (aG (bA (aO C__law_digit_words hr aZ (aA (aO C__law_cell_at hr aZ (aA (pv 0) (aA (aL cQ (pv 1) aE) aD))) (aA (pv 2) aD))))) aW)
   (aB (aI (i:=5) aU.nd rfl (Or.inl rfl) (aL gQ (aO C__law_cell_at hr aZ (aA (pv 0) (aA (aL cQ (pv 1) aE) aD))) aE))
   (aB (bT (PW.pt (uW (aN cG (pv 4) aE (aP _)) (oR (aN jI (aQ aV (by rfl) tt.b_len PySem.boot_len (aA (pv 3) aD)) aE (aP _))))) (aG (aI (i:=3) aU.nd rfl (Or.inl rfl) (bD dF (pv 3) (bF aE) bN))) aW)
   (aB (bT (aN cG (pv 4) aE (aP _)) (aB (aI (i:=5) aU.nd rfl (Or.inl rfl) (aL bY (pv 5) (aL Er aE aE)))
   (aG (cC PassesOwn.never rfl (iB (by rfl) tt.b_range (aA (aL cQ aE (aL bY (pv 5) aE)) aD)) (bJ (i:=6) aU.nd rfl (Or.inl rfl)) (aB (aI (i:=7) aU.nd rfl (Or.inl rfl) (aS [] (by decide +kernel)))
   (aB (cC PassesOwn.never rfl (iB (by rfl) tt.b_range (aA (aQ eA (by rfl) tt.b_len PySem.boot_len (aA (cO cH (pv 3) aE (fun _ _=>rfl)) aD)) aD)) (bJ (i:=8) aU.nd rfl (Or.inl rfl)) (aB (aI (i:=9) aU.nd rfl (Or.inl rfl) (aL gQ (aL cQ (pv 5) (aL qD (pv 6) (pv 6))) (aL cQ (aL cQ (aL cQ (aL qD (aL qD aE (pv 8)) (pv 8)) (aL qD aE (pv 8))) (aL qD aE (pv 6))) aE)))
   (aG (aI (i:=7) aU.nd rfl (Or.inl rfl) (aL dO (pv 7) (cO tO (aS [97,98,99,100,101,102] (by decide +kernel)) (aL bY (pv 9) aE) (fun _ _=>rfl)))))))
   (aG (bT (aN iQ (pv 7) (pv 3) (by with_unfolding_all rfl)) (aG (aI (i:=3) aU.nd rfl (Or.inl rfl) (aL eV (pv 3) (bK (aA (pv 7) aD))))) aW))))))) aW)
   (aB (bT (PW.pt (uW (aN cG (pv 4) aE (aP _)) (oR (aN jI (aQ aV (by rfl) tt.b_len PySem.boot_len (aA (pv 3) aD)) aE (aP _))))) (aB (aI (i:=3) aU.nd rfl (Or.inl rfl) (aL eV (bD dF (pv 3) bN (bF (aL bY (pv 5) (aQ aV (by rfl) tt.b_len PySem.boot_len (aA (pv 3) aD))))) (bD dF (pv 3) (bF (aL cQ (aL bY (pv 5) (aQ aV (by rfl) tt.b_len PySem.boot_len (aA (pv 3) aD))) aE)) bN)))
   (aG (aI (i:=3) aU.nd rfl (Or.inl rfl) (aL eV (bD dF (pv 3) bN (bF (aL bY (aL gQ (pv 5) aE) (aQ aV (by rfl) tt.b_len PySem.boot_len (aA (pv 3) aD))))) (bD dF (pv 3) (bF (aL cQ (aL bY (aL gQ (pv 5) aE) (aQ aV (by rfl) tt.b_len PySem.boot_len (aA (pv 3) aD))) aE)) bN))))) aW)
   (aG (bA (pv 3)))))))))),?_⟩
  (try rw [dI]);(try rw [cxK1])
  refine ⟨_,rfl,_,rfl,_,rfl,a,ns,rfl,hS,fun p ls n H1 s1 hd hwl hn hne hl=>?_⟩
  refine ⟨_,rfl,_,rfl,a,ns,0,rfl,s1.seq hS,_,_,rfl,rfl,⟨by decide,by decide⟩,_,_,rfl,rfl,(by show (0:Int)<5;decide),?_⟩
  dsimp only
  generalize ns.getD 0 0/7 % 5=wy
  refine ⟨_,rfl,_,rfl,_,rfl,_,rfl,?_⟩
  refine eP (fun h4=>?_) (fun h4=>?_)
  ·exact ⟨_,rfl,_,rfl,_,_,rfl,rfl,a,ns,1,rfl,s1.seq hS,_,rfl,_,rfl,fun D ls2 n2 H2 s2 hd2 hw2 hn2 hne2 hl2=>q D ls2 n2 H2 (s1.trans s2) hd2 hw2 hn2 hne2 (by omega)⟩
  refine ⟨_,rfl,_,rfl,_,_,rfl,rfl,a,ns,1,rfl,s1.seq hS,_,_,rfl,rfl,⟨by decide,by decide⟩,?_⟩
  dsimp only
  generalize ns.getD 1 0/8=dr
  refine ⟨_,rfl,_,rfl,_,rfl,_,rfl,?_⟩
  refine eP (fun h1=>?a) (fun h1=>?b)
  case' a =>
   refine ⟨_,rfl,p,_,rfl,.inl (SqL.of hd),_,_,rfl,rfl,_,rfl,?_⟩
   rw [List.length_map]
   refine eP (fun h2=>?a1) (fun h2=>?a2)
  case' a1 =>
   have h2':1<ls.length:=by have:=of_decide_eq_true h2;omega
   refine ⟨_,rfl,_,rfl,p,_,rfl,SqL.of hd,fun p3 hp3=>?_⟩
   rw [show dJ (ls.map T) (some 1) none=(ls.drop 1).map T from hJ (k:=1) (by omega)]
   obtain ⟨H3,hH3,s3,hd3⟩:=uC (s1.trans (aF (o:=.lst ((ls.drop 1).map T)) hp3))
   rw [<- hH3]
   obtain ⟨ls3,hd3,hw3,hne3,hl3⟩:∃ ls3:List (List Nat),H3 p3=some (.lst (ls3.map T))∧WL ls3 n∧ls3≠[]∧ls3.length<=20:=⟨ls.drop 1,hd3,hwl.sub (List.drop_sublist _ _),(fun z=>by have:=congrArg List.length z;rw [List.length_drop] at this;simp at this;omega),by rw [List.length_drop];omega⟩
  case' a2 =>
   obtain ⟨H3,hH3,s3⟩:=Fp s1
   rw [<- hH3]
   obtain ⟨p3,hp3,ls3,hd3,hw3,hne3,hl3⟩:∃ p3,p3=p∧∃ ls3:List (List Nat),H3 p3=some (.lst (ls3.map T))∧WL ls3 n∧ls3≠[]∧ls3.length<=20:=⟨p,rfl,ls,by rw [hH3];exact hd,hwl,hne,hl⟩
   rw [<- hp3]
  case' b =>
   obtain ⟨H3,hH3,s3⟩:=Fp s1
   rw [<- hH3]
   obtain ⟨p3,hp3,ls3,hd3,hw3,hne3,hl3⟩:∃ p3,p3=p∧∃ ls3:List (List Nat),H3 p3=some (.lst (ls3.map T))∧WL ls3 n∧ls3≠[]∧ls3.length<=20:=⟨p,rfl,ls,by rw [hH3];exact hd,hwl,hne,hl⟩
   rw [<- hp3]
  all_goals
   refine ⟨_,rfl,_,rfl,_,rfl,_,rfl,?_⟩
   refine eP (fun h5=>?_) (fun h5=>?_)
   rotate_left
   ·have h40:=hl3
    refine ⟨_,rfl,_,rfl,_,rfl,_,rfl,?_⟩
    refine eP (fun h7=>?_) (fun h7=>?_)
    ·refine ⟨_,rfl,p3,_,rfl,.inl (SqL.of hd3),_,_,rfl,rfl,_,rfl,?_⟩
     rw [List.length_map]
     refine eP (fun h8=>?_) (fun h8=>?_)
     ·have h2:2<ls3.length:=by have:=of_decide_eq_true h8;omega
      obtain ⟨m,hm,hml⟩:=Ix (dr) (show 0<(ls3.map T).length by rw [List.length_map];omega)
      rw [List.length_map] at hml
      have c1:dJ (ls3.map T) none (some (dr % (((ls3.map T).length:Nat):Int)))=(ls3.take m).map T:=by rw [hm];exact oS (by omega)
      have c2:dJ (ls3.map T) (some (dr % (((ls3.map T).length:Nat):Int)+1)) none=(ls3.drop (m+1)).map T:=by rw [hm];exact hJ (k:=m+1) (by omega)
      refine ⟨_,rfl,_,rfl,_,rfl,p3,_,rfl,.inl (SqL.of hd3),_,_,rfl,rfl,(by show (0:Int)<(((ls3.map T).length:Nat):Int);rw [List.length_map];omega),_,rfl,p3,_,rfl,SqL.of hd3,fun q1 hq1=>?_⟩
      rw [c1]
      have t1:=aF (o:=.lst ((ls3.take m).map T)) hq1
      refine ⟨_,rfl,_,rfl,_,rfl,p3,_,rfl,.inl (SqL.of (t1 p3 _ hd3)),_,_,rfl,rfl,(by show (0:Int)<(((ls3.map T).length:Nat):Int);rw [List.length_map];omega),_,_,rfl,rfl,_,rfl,p3,_,rfl,SqL.of (t1 p3 _ hd3),fun q2 hq2=>?_⟩
      rw [c2]
      have t2:=aF (o:=.lst ((ls3.drop (m+1)).map T)) hq2
      refine ⟨q1,q2,_,_,rfl,rfl,SqL.of (t2 q1 _ aC),SqL.of aC,(by rw [List.length_map,List.length_map,List.length_take,List.length_drop];omega),fun q3 hq3=>?_⟩
      have t3:=t1.trans (t2.trans (aF (o:=.lst ((ls3.take m).map T++(ls3.drop (m+1)).map T)) hq3))
      obtain ⟨H8,hH8,t3,hd8⟩:=uC t3
      rw [<- hH8]
      obtain ⟨ms,hms,hsub,hmsl⟩:∃ ms:List (List Nat),(ls3.take m).map T++(ls3.drop (m+1)).map T=ms.map T∧ms.Sublist ls3∧ms.length=ls3.length-1:=⟨ls3.take m++ls3.drop (m+1),by rw [List.map_append],oM _ _,by rw [List.length_append,List.length_take,List.length_drop];omega⟩
      rw [hms] at hd8
      obtain ⟨m',hm',hml'⟩:=Ix (dr/7) (show 0<(ms.map T).length by rw [List.length_map];omega)
      rw [List.length_map] at hml'
      have c3:dJ (ms.map T) none (some (dr/7 % (((ms.map T).length:Nat):Int)))=(ms.take m').map T:=by rw [hm'];exact oS (by omega)
      have c4:dJ (ms.map T) (some (dr/7 % (((ms.map T).length:Nat):Int)+1)) none=(ms.drop (m'+1)).map T:=by rw [hm'];exact hJ (k:=m'+1) (by omega)
      refine ⟨_,rfl,_,rfl,_,_,rfl,rfl,⟨by decide,by decide⟩,_,rfl,q3,_,rfl,.inl (SqL.of hd8),_,_,rfl,rfl,(by show (0:Int)<(((ms.map T).length:Nat):Int);rw [List.length_map];omega),_,rfl,q3,_,rfl,SqL.of hd8,fun q4 hq4=>?_⟩
      rw [c3]
      have t4:=aF (o:=.lst ((ms.take m').map T)) hq4
      refine ⟨_,rfl,_,rfl,_,_,rfl,rfl,⟨by decide,by decide⟩,_,rfl,q3,_,rfl,.inl (SqL.of (t4 q3 _ hd8)),_,_,rfl,rfl,(by show (0:Int)<(((ms.map T).length:Nat):Int);rw [List.length_map];omega),_,_,rfl,rfl,_,rfl,q3,_,rfl,SqL.of (t4 q3 _ hd8),fun q5 hq5=>?_⟩
      rw [c4]
      have t5:=aF (o:=.lst ((ms.drop (m'+1)).map T)) hq5
      refine ⟨q4,q5,_,_,rfl,rfl,SqL.of (t5 q4 _ aC),SqL.of aC,(by rw [List.length_map,List.length_map,List.length_take,List.length_drop];omega),fun q6 hq6=>?_⟩
      have t6:=t4.trans (t5.trans (aF (o:=.lst ((ms.take m').map T++(ms.drop (m'+1)).map T)) hq6))
      have hl9:(ms.take m'++ms.drop (m'+1)).length=ms.length-1:=by rw [List.length_append,List.length_take,List.length_drop];omega
      exact ⟨_,rfl,q q6 (ms.take m'++ms.drop (m'+1)) n _ ((s3).trans (t3.trans t6)) (by rw [List.map_append];exact aC) ((hw3).sub ((oM _ _).trans hsub)) hn (fun z=>by rw [z] at hl9;simp at hl9;omega) (by omega)⟩
     ·exact ⟨_,rfl,q p3 ls3 n _ s3 hd3 hw3 hn hne3 (by omega)⟩
    ·exact ⟨_,rfl,q p3 ls3 n _ s3 hd3 hw3 hn hne3 (by omega)⟩
   refine ⟨_,rfl,_,_,rfl,rfl,⟨by decide,by decide,by decide⟩,_,_,rfl,rfl,(by show (0:Int)<10 ^ 9;decide),?_⟩
   dsimp only
   generalize dr % 10 ^ Int.toNat 9=d2
   refine ⟨_,rfl,_,_,rfl,rfl,(by show (0:Int)<3;decide),_,_,rfl,rfl,_,rfl,by omega,by omega,?_⟩
   obtain ⟨N,hN,hN3⟩:∃ N:Nat,1+d2 % 3=(N:Int)∧N<=3:=⟨(1+d2 % 3).toNat,by omega,by omega⟩
   rw [hN,Int.toNat_natCast]
   refine iC (fun i σ Hk=>aM H Hk∧∃ (pk:Addr) (lk:List (List Nat)) (v6 v7 v8 v9:Option V),Hk pk=some (.lst (lk.map T))∧WL lk n∧lk≠[]∧lk.length<=20+i∧σ=[some (.ref a),some (.int 0),some (.int 20),some (.ref pk),some (.int wy),some (.int d2),v6,v7,v8,v9])
    ⟨s3,p3,ls3,none,none,none,none,hd3,hw3,hne3,by omega,rfl⟩ ?_ ?_
   ·rintro i σ Hk hi ⟨sk,pk,lk,v6,v7,v8,v9,hdk,hwk,hnek,hlk,rfl⟩
    obtain ⟨m0,hm0⟩:∃ m0,lk[0]?=some m0:=⟨_,List.getElem?_eq_getElem (List.length_pos_iff.mpr hnek)⟩
    have hm0l:=(hwk.1 m0 (List.mem_of_getElem? hm0)).1
    refine ⟨_,rfl,pk,_,_,_,rfl,rfl,SqL.of hdk,bS (j:=0) (by rw [List.getElem?_map,hm0];rfl),_,rfl,(by omega),_,rfl,by omega,by omega,?_⟩
    rw [hm0l,Int.toNat_natCast]
    refine iC (fun j σ Hj=>Hk=Hj∧∃ (t:List Nat) (v8 v9:Option V),t.length=j∧Abc t∧σ=[some (.ref a),some (.int 0),some (.int 20),some (.ref pk),some (.int wy),some (.int d2),some (.int (0+(i:Int))),some (T t),v8,v9])
     ⟨rfl,[],v8,v9,rfl,(fun c hc=>by simp at hc),rfl⟩ ?_ ?_
    ·rintro j σ Hj hj ⟨rfl,t,v8,v9,ht,hab,rfl⟩
     obtain ⟨sq,hsq,sq0,sq1⟩:∃ sq:Int,3*(0+(j:Int))*(0+(j:Int))=sq∧0<=sq∧sq<=75:=by
      rcases (show j=0∨j=1∨j=2∨j=3∨j=4 by omega) with rfl | rfl | rfl | rfl | rfl <;> exact ⟨_,rfl,by decide,by decide⟩
     refine ⟨_,rfl,_,rfl,_,rfl,_,_,rfl,rfl,.inl ⟨by omega,by omega⟩,_,_,rfl,rfl,_,rfl,_,_,rfl,rfl,.inl ⟨by decide,by decide⟩,_,rfl,_,_,rfl,rfl,.inl ⟨by omega,by omega⟩,_,rfl,_,_,rfl,rfl,.inl ⟨by decide,by decide⟩,_,_,rfl,rfl,_,rfl,_,_,rfl,rfl,.inl ⟨by decide,by decide⟩,_,_,rfl,rfl,_,_,rfl,rfl,_,_,rfl,rfl,
      ⟨(by show (0:Int)<3*(0+(j:Int))*(0+(j:Int))+5*(0+(j:Int))+7*(0+(i:Int))+1;rw [hsq];omega),(by show 3*(0+(j:Int))*(0+(j:Int))+5*(0+(j:Int))+7*(0+(i:Int))+1<(1073741824:Int);rw [hsq];omega)⟩,?_⟩
     dsimp only
     generalize (d2+(0+(i:Int))*(0+(i:Int)))/(3*(0+(j:Int))*(0+(j:Int))+5*(0+(j:Int))+7*(0+(i:Int))+1)=pt
     obtain ⟨c,hc,c0,c1⟩:=Hm (Int.emod_nonneg pt (show (6:Int)≠0 by decide)) (Int.emod_lt_of_pos pt (show (0:Int)<6 by decide))
     refine ⟨_,rfl,_,rfl,_,_,rfl,rfl,(by show (0:Int)<6;decide),_,rfl,_,rfl,(by show 6<=sizeLine;omega),c,hc,_,rfl,_,rfl,(by show t.length+1<=sizeLine;omega),?_⟩
     refine ⟨rfl,t++[c],some (.int (0+(j:Int))),some (.int pt),by rw [List.length_append,ht];rfl,fun e he=>?_,rfl⟩
     rcases List.mem_append.mp he with g | g
     ·exact hab e g
     ·have e':e=c:=by simpa using g
      subst e'
      exact ⟨c0,c1⟩
    ·rintro σ Hj ⟨rfl,t,v8,v9,ht,hab,rfl⟩
     refine ⟨_,rfl,_,rfl,pk,_,rfl,.inl (SqL.of hdk),rfl,hX lk,_,rfl,?_⟩
     refine eP (fun h0=>?_) (fun h0=>?_)
     ·have hni:¬ t∈lk:=fun z=>by
       have h1:(!inV (T t) (lk.map T))=true:=h0
       rw [sO,decide_eq_true z] at h1
       cases h1
      refine ⟨_,rfl,_,rfl,(by show 1<=sizeLine;omega),fun q1 hq1=>?_⟩
      have t1:=aF (o:=.lst [T t]) hq1
      refine ⟨pk,q1,_,_,rfl,rfl,SqL.of (t1 pk _ hdk),SqL.of aC,(by rw [List.length_map];show _+1<=sizeLine;omega),fun q2 hq2=>?_⟩
      exact ⟨sk.trans (t1.trans (aF hq2)),q2,lk++[t],some (.int (0+(i:Int))),some (T t),v8,v9,by rw [List.map_append];exact aC,hwk.snoc ⟨ht,hab⟩ hni,by simp,by rw [List.length_append,List.length_singleton];omega,rfl⟩
     ·exact ⟨sk,pk,lk,some (.int (0+(i:Int))),some (T t),v8,v9,hdk,hwk,hnek,by omega,rfl⟩
   ·rintro σ Hk ⟨sk,pk,lk,v6,v7,v8,v9,hdk,hwk,hnek,hlk,rfl⟩
    refine ⟨_,rfl,_,rfl,_,rfl,_,rfl,?_⟩
    refine eP (fun h7=>?_) (fun h7=>?_)
    ·refine ⟨_,rfl,pk,_,rfl,.inl (SqL.of hdk),_,_,rfl,rfl,_,rfl,?_⟩
     rw [List.length_map]
     refine eP (fun h8=>?_) (fun h8=>?_)
     ·have h2:2<lk.length:=by have:=of_decide_eq_true h8;omega
      obtain ⟨m,hm,hml⟩:=Ix (d2) (show 0<(lk.map T).length by rw [List.length_map];omega)
      rw [List.length_map] at hml
      have c1:dJ (lk.map T) none (some (d2 % (((lk.map T).length:Nat):Int)))=(lk.take m).map T:=by rw [hm];exact oS (by omega)
      have c2:dJ (lk.map T) (some (d2 % (((lk.map T).length:Nat):Int)+1)) none=(lk.drop (m+1)).map T:=by rw [hm];exact hJ (k:=m+1) (by omega)
      refine ⟨_,rfl,_,rfl,_,rfl,pk,_,rfl,.inl (SqL.of hdk),_,_,rfl,rfl,(by show (0:Int)<(((lk.map T).length:Nat):Int);rw [List.length_map];omega),_,rfl,pk,_,rfl,SqL.of hdk,fun q1 hq1=>?_⟩
      rw [c1]
      have t1:=aF (o:=.lst ((lk.take m).map T)) hq1
      refine ⟨_,rfl,_,rfl,_,rfl,pk,_,rfl,.inl (SqL.of (t1 pk _ hdk)),_,_,rfl,rfl,(by show (0:Int)<(((lk.map T).length:Nat):Int);rw [List.length_map];omega),_,_,rfl,rfl,_,rfl,pk,_,rfl,SqL.of (t1 pk _ hdk),fun q2 hq2=>?_⟩
      rw [c2]
      have t2:=aF (o:=.lst ((lk.drop (m+1)).map T)) hq2
      refine ⟨q1,q2,_,_,rfl,rfl,SqL.of (t2 q1 _ aC),SqL.of aC,(by rw [List.length_map,List.length_map,List.length_take,List.length_drop];omega),fun q3 hq3=>?_⟩
      have t3:=t1.trans (t2.trans (aF (o:=.lst ((lk.take m).map T++(lk.drop (m+1)).map T)) hq3))
      obtain ⟨H8,hH8,t3,hd8⟩:=uC t3
      rw [<- hH8]
      obtain ⟨ms,hms,hsub,hmsl⟩:∃ ms:List (List Nat),(lk.take m).map T++(lk.drop (m+1)).map T=ms.map T∧ms.Sublist lk∧ms.length=lk.length-1:=⟨lk.take m++lk.drop (m+1),by rw [List.map_append],oM _ _,by rw [List.length_append,List.length_take,List.length_drop];omega⟩
      rw [hms] at hd8
      obtain ⟨m',hm',hml'⟩:=Ix (d2/7) (show 0<(ms.map T).length by rw [List.length_map];omega)
      rw [List.length_map] at hml'
      have c3:dJ (ms.map T) none (some (d2/7 % (((ms.map T).length:Nat):Int)))=(ms.take m').map T:=by rw [hm'];exact oS (by omega)
      have c4:dJ (ms.map T) (some (d2/7 % (((ms.map T).length:Nat):Int)+1)) none=(ms.drop (m'+1)).map T:=by rw [hm'];exact hJ (k:=m'+1) (by omega)
      refine ⟨_,rfl,_,rfl,_,_,rfl,rfl,⟨by decide,by decide⟩,_,rfl,q3,_,rfl,.inl (SqL.of hd8),_,_,rfl,rfl,(by show (0:Int)<(((ms.map T).length:Nat):Int);rw [List.length_map];omega),_,rfl,q3,_,rfl,SqL.of hd8,fun q4 hq4=>?_⟩
      rw [c3]
      have t4:=aF (o:=.lst ((ms.take m').map T)) hq4
      refine ⟨_,rfl,_,rfl,_,_,rfl,rfl,⟨by decide,by decide⟩,_,rfl,q3,_,rfl,.inl (SqL.of (t4 q3 _ hd8)),_,_,rfl,rfl,(by show (0:Int)<(((ms.map T).length:Nat):Int);rw [List.length_map];omega),_,_,rfl,rfl,_,rfl,q3,_,rfl,SqL.of (t4 q3 _ hd8),fun q5 hq5=>?_⟩
      rw [c4]
      have t5:=aF (o:=.lst ((ms.drop (m'+1)).map T)) hq5
      refine ⟨q4,q5,_,_,rfl,rfl,SqL.of (t5 q4 _ aC),SqL.of aC,(by rw [List.length_map,List.length_map,List.length_take,List.length_drop];omega),fun q6 hq6=>?_⟩
      have t6:=t4.trans (t5.trans (aF (o:=.lst ((ms.take m').map T++(ms.drop (m'+1)).map T)) hq6))
      have hl9:(ms.take m'++ms.drop (m'+1)).length=ms.length-1:=by rw [List.length_append,List.length_take,List.length_drop];omega
      exact ⟨_,rfl,q q6 (ms.take m'++ms.drop (m'+1)) n _ ((sk).trans (t3.trans t6)) (by rw [List.map_append];exact aC) ((hwk).sub ((oM _ _).trans hsub)) hn (fun z=>by rw [z] at hl9;simp at hl9;omega) (by omega)⟩
     ·exact ⟨_,rfl,q pk lk n _ sk hdk hwk hn hnek (by omega)⟩
    ·exact ⟨_,rfl,q pk lk n _ sk hdk hwk hn hnek (by omega)⟩
def jC (ms:List (List Nat))(p:List Nat)(ts:List (List Nat)):Prop:=ts.Pairwise (· < ·)∧∀ z,z∈ts↔IsP ms z∧z≠p
theorem jC.nd {ms ts:List (List Nat)}{p:List Nat}(h:jC ms p ts):ts.Nodup:=h.1.imp fun z e=>absurd (e▸z) (List.lt_irrefl _)
theorem jC.no {ms ts:List (List Nat)}{p:List Nat}(h:jC ms p ts):p∉ts:=fun z=>((h.2 p).mp z).2 rfl
theorem jC.uniq {ms ts us:List (List Nat)}{p:List Nat}(h:jC ms p ts)(g:jC ms p us):us=ts:=by
 have ns:∀ {l:List (List Nat)},l.Pairwise (· < ·)->l.Pairwise fun a b=>¬ b<a:=fun h=>h.imp fun z e=>List.lt_irrefl _ (List.lt_trans z e)
 exact Wd.vM ((List.perm_ext_iff_of_nodup g.nd h.nd).mpr fun z=>by rw [h.2,g.2]) (ns g.1) (ns h.1)
theorem jC.len60 {ms ts:List (List Nat)}{p:List Nat}(h:jC ms p ts)(hl:ms.length<=30):ts.length<=60:=by
 have h1:=Dt.kI (b:=ms.map beg++ms.map fun w=>w.drop 1) h.nd fun z hz=>by
  obtain ⟨w,hw,e | e⟩:=((h.2 z).mp hz).1
  ·exact List.mem_append_left _ (e▸List.mem_map_of_mem hw)
  ·exact List.mem_append_right _ (e▸List.mem_map_of_mem hw)
 rw [List.length_append,List.length_map,List.length_map] at h1
 omega
theorem nR {ms ps:List (List Nat)}{p:List Nat}(hpw:ps.Pairwise (fun a b=>¬ b<a))(hpn:ps.Nodup)(hpm:∀ z,z∈ps↔IsP ms z):jC ms p (ps.filter fun o=>decide (o≠p)):=⟨(Dt.Li hpn hpw).filter _,fun z=>by rw [List.mem_filter,hpm,decide_eq_true_iff]⟩
theorem kD {ms:List (List Nat)}{t w:List Nat}(h:w∈bE ms t):w∈ms∧Wd.beg w=t:=⟨(List.mem_filter.mp h).1,of_decide_eq_true (List.mem_filter.mp h).2⟩
theorem Io {ms:List (List Nat)}{t w:List Nat}(h:w∈ms)(e:Wd.beg w=t):w∈bE ms t:=List.mem_filter.mpr ⟨h,decide_eq_true e⟩
theorem iM {ms ts us:List (List Nat)}(hn:ts.Nodup):us∈Dt.trs ts ts (bE ms)↔us.map Wd.beg=ts∧(∀ w∈us,w∈ms)∧Dt.cmT ts (Dt.pk us)=true:=by
 rw [Dt.zR hn fun t _ w hw=>(kD hw).2]
 refine and_congr_right fun h1=>?_
 rw [Dt.fJ (f':=Dt.pk us) fun t ht=>if_pos ht]
 exact and_congr_left fun _=>⟨fun h w hw=>(kD (h w hw)).1,fun h w hw=>Io (h w hw) rfl⟩
def qS (K:PySem.W.Frag)(C:Addr)(ad:Adr):Sp:=fun vs H Q E=>∃ (x tp:Addr) (n:Nat) (ms:List (List Nat)) (p:List Nat) (a:Addr) (us:List (List Nat)),vs=[.ref x,T p,.ref a]∧fN C H x tp n ms∧fP ms n∧SqA K H a (us.map T)∧(us.length<=1000∧∀ y∈us,1<=y.length∧y.length<=1000)∧(¬ IsP ms p->∀ H',aM H H'->E (.ref ad.NoSuch) none H') ∧
 (IsP ms p->∀ (ts:List (List Nat)) (b:Bool) (H':Hp),jC ms p ts->aM H H'->(b=true↔us∈Dt.trs ts ts (bE ms))->Q (.bl b) H')
theorem zD {f:Addr}{fd:FuncData}(F:Fun K "is_tree" "is_tree" iF f fd)(tt:Txt K mg ad)(C_ways_toward:Cal P w K mg base (CX1 P w) "ways_toward" 3 ["web", "piece"] (kC ad.Web ad))(C_begin_of:Cal P w K mg base (CX1 P w) "begin_of" 1 ["word"] jA)(C_coming_to:Cal P w K mg base (CX1 P w) "coming_to" 2 ["words", "piece"] (xQ K)) :
  cD P w K mg base (CX1 P w) 4 f fd ["web", "piece", "tree"] (qS K ad.Web ad):=by
 refine F.okX lH (fun vs H Q E h=>?_) (fun cdv A outer s H vs Q E hr h=>?_)
 ·obtain ⟨x,tp,n,ms,p,a,us,rfl,_⟩:=h
  rfl
 ·obtain ⟨x,tp,n,ms,p,a,us,rfl,hW,hok,hS,⟨hul,hux⟩,xn,q⟩:=h
  have hs:sizeLine=16777216:=sizeLine_eq
  have hu:=Nat.lt_of_succ_lt (jH hr)
  obtain ⟨⟨dx,hx⟩,htp⟩:=id hW
  refine ⟨_,(aB (aI (i:=3) lH.nd rfl (Or.inl rfl) (aO C_ways_toward hr jJ (aA (pv 0) (aA (pv 1) aD))))
   (aB (bT (aN (wK hu) (dU uY rfl (oO K rfl (pv 2)) (fun cl C s' H' fp=>(aO C_begin_of hr aZ (aA (pv 0) aD)))) (dR (iL rfl) (by rfl) tt.b_list (by decide +kernel) (aA (pv 3) aD)) (aP _)) (aG (bA hU)) aW)
   (aB (aI (i:=4) lH.nd rfl (Or.inl rfl) (aQ (Bh rfl) (by rfl) tt.b_all PyProof.Rows.boot_all (aA (dU uL rfl (oO K rfl (pv 2)) (fun cl C s' H' fp=>(gR (xN K rfl) (pv 0) (Ik K rfl (pv 1) rfl) (by with_unfolding_all rfl)))) aD)))
   (aG (bA (pA (pv 4) (oU (gR cG (aQ kG (by rfl) tt.b_len PySem.boot_len (aA (aO C_coming_to hr aZ (aA (pv 2) (aA (pv 1) aD))) aD)) (aL cQ (aQ kG (by rfl) tt.b_len PySem.boot_len (aA (pv 3) aD)) aE) (aP _))))))))),?_⟩
  (try rw [dI]);(try rw [cxK1])
  refine ⟨_,rfl,_,rfl,x,tp,n,ms,p,rfl,hW,hok,xn,fun hip D ps kvs H1 hD s1 hd1 hwa hps62 hpw hpn hpm=>?_⟩
  have hts:=nR (p:=p) hpw hpn hpm
  have htl:(ps.filter fun o=>decide (o≠p)).length<=62:=Nat.le_trans (List.length_filter_le ..) hps62
  generalize (ps.filter fun o=>decide (o≠p))=ts at hwa hts htl
  refine ⟨_,rfl,a,us.map T,_,rfl,hS.on s1,aM.refl _,fun J rd=>?_⟩
  refine jG (fun v=>T (beg (unT v))) rd (by rw [List.length_map];omega) (fun v G hv sg N hN=>?_) fun D2 H2 hD2 s2 hd2=>?_
  ·obtain ⟨l,hl,rfl⟩:=List.mem_map.mp hv
   have z:=hN G (aM.refl _)
   rw [eF] at z
   exact ⟨_,rfl,l,rfl,hux l hl,z⟩
  rw [gN (f:=fun l=>T (beg l)),show us.map (fun l=>T (beg l))=(us.map beg).map T by rw [List.map_map];rfl] at hd2
  refine ⟨_,rfl,D,ts,kvs,rfl,s2 D _ hd1,hwa.keys,fun D3 hD3=>?_⟩
  have t3:=aF (o:=.lst (ts.map T)) hD3
  refine ⟨D2,D3,us.map beg,ts,rfl,rfl,SqL.of (t3 D2 _ hd2),SqL.of aC,_,rfl,?_⟩
  have s13:=s1.trans (s2.trans t3)
  by_cases hb:us.map beg=ts
  case neg =>
   refine itP (by rw [decide_eq_false hb];rfl) ?_
   refine q hip ts false _ hts s13 ⟨fun z=>(by cases z),fun z=>absurd ((iM hts.nd).mp z).1 hb⟩
  refine itN (by rw [decide_eq_true hb];exact Bool.false_ne_true) ?_
  have hd4:=t3 D _ (s2 D _ hd1)
  generalize upd H2 D3 (.lst (ts.map T))=H4 at s13 hd4
  refine ⟨_,rfl,a,us.map T,_,rfl,hS.on s13,aM.refl _,fun J rd=>?_⟩
  refine jG (fun v=>V.bl (decide (unT v∈ms))) rd (by rw [List.length_map];omega) (fun v G hv sg N hN=>?_) fun D5 H5 hD5 s5 hd5=>?_
  ·obtain ⟨l,hl,rfl⟩:=List.mem_map.mp hv
   have z:=hN G (aM.refl _)
   rw [eF,<- sO] at z
   have s1G:=s13.trans sg
   exact ⟨_,rfl,_,rfl,x,ad.Web,dx,_,_,rfl,s1G x _ hx,tt.cl_Web,tt.na_Web_words,qL _ _,tp,_,rfl,.inr (SqT.of (s1G tp _ htp)),rfl,hX _,z⟩
  have hd5:H5 D5=some (.lst ((us.map fun w=>decide (w∈ms)).map V.bl)):=by
   rw [hd5,List.map_map,List.map_map]
   refine congrArg (fun l=>some (HO.lst l)) (List.map_congr_left fun m _=>?_)
   show V.bl (decide (unT (T m)∈ms))=_
   rw [eF]
   rfl
  have s15:=s13.trans s5
  refine ⟨D5,_,rfl,SqL.of hd5,?_⟩
  refine ⟨_,rfl,_,rfl,?_⟩
  by_cases hkn:∀ w∈us,w∈ms
  case neg =>
   refine itN (fun z=>hkn fun w hw=>?_) ?_
   ·rw [List.all_map] at z
    exact of_decide_eq_true (List.all_eq_true.mp z w hw)
   ·exact q hip ts false _ hts s15 ⟨fun z=>(by cases z),fun z=>absurd ((iM hts.nd).mp z).2.1 hkn⟩
  refine itP (by rw [List.all_map];exact List.all_eq_true.mpr fun w hw=>decide_eq_true (hkn w hw)) ?_
  refine ⟨_,rfl,_,rfl,a,us,p,rfl,hS.on s15,⟨hul,hux⟩,fun D6 fs H6 hD6 s6 hd6 hfn hpf hcl hle=>?_⟩
  refine ⟨D6,_,rfl,hd6,?_⟩
  refine ⟨_,rfl,D,_,rfl,s6 D _ (s5 D _ hd4),_,_,rfl,rfl,_,rfl,_,rfl,?_⟩
  have hlen:=hwa.len
  have hfin:∀ w∈us,Wd.fin w=p∨Wd.fin w∈ts:=fun w hw=>by
   by_cases e:Wd.fin w=p
   ·exact .inl e
   ·exact .inr ((hts.2 _).mpr ⟨⟨w,hkn w hw,.inr rfl⟩,e⟩)
  have key:=Dt.Gy (us:=us) (ks:=fs) hts.nd hts.no hb hfin hfn hpf hcl hle
  rw [uX,hlen]
  refine q hip ts _ _ hts (s15.trans s6) ?_
  rw [iM hts.nd,decide_eq_true_iff]
  constructor
  ·intro h
   exact ⟨hb,hkn,key.mp (by omega)⟩
  ·intro h
   have:=key.mpr h.2.2
   omega
theorem aX.updN {H:Hp}{g:List Nat->List (List Nat)}{ls:List (List Nat)}{kvs:List (Key×V)}{b:Addr}{o:HO}(h:aX H g ls kvs):V.ref b∉kvs.map (·.2)->aX (upd H b o) g ls kvs:=by
 induction h with
 | nil=>intro _;exact .nil
 | @cons _ a _ _ e _ ih =>
  intro hn
  have hab:a≠b:=fun z=>hn (z▸List.mem_cons_self ..)
  exact .cons (by rw [aH hab];exact e) (ih fun z=>hn (List.mem_cons_of_mem _ z))
theorem aX.fresh {H:Hp}{g:List Nat->List (List Nat)}{ls:List (List Nat)}{kvs:List (Key×V)}{b:Addr}(h:aX H g ls kvs)(hb:H b=none):V.ref b∉kvs.map (·.2):=by
 induction h with
 | nil=>intro z;cases z
 | @cons _ a _ _ e _ ih =>
  intro z
  rcases List.mem_cons.mp z with z | z
  ·cases z;rw [hb] at e;cases e
  ·exact ih z
theorem mU {kvs:List (Key×V)}{k:Key}{e b:Addr}(h:V.ref b∉kvs.map (·.2))(he:b≠e):V.ref b∉(cN kvs k (.ref e)).map (·.2):=fun z=>by
 unfold cN at z
 split at z
 ·rw [List.map_map] at z
  obtain ⟨kv,h1,h2⟩:=List.mem_map.mp z
  have h2:(if kv.1=k then (kv.1,V.ref e) else kv).2=V.ref b:=h2
  split at h2
  ·cases h2;exact he rfl
  ·exact h (h2▸List.mem_map_of_mem h1)
 ·rw [List.map_append] at z
  rcases List.mem_append.mp z with z | z
  ·exact h z
  ·have z:V.ref b=V.ref e:=List.mem_singleton.mp z
   cases z;exact he rfl
theorem kK {ts:List (List Nat)}{g:List Nat->List (List Nat)}:Dt.Fix ts ts g:=fun t h z=>absurd h z
def GOk (ms ts:List (List Nat))(g:List Nat->List (List Nat)):Prop:=∀ o∈ts,(g o).length<=64∧∀ y∈g o,y∈ms
theorem GOk.set {ms ts:List (List Nat)}{g:List Nat->List (List Nat)}{t w:List Nat}(h:GOk ms ts g)(hw:w∈ms):GOk ms ts (Dt.eG g t w):=fun o ho=>by
 by_cases e:o=t
 ·rw [e,Dt.fZ]
  exact ⟨by show 1<=64;decide,fun y hy=>by rw [List.mem_singleton.mp hy];exact hw⟩
 ·rw [Dt.dC e]
  exact h o ho
theorem GOk.out {ms ts:List (List Nat)}(h:ms.length<=63):GOk ms ts (bE ms):=fun o _=>⟨Nat.le_trans (List.length_filter_le ..) (by omega),fun y hy=>(kD hy).1⟩
def qY (C:Addr)(ad:Adr):Sp:=fun vs H Q E=>∃ (x tp:Addr) (n:Nat) (ms:List (List Nat)) (p:List Nat) (k:Int),vs=[.ref x,T p,.int k]∧fN C H x tp n ms∧fP ms n∧(¬ IsP ms p->∀ H',aM H H'->E (.ref ad.NoSuch) none H') ∧
 (IsP ms p->∀ ts:List (List Nat),jC ms p ts->(¬ (0<=k∧k<((Dt.nC ts (bE ms):Nat):Int))->∀ H',aM H H'->E (.ref ad.NoSuch) none H')∧(∀ (j:Nat) (us:List (List Nat)),k=(j:Int)->(Dt.trs ts ts (bE ms))[j]?=some us->∀ (D:Addr) (H':Hp),H D=none->aM H H'->H' D=some (.lst (us.map T))->Q (.ref D) H'))
theorem xP {f:Addr}{fd:FuncData}(F:Fun K "tree_by" "tree_by" mX f fd)(tt:Txt K mg ad)(C_ways_toward:Cal P w K mg base (CX1 P w) "ways_toward" 3 ["web", "piece"] (kC ad.Web ad))(C_choices_counted:Cal P w K mg base (CX1 P w) "choices_counted" 4 ["ways"] (iD K))(C_outs:Cal P w K mg base (CX1 P w) "outs" 2 ["web", "piece"] (vK ad.Web)) :
  cD P w K mg base (CX1 P w) 5 f fd ["web", "piece", "number"] (qY ad.Web ad):=by
 refine F.okX eB (fun vs H Q E h=>?_) (fun cdv A outer s H vs Q E hr h=>?_)
 ·obtain ⟨x,tp,n,ms,p,k,rfl,_⟩:=h
  rfl
 ·obtain ⟨x,tp,n,ms,p,k,rfl,hW,hok,xn,q⟩:=h
  have hs:sizeLine=16777216:=sizeLine_eq
  obtain ⟨hne,h64,⟨hn,hfew⟩,hxs,hnd⟩:=id hok
  refine ⟨_,(aB (aI (i:=3) eB.nd rfl (Or.inl rfl) (aO C_ways_toward hr jJ (aA (pv 0) (aA (pv 1) aD))))
   (aB (bT (PW.pt (wI (aN qB (pv 2) aE (aP _)) (pY (aN Pw (pv 2) (aO C_choices_counted hr aZ (aA (pv 3) aD)) (aP _))))) (aG (dP (E:=fun cls H'=>E cls none H') tt.x_NoSuch rfl (fun _ _ _ _ _ _ _ I hx q=>fU I hx q) (aA (aS [116,104,101,114,101,32,105,115,32,110,111,32,116,114,101,101,32,111,102,32,116,104,105,115,32,110,117,109,98,101,114,32,116,111,119,97,114,100,32,116,104,101,32,112,105,101,99,101] (by decide +kernel)) aD))) aW)
   (aB (aI (i:=4) eB.nd rfl (Or.inl rfl) (bK aD))
   (aB (aI (i:=5) eB.nd rfl (Or.inl rfl) (pv 2))
   (aB (cC PassesOwn.leaving rfl (bW (dR (iL rfl) (by rfl) tt.b_list (by decide +kernel) (aA (pv 3) aD))) (bJ (i:=6) eB.nd rfl (Or.inl rfl)) (aG (cC PassesOwn.leaving rfl (bW (aO C_outs hr aZ (aA (pv 0) (aA (pv 6) aD)))) (bJ (i:=7) eB.nd rfl (Or.inl rfl)) (aB (mI (jH hr) (pv 3) (pv 6) (bK (aA (pv 7) aD)) rfl)
   (aB (aI (i:=8) eB.nd rfl (Or.inl rfl) (aO C_choices_counted hr aZ (aA (pv 3) aD)))
   (aB (bT (aN qB (pv 5) (pv 8) (aP _)) (aB (dG (kB PySem.F.plainAttrs_list PySem.F.slot_list_append PySem.F.type_list_append eM (pv 4) (aA (pv 7) aD)))
   (aG wV)) aW)
   (aG (aI (i:=5) eB.nd rfl (Or.inl rfl) (aL fR (pv 5) (pv 8))))))))))
   (aG (bA (pv 4)))))))),?_⟩
  (try rw [dI]);(try rw [cxK1])
  refine ⟨_,rfl,_,rfl,x,tp,n,ms,p,rfl,hW,hok,xn,fun hip D ps kvs H1 hD s1 hd1 hwa hps62 hpw hpn hpm=>?_⟩
  have hts:=nR (p:=p) hpw hpn hpm
  have htl:(ps.filter fun o=>decide (o≠p)).length<=62:=Nat.le_trans (List.length_filter_le ..) hps62
  generalize (ps.filter fun o=>decide (o≠p))=ts at hwa hts htl
  obtain ⟨xk,q⟩:=q hip ts hts
  have htn:=hts.nd
  have hcc:∀ g,GOk ms ts g->(ts.length<=64∧∀ o∈ts,(g o).length<=200∧∀ y∈g o,1<=y.length∧y.length<=1000)∧pV (eD ts g) ts.length∧2*Dt.pL ((eD ts g).map (Dt.rs ts.length))<Dt.md 7:=fun g hg=>⟨⟨by omega,fun o ho=>⟨by have:=(hg o ho).1;omega,fun y hy=>by have:=(hxs y ((hg o ho).2 y hy)).1;omega⟩⟩,mG (by omega) fun o ho=>(hg o ho).1⟩
  have hg0:GOk ms ts (bE ms):=GOk.out (by omega)
  refine ⟨_,rfl,_,_,rfl,rfl,_,rfl,?_⟩
  by_cases hk0:k<0
  ·refine itP (decide_eq_true hk0) ?_
   refine itP rfl ?_
   exact ⟨(by show 1<=sizeLine;omega),xk (fun z=>by omega) H1 s1⟩
  refine itN (fun z=>hk0 (of_decide_eq_true z)) ?_
  obtain ⟨c1,c2,c3⟩:=hcc _ hg0
  refine ⟨_,rfl,_,rfl,D,ts,kvs,bE ms,rfl,hd1,hwa,c1,c2,c3,fun G1 s2=>?_⟩
  rw [gK htn]
  refine ⟨_,_,rfl,rfl,_,rfl,?_⟩
  by_cases hk1:k≥((Dt.nC ts (bE ms):Nat):Int)
  ·refine itP (decide_eq_true hk1) ?_
   exact ⟨(by show 1<=sizeLine;omega),xk (fun z=>by omega) G1 (s1.trans s2)⟩
  refine itN (fun z=>hk1 (of_decide_eq_true z)) ?_
  obtain ⟨j,hj⟩:∃ j:Nat,k=(j:Int):=⟨k.toNat,by omega⟩
  subst hj
  have hjl:j<(Dt.trs ts ts (bE ms)).length:=by
   rw [Dt.iZ htn (fun t h=>h) kK]
   omega
  obtain ⟨us,hus⟩:∃ us,(Dt.trs ts ts (bE ms))[j]?=some us:=⟨_,List.getElem?_eq_getElem hjl⟩
  refine ⟨(by show 0<=sizeLine;omega),fun Tr hTr=>?_⟩
  have tT:=aF (o:=.lst []) hTr
  have hDG:=s2 D _ hd1
  have hTD:Tr≠D:=fun z=>by rw [z,hDG] at hTr;cases hTr
  have hTH:H Tr=none:=eJ (s1.trans s2) hTr
  refine ⟨_,rfl,?_⟩
  refine ⟨_,rfl,D,ts,kvs,rfl,tT D _ hDG,hwa.keys,fun L hL=>?_⟩
  have tL:=aF (o:=.lst (ts.map T)) hL
  have hLD:L≠D:=fun z=>by rw [z,tT D _ hDG] at hL;cases hL
  have hLT:L≠Tr:=fun z=>by rw [z,aC] at hL;cases hL
  refine ⟨L,rfl,⟨_,SqL.of aC⟩,?_⟩
  refine cK (K:=K) (a:=L) (xs:=ts.map T) (fun i σ G=>aM H G∧G L=some (.lst (ts.map T))∧∃ (g:List Nat->List (List Nat)) (kv:List (Key×V)) (j':Nat) (gs rs:List (List Nat)) (v6 v7 v8:Option V),G D=some (.dK kv)∧aX G g ts kv∧V.ref Tr∉kv.map (·.2)∧GOk ms ts g∧(∀ t∈ts.drop i,g t=bE ms t)∧Dt.Fix ts (ts.drop i) g∧G Tr=some (.lst (gs.map T))∧gs.length<=i∧(Dt.trs ts (ts.drop i) g)[j']?=some rs∧gs++rs=us∧σ=[some (.ref x),some (T p),some (.int (j:Nat)),some (.ref D),some (.ref Tr),some (.int (j':Nat)),v6,v7,v8])
   ⟨s1.trans (s2.trans (tT.trans tL)),aC,bE ms,kvs,j,[],us,none,none,none,tL D _ (tT D _ hDG),((hwa.mono s2).mono tT).mono tL,(hwa.mono s2).fresh hTr,hg0,fun t _=>rfl,by rw [List.drop_zero];exact kK,by rw [aH hLT.symm];exact aC,Nat.le_refl _,by rw [List.drop_zero];exact hus,rfl,rfl⟩ (fun i σ G _ h=>SqL.of h.2.1) ?_ ?_
  ·rintro i y σ G hi ⟨sG,hLG,g,kv,j',gs,rs,v6,v7,v8,hdG,hwG,hnT,hgo,hgr,hfx,hTG,hgl,hrs,hgs,rfl⟩
   obtain ⟨t,hti,rfl⟩:∃ t,ts[i]?=some t∧T t=y:=by rw [List.getElem?_map] at hi;exact Option.map_eq_some_iff.mp hi
   obtain ⟨hil,hie⟩:=List.getElem?_eq_some_iff.mp hti
   have hdr:ts.drop i=t::ts.drop (i+1):=by rw [List.drop_eq_getElem_cons hil,hie]
   have htm:=List.mem_of_getElem? hti
   have hgt:g t=bE ms t:=hgr t (by rw [hdr];exact List.mem_cons_self ..)
   have hdn:(t::ts.drop (i+1)).Nodup:=by rw [<- hdr];exact htn.sublist (List.drop_sublist ..)
   have htr:t∉ts.drop (i+1):=(List.nodup_cons.mp hdn).1
   rw [hdr] at hrs hfx
   have hrs:((g t).flatMap fun w=>(Dt.trs ts (ts.drop (i+1)) (Dt.eG g t w)).map fun us=>w::us)[j']?=some rs:=hrs
   rw [hgt] at hrs
   refine ⟨_,rfl,_,rfl,x,tp,n,ms,t,rfl,hW.on sG,hok,fun Lo Go hLo so hdo=>?_⟩
   refine ⟨Lo,rfl,⟨_,SqL.of hdo⟩,?_⟩
   have hLoD:Lo≠D:=fun z=>by rw [z,hdG] at hLo;cases hLo
   have hLoT:Lo≠Tr:=fun z=>by rw [z,hTG] at hLo;cases hLo
   refine cK (K:=K) (a:=Lo) (xs:=(bE ms t).map T) (fun m σ G2=>aM H G2∧G2 L=some (.lst (ts.map T))∧G2 Lo=some (.lst ((bE ms t).map T))∧G2 Tr=some (.lst (gs.map T))∧∃ (g2:List Nat->List (List Nat)) (kv2:List (Key×V)) (j2:Nat) (v7 v8:Option V),G2 D=some (.dK kv2)∧aX G2 g2 ts kv2∧V.ref Tr∉kv2.map (·.2)∧(∀ o∈ts,o≠t->g2 o=g o)∧(((bE ms t).drop m).flatMap fun w=>(Dt.trs ts (ts.drop (i+1)) (Dt.eG g t w)).map fun us=>w::us)[j2]?=some rs∧σ=[some (.ref x),some (T p),some (.int (j:Nat)),some (.ref D),some (.ref Tr),some (.int (j2:Nat)),some (T t),v7,v8])
    ⟨sG.trans so,so L _ hLG,hdo,so Tr _ hTG,g,kv,j',v7,v8,so D _ hdG,hwG.mono so,hnT,fun o _ _=>rfl,by rw [List.drop_zero];exact hrs,rfl⟩ (fun m σ G2 _ h=>SqL.of h.2.2.1) ?_ ?_
   ·rintro m y σ G2 hm ⟨sG2,hL2,hLo2,hT2,g2,kv2,j2,v7,v8,hd2,hw2,hnT2,hg2,hj2,rfl⟩
    obtain ⟨wd,hwm,rfl⟩:∃ wd,(bE ms t)[m]?=some wd∧T wd=y:=by rw [List.getElem?_map] at hm;exact Option.map_eq_some_iff.mp hm
    obtain ⟨hml,hme⟩:=List.getElem?_eq_some_iff.mp hwm
    have hwms:=(kD (List.mem_of_getElem? hwm)).1
    rw [show (bE ms t).drop m=wd::(bE ms t).drop (m+1) by rw [List.drop_eq_getElem_cons hml,hme],Dt.Mf,List.length_map,Dt.iZ htn (fun o ho=>List.mem_of_mem_drop ho) hfx.set] at hj2
    refine ⟨_,rfl,(by show 1<=sizeLine;omega),fun e he=>?_⟩
    have te:=aF (o:=.lst [T wd]) he
    have heD:e≠D:=fun z=>by rw [z,hd2] at he;cases he
    have heT:e≠Tr:=fun z=>by rw [z,hT2] at he;cases he
    have hH:∀ {b:Addr} {o:HO},H b=some o->b≠D:=fun {b o} e' z=>by rw [z,hD] at e';cases e'
    refine ⟨_,rfl,_,rfl,D,_,rfl,tR.k (k:=Sum.inr (tx t)) (te D _ hd2) (by rw [hw2.len];omega),?_⟩
    have hw3:aX (upd (upd G2 e (.lst [T wd])) D (.dK (cN kv2 (Sum.inr (tx t)) (.ref e)))) (Dt.eG g t wd) ts (cN kv2 (Sum.inr (tx t)) (.ref e)):=by
     refine (((hw2.mono te).repl (a:=e) (new:=[wd]) htn htm (by exact aC)).updD (te D _ hd2)).cong fun o ho=>?_
     by_cases z:o=t
     ·rw [if_pos z,z,Dt.fZ]
     ·rw [if_neg z,Dt.dC z]
      exact hg2 o ho z
    have sG3:aM H (upd (upd G2 e (.lst [T wd])) D (.dK (cN kv2 (Sum.inr (tx t)) (.ref e)))):=fun b o e'=>by rw [aH (hH e')];exact te b o (sG2 b o e')
    have hL3:upd (upd G2 e (.lst [T wd])) D (.dK (cN kv2 (Sum.inr (tx t)) (.ref e))) L=some (.lst (ts.map T)):=by rw [aH hLD];exact te L _ hL2
    have hLo3:upd (upd G2 e (.lst [T wd])) D (.dK (cN kv2 (Sum.inr (tx t)) (.ref e))) Lo=some (.lst ((bE ms t).map T)):=by rw [aH hLoD];exact te Lo _ hLo2
    have hT3:upd (upd G2 e (.lst [T wd])) D (.dK (cN kv2 (Sum.inr (tx t)) (.ref e))) Tr=some (.lst (gs.map T)):=by rw [aH hTD];exact te Tr _ hT2
    have hd3:upd (upd G2 e (.lst [T wd])) D (.dK (cN kv2 (Sum.inr (tx t)) (.ref e))) D=some (.dK (cN kv2 (Sum.inr (tx t)) (.ref e))):=aC
    generalize upd (upd G2 e (.lst [T wd])) D (.dK (cN kv2 (Sum.inr (tx t)) (.ref e)))=G3 at hw3 sG3 hL3 hLo3 hT3 hd3
    have hgo3:=hgo.set (t:=t) hwms
    obtain ⟨c1,c2,c3⟩:=hcc _ hgo3
    refine ⟨_,rfl,D,ts,_,Dt.eG g t wd,rfl,hd3,hw3,c1,c2,c3,fun G4 s4=>?_⟩
    rw [gK htn]
    refine ⟨_,rfl,_,rfl,_,_,rfl,rfl,_,rfl,?_⟩
    by_cases hlt:j2<Dt.nC ts (Dt.eG g t wd)
    ·refine itP (decide_eq_true (by omega)) ?_
     rw [if_pos hlt,List.getElem?_map] at hj2
     obtain ⟨rs',hrs',hrr⟩:=Option.map_eq_some_iff.mp hj2
     have hT4:=s4 Tr _ hT3
     refine ⟨_,rfl,.inl ⟨rfl,_,SqL.of hT4⟩,_,rfl,Tr,_,_,rfl,rfl,hT4,(by rw [List.length_map];omega),?_⟩
     refine ⟨fun b o e'=>by rw [aH (aK e' hTH)];exact s4 b o (sG3 b o e'),by rw [aH hLT];exact s4 L _ hL3,Dt.eG g t wd,_,j2,gs++[wd],rs',_,_,_,by rw [aH hTD.symm];exact s4 D _ hd3,(hw3.mono s4).updN (mU hnT2 heT.symm),mU hnT2 heT.symm,hgo3,fun o ho=>?_,hfx.set,by rw [aC,List.map_append];rfl,by rw [List.length_append];show _+1<=_;omega,hrs',by rw [List.append_assoc];show gs++(wd::rs')=us;rw [hrr];exact hgs,rfl⟩
     rw [Dt.dC (fun z:o=t=>htr (z▸ho))]
     exact hgr o (by rw [hdr];exact List.mem_cons_of_mem _ ho)
    ·refine itN (fun z=>hlt (by have:=of_decide_eq_true z;omega)) ?_
     rw [if_neg hlt] at hj2
     refine ⟨_,rfl,_,rfl,_,_,rfl,rfl,?_⟩
     refine ⟨sG3.trans s4,s4 L _ hL3,s4 Lo _ hLo3,s4 Tr _ hT3,Dt.eG g t wd,_,j2-Dt.nC ts (Dt.eG g t wd),some (T wd),some (.int ((Dt.nC ts (Dt.eG g t wd):Nat):Int)),s4 D _ hd3,hw3.mono s4,mU hnT2 heT.symm,fun o _ z=>Dt.dC z,hj2,?_⟩
     rw [show ((j2-Dt.nC ts (Dt.eG g t wd):Nat):Int)=((j2:Nat):Int)-((Dt.nC ts (Dt.eG g t wd):Nat):Int) by omega]
     rfl
   ·rintro σ G2 ⟨sG2,hL2,hLo2,hT2,g2,kv2,j2,v7,v8,hd2,hw2,hnT2,hg2,hj2,rfl⟩
    rw [List.length_map,List.drop_length] at hj2
    cases hj2
  ·rintro σ G ⟨sG,hLG,g,kv,j',gs,rs,v6,v7,v8,hdG,hwG,hnT,hgo,hgr,hfx,hTG,hgl,hrs,hgs,rfl⟩
   rw [List.length_map,List.drop_length] at hrs
   have hr0:rs=[]:=by
    have hrs:(if Dt.cmT ts (fun t=>(g t).headD [])=true then [[]] else ([]:List (List (List Nat))))[j']?=some rs:=hrs
    have hm:=List.mem_of_getElem? hrs
    split at hm
    ·exact List.mem_singleton.mp hm
    ·cases hm
   rw [hr0,List.append_nil] at hgs
   rw [hgs] at hTG
   refine ⟨_,rfl,?_⟩
   exact q j us rfl hus Tr G hTH sG hTG
def Al (K:PySem.W.Frag)(C:Addr)(ad:Adr):Sp:=fun vs H Q E=>∃ (x tp:Addr) (n:Nat) (ms:List (List Nat)) (p:List Nat) (a:Addr) (us:List (List Nat)),vs=[.ref x,T p,.ref a]∧fN C H x tp n ms∧fP ms n∧SqA K H a (us.map T)∧(us.length<=1000∧∀ y∈us,1<=y.length∧y.length<=1000)∧(¬ IsP ms p->∀ H',aM H H'->E (.ref ad.NoSuch) none H') ∧
 (IsP ms p->∀ ts:List (List Nat),jC ms p ts->(us∉Dt.trs ts ts (bE ms)->∀ H',aM H H'->E (.ref ad.NotOne) none H')∧(us∈Dt.trs ts ts (bE ms)->∀ H',aM H H'->Q (.int (Dt.rkT ts ts (bE ms) us:Nat)) H'))
theorem pC {f:Addr}{fd:FuncData}(F:Fun K "tree_number" "tree_number" gY f fd)(tt:Txt K mg ad)(C_ways_toward:Cal P w K mg base (CX1 P w) "ways_toward" 3 ["web", "piece"] (kC ad.Web ad))(C_is_tree:Cal P w K mg base (CX1 P w) "is_tree" 4 ["web", "piece", "tree"] (qS K ad.Web ad))(C_begin_of:Cal P w K mg base (CX1 P w) "begin_of" 1 ["word"] jA)(C_outs:Cal P w K mg base (CX1 P w) "outs" 2 ["web", "piece"] (vK ad.Web))(C_choices_counted:Cal P w K mg base (CX1 P w) "choices_counted" 4 ["ways"] (iD K)) :
  cD P w K mg base (CX1 P w) 5 f fd ["web", "piece", "tree"] (Al K ad.Web ad):=by
 refine F.okX cM (fun vs H Q E h=>?_) (fun cdv A outer s H vs Q E hr h=>?_)
 ·obtain ⟨x,tp,n,ms,p,a,us,rfl,_⟩:=h
  rfl
 ·obtain ⟨x,tp,n,ms,p,a,us,rfl,hW,hok,hS,⟨hul,hux⟩,xn,q⟩:=h
  have hs:sizeLine=16777216:=sizeLine_eq
  obtain ⟨hne,h64,⟨hn,hfew⟩,hxs,hnd⟩:=id hok
  refine ⟨_,(aB (aI (i:=3) cM.nd rfl (Or.inl rfl) (aO C_ways_toward hr jJ (aA (pv 0) (aA (pv 1) aD))))
   (aB (bT (Fa (Hh (aO C_is_tree hr jJ (aA (pv 0) (aA (pv 1) (aA (pv 2) aD)))))) (aG (dP (E:=fun cls H'=>E cls none H') tt.x_NotOne rfl (fun _ _ _ _ _ _ _ I hx q=>fU I hx q) (aA (aS [116,104,105,115,32,105,115,32,110,111,32,116,114,101,101,32,116,111,119,97,114,100,32,116,104,101,32,112,105,101,99,101] (by decide +kernel)) aD))) aW)
   (aB (aI (i:=4) cM.nd rfl (Or.inl rfl) aE)
   (aB (cC PassesOwn.leaving rfl (oO K rfl (pv 2)) (bJ (i:=5) cM.nd rfl (Or.inl rfl)) (aB (aI (i:=6) cM.nd rfl (Or.inl rfl) (aO C_begin_of hr aZ (aA (pv 5) aD)))
   (aB (cC PassesOwn.leaving rfl (bW (aO C_outs hr aZ (aA (pv 0) (aA (pv 6) aD)))) (bJ (i:=7) cM.nd rfl (Or.inl rfl)) (aG (bT (aN Ir (pv 7) (pv 5) (aP _)) (aB (mI (jH hr) (pv 3) (pv 6) (bK (aA (pv 7) aD)) rfl)
   (aG (aI (i:=4) cM.nd rfl (Or.inl rfl) (aL cQ (pv 4) (aO C_choices_counted hr aZ (aA (pv 3) aD)))))) aW)))
   (aG (mI (jH hr) (pv 3) (pv 6) (bK (aA (pv 5) aD)) rfl)))))
   (aG (bA (pv 4))))))),?_⟩
  (try rw [dI]);(try rw [cxK1])
  refine ⟨_,rfl,_,rfl,x,tp,n,ms,p,rfl,hW,hok,xn,fun hip D ps kvs H1 hD s1 hd1 hwa hps62 hpw hpn hpm=>?_⟩
  have hts:=nR (p:=p) hpw hpn hpm
  have htl:(ps.filter fun o=>decide (o≠p)).length<=62:=Nat.le_trans (List.length_filter_le ..) hps62
  generalize (ps.filter fun o=>decide (o≠p))=ts at hwa hts htl
  obtain ⟨xk,q⟩:=q hip ts hts
  have htn:=hts.nd
  have hcc:∀ g,GOk ms ts g->(ts.length<=64∧∀ o∈ts,(g o).length<=200∧∀ y∈g o,1<=y.length∧y.length<=1000)∧pV (eD ts g) ts.length∧2*Dt.pL ((eD ts g).map (Dt.rs ts.length))<Dt.md 7:=fun g hg=>⟨⟨by omega,fun o ho=>⟨by have:=(hg o ho).1;omega,fun y hy=>by have:=(hxs y ((hg o ho).2 y hy)).1;omega⟩⟩,mG (by omega) fun o ho=>(hg o ho).1⟩
  have hg0:GOk ms ts (bE ms):=GOk.out (by omega)
  refine ⟨_,rfl,_,rfl,_,rfl,x,tp,n,ms,p,a,us,rfl,hW.on s1,hok,hS.on s1,⟨hul,hux⟩,fun z=>absurd hip z,fun _ ts2 b H2 hts2 s2 hb=>?_⟩
  obtain rfl:=hts.uniq hts2
  refine ⟨_,rfl,?_⟩
  by_cases hin:us∈Dt.trs ts2 ts2 (bE ms)
  case neg =>
   have hb0:b=false:=by
    cases b with
    | false=>rfl
    | true=>exact absurd (hb.mp rfl) hin
   subst hb0
   refine Cr ?_
   exact ⟨(by show 1<=sizeLine;omega),xk hin H2 (s1.trans s2)⟩
  have hb1:=hb.mpr hin
  subst hb1
  refine Bw ?_
  obtain ⟨hmb,hmm,_⟩:=(iM htn).mp hin
  have s12:=s1.trans s2
  refine ⟨_,rfl,a,us.map T,_,rfl,hS,s12,fun J rd=>?_⟩
  have hults:us.length=ts2.length:=by rw [<- hmb,List.length_map]
  have hlens:∀ o,(bE ms o).length<=64:=fun o=>Nat.le_trans (List.length_filter_le ..) (by omega)
  have hDH2:=s2 D _ hd1
  refine sQ rd (fun i σ G=>aM H G∧∃ (g:List Nat->List (List Nat)) (kv:List (Key×V)) (acc:Nat) (v5 v6 v7:Option V),G D=some (.dK kv)∧aX G g ts2 kv∧GOk ms ts2 g∧(∀ t∈ts2.drop i,g t=bE ms t)∧acc+Dt.rkT ts2 (ts2.drop i) g (us.drop i)=Dt.rkT ts2 ts2 (bE ms) us∧σ=[some (.ref x),some (T p),some (.ref a),some (.ref D),some (.int (acc:Nat)),v5,v6,v7])
   ⟨s12,bE ms,kvs,0,none,none,none,hDH2,hwa.mono s2,hg0,fun t _=>rfl,by rw [List.drop_zero,List.drop_zero,Nat.zero_add],rfl⟩ (fun i σ G _ h=>h.1) ?_ ?_
  ·rintro i y σ G hi ⟨sG,g,kv,acc,v5,v6,v7,hdG,hwG,hgo,hgr,hacc,rfl⟩
   obtain ⟨wd,hwi,rfl⟩:∃ wd,us[i]?=some wd∧T wd=y:=by rw [List.getElem?_map] at hi;exact Option.map_eq_some_iff.mp hi
   obtain ⟨hil,hie⟩:=List.getElem?_eq_some_iff.mp hwi
   have hwus:=List.mem_of_getElem? hwi
   have hwms:=hmm wd hwus
   have hti:ts2[i]?=some (Wd.beg wd):=by rw [<- hmb,List.getElem?_map,hwi];rfl
   obtain ⟨hil2,hie2⟩:=List.getElem?_eq_some_iff.mp hti
   have htm:=List.mem_of_getElem? hti
   have hdr:ts2.drop i=Wd.beg wd::ts2.drop (i+1):=by rw [List.drop_eq_getElem_cons hil2,hie2]
   have hdu:us.drop i=wd::us.drop (i+1):=by rw [List.drop_eq_getElem_cons hil,hie]
   have hdn:(Wd.beg wd::ts2.drop (i+1)).Nodup:=by rw [<- hdr];exact htn.sublist (List.drop_sublist ..)
   have htr:Wd.beg wd∉ts2.drop (i+1):=(List.nodup_cons.mp hdn).1
   have hgt:g (Wd.beg wd)=bE ms (Wd.beg wd):=hgr _ (by rw [hdr];exact List.mem_cons_self ..)
   rw [hdr,hdu] at hacc
   have hacc:acc+((((g (Wd.beg wd)).filter fun x=>decide (x<wd)).map fun x=>Dt.nC ts2 (Dt.eG g (Wd.beg wd) x)).sum+Dt.rkT ts2 (ts2.drop (i+1)) (Dt.eG g (Wd.beg wd) wd) (us.drop (i+1)))=Dt.rkT ts2 ts2 (bE ms) us:=hacc
   rw [hgt] at hacc
   refine ⟨_,rfl,wd,rfl,hux wd hwus,?_⟩
   refine ⟨_,rfl,_,rfl,x,tp,n,ms,(Wd.beg wd),rfl,hW.on sG,hok,fun Lo Go hLo so hdo=>?_⟩
   refine ⟨Lo,rfl,⟨_,SqL.of hdo⟩,?_⟩
   have hLoD:Lo≠D:=fun z=>by rw [z,hdG] at hLo;cases hLo
   have hH:∀ {b:Addr} {o:HO},H b=some o->b≠D:=fun {b o} e' z=>by rw [z,hD] at e';cases e'
   have putw:∀ {G2:Hp} {g2:List Nat->List (List Nat)} {kv2:List (Key×V)} {e:Addr} {v:List Nat},G2 D=some (.dK kv2)->aX G2 g2 ts2 kv2->(∀ o∈ts2,o≠(Wd.beg wd)->g2 o=g o)->G2 e=none->aX (upd (upd G2 e (.lst [T v])) D (.dK (cN kv2 (Sum.inr (tx (Wd.beg wd))) (.ref e)))) (Dt.eG g (Wd.beg wd) v) ts2 (cN kv2 (Sum.inr (tx (Wd.beg wd))) (.ref e)):=fun {G2 g2 kv2 e v} hd2 hw2 hg2 he=>by
    have te:=aF (o:=.lst [T v]) he
    refine (((hw2.mono te).repl (a:=e) (new:=[v]) htn htm (by exact aC)).updD (te D _ hd2)).cong fun o ho=>?_
    by_cases z:o=(Wd.beg wd)
    ·rw [if_pos z,z,Dt.fZ]
    ·rw [if_neg z,Dt.dC z]
     exact hg2 o ho z
   refine cK (K:=K) (a:=Lo) (xs:=(bE ms (Wd.beg wd)).map T) (fun m σ G2=>aM H G2∧G2 Lo=some (.lst ((bE ms (Wd.beg wd)).map T))∧∃ (g2:List Nat->List (List Nat)) (kv2:List (Key×V)) (v7:Option V),G2 D=some (.dK kv2)∧aX G2 g2 ts2 kv2∧(∀ o∈ts2,o≠(Wd.beg wd)->g2 o=g o)∧σ=[some (.ref x),some (T p),some (.ref a),some (.ref D),some (.int ((acc+((((bE ms (Wd.beg wd)).take m).filter fun x=>decide (x<wd)).map fun x=>Dt.nC ts2 (Dt.eG g (Wd.beg wd) x)).sum:Nat):Int)),some (T wd),some (T (Wd.beg wd)),v7])
    ⟨sG.trans so,hdo,g,kv,v7,so D _ hdG,hwG.mono so,fun o _ _=>rfl,rfl⟩ (fun m σ G2 _ h=>SqL.of h.2.1) ?_ ?_
   ·rintro m y σ G2 hm ⟨sG2,hLo2,g2,kv2,v7,hd2,hw2,hg2,rfl⟩
    obtain ⟨v,hvm,rfl⟩:∃ v,(bE ms (Wd.beg wd))[m]?=some v∧T v=y:=by rw [List.getElem?_map] at hm;exact Option.map_eq_some_iff.mp hm
    have hvms:=(kD (List.mem_of_getElem? hvm)).1
    have htk:(bE ms (Wd.beg wd)).take (m+1)=(bE ms (Wd.beg wd)).take m++[v]:=by rw [List.take_add_one,hvm];rfl
    refine ⟨_,rfl,_,rfl,_,rfl,_,rfl,_,rfl,?_⟩
    by_cases hlt:v<wd
    ·refine itP (decide_eq_true hlt) ?_
     refine ⟨_,rfl,(by show 1<=sizeLine;omega),fun e he=>?_⟩
     have te:=aF (o:=.lst [T v]) he
     refine ⟨_,rfl,_,rfl,D,_,rfl,tR.k (k:=Sum.inr (tx (Wd.beg wd))) (te D _ hd2) (by rw [hw2.len];omega),?_⟩
     have hw3:=putw (v:=v) hd2 hw2 hg2 he
     have sG3:aM H (upd (upd G2 e (.lst [T v])) D (.dK (cN kv2 (Sum.inr (tx (Wd.beg wd))) (.ref e)))):=fun b o e'=>by rw [aH (hH e')];exact te b o (sG2 b o e')
     have hLo3:upd (upd G2 e (.lst [T v])) D (.dK (cN kv2 (Sum.inr (tx (Wd.beg wd))) (.ref e))) Lo=some (.lst ((bE ms (Wd.beg wd)).map T)):=by rw [aH hLoD];exact te Lo _ hLo2
     have hd3:upd (upd G2 e (.lst [T v])) D (.dK (cN kv2 (Sum.inr (tx (Wd.beg wd))) (.ref e))) D=some (.dK (cN kv2 (Sum.inr (tx (Wd.beg wd))) (.ref e))):=aC
     generalize upd (upd G2 e (.lst [T v])) D (.dK (cN kv2 (Sum.inr (tx (Wd.beg wd))) (.ref e)))=G3 at hw3 sG3 hLo3 hd3
     obtain ⟨c1,c2,c3⟩:=hcc _ (hgo.set (t:=(Wd.beg wd)) hvms)
     refine ⟨_,rfl,_,rfl,D,ts2,_,Dt.eG g (Wd.beg wd) v,rfl,hd3,hw3,c1,c2,c3,fun G4 s4=>?_⟩
     rw [gK htn]
     refine ⟨_,_,rfl,rfl,sG3.trans s4,s4 Lo _ hLo3,Dt.eG g (Wd.beg wd) v,_,some (T v),s4 D _ hd3,hw3.mono s4,fun o _ z=>Dt.dC z,?_⟩
     rw [htk,List.filter_append,List.filter_cons_of_pos (p:=fun x=>decide (x<wd)) (decide_eq_true hlt),List.filter_nil,List.map_append,List.sum_append,<- Nat.add_assoc,Int.natCast_add]
     rfl
    ·refine itN (fun z=>hlt (of_decide_eq_true z)) ?_
     refine ⟨sG2,hLo2,g2,kv2,some (T v),hd2,hw2,hg2,?_⟩
     rw [htk,List.filter_append,List.filter_cons_of_neg (p:=fun x=>decide (x<wd)) (fun z=>hlt (of_decide_eq_true z)),List.filter_nil,List.append_nil]
     rfl
   ·rintro σ G2 ⟨sG2,hLo2,g2,kv2,v7,hd2,hw2,hg2,rfl⟩
    rw [List.length_map,List.take_length]
    refine ⟨_,rfl,(by show 1<=sizeLine;omega),fun e he=>?_⟩
    have te:=aF (o:=.lst [T wd]) he
    refine ⟨_,rfl,_,rfl,D,_,rfl,tR.k (k:=Sum.inr (tx (Wd.beg wd))) (te D _ hd2) (by rw [hw2.len];omega),?_⟩
    refine ⟨fun b o e'=>by rw [aH (hH e')];exact te b o (sG2 b o e'),Dt.eG g (Wd.beg wd) wd,_,acc+(((bE ms (Wd.beg wd)).filter fun x=>decide (x<wd)).map fun x=>Dt.nC ts2 (Dt.eG g (Wd.beg wd) x)).sum,_,_,_,aC,putw (v:=wd) hd2 hw2 hg2 he,hgo.set hwms,fun o ho=>?_,by rw [Nat.add_assoc];exact hacc,rfl⟩
    rw [Dt.dC (fun z:o=(Wd.beg wd)=>htr (z▸ho))]
    exact hgr o (by rw [hdr];exact List.mem_cons_of_mem _ ho)
  ·rintro σ G ⟨sG,g,kv,acc,v5,v6,v7,hdG,hwG,hgo,hgr,hacc,rfl⟩
   rw [List.length_map,List.drop_length,hults,List.drop_length] at hacc
   refine ⟨_,rfl,?_⟩
   have hacc:acc+0=_:=hacc
   rw [<- Nat.add_zero acc,hacc]
   exact q hin G sG
theorem Aj {α β:Type}{R S:α->β->Prop}{as:List α}{bs:List β}(h:Dt.R2 R as bs)(f:∀ a b,R a b->S a b):Dt.R2 S as bs:=h.mono fun a b _=>f a b
def rN (ts:List (List Nat))(p:List Nat)(us:List (List Nat)):Prop:=∀ w∈us,(Wd.beg w=p∨Wd.beg w∈ts)∧1<=w.length∧w.length<=1000
theorem rN.app {ts us vs:List (List Nat)}{p:List Nat}(h:rN ts p us)(g:rN ts p vs):rN ts p (us++vs):=fun w hw=>(List.mem_append.mp hw).elim (h w) (g w)
def zV (K:PySem.W.Frag):Sp:=fun vs H Q _=>∃ (L B C:Addr) (bs:List Addr) (pre:List (List (List Nat))) (ws lt ts:List (List Nat)) (p:List Nat),vs=[.ref L,.ref B,.ref C,T p,.int ((ts.length+1:Nat):Int)]∧SqL K H L (bs.map V.ref)∧Dt.R2 (fun us b=>H b=some (.lst (us.map T))) pre bs∧SqL K H B (ws.map T)∧SqL K H C (lt.map T) ∧
 (pre.length*ws.length<=10000000∧lt.length<=100∧∀ us∈pre,us.length<=100∧rN ts p us)∧rN ts p ws∧rN ts p lt∧ts.Nodup∧p∉ts ∧
 ∀ (D:Addr) (bs':List Addr) (H':Hp),H D=none->aM H H'->H' D=some (.lst (bs'.map V.ref))->Dt.R2 (fun us b=>H' b=some (.lst (us.map T))) (Dt.grL ts p pre ws lt) bs'->Q (.ref D) H'
open Classical in
theorem Dz {f:Addr}{fd:FuncData}(F:Fun K "grown" "grown" uS f fd)(tt:Txt K mg ad)(C_coming_to:Cal P w K mg base (CX1 P w) "coming_to" 2 ["words", "piece"] (xQ K)):cD P w K mg base (CX1 P w) 3 f fd ["begun", "words", "later", "piece", "size"] (zV K):=by
 refine F.okN jO (fun vs H Q E h=>?_) (fun cdv A outer s H vs Q E hr h=>?_)
 ·obtain ⟨L,B,C,bs,pre,ws,lt,ts,p,rfl,_⟩:=h
  rfl
 ·obtain ⟨L,B,C,bs,pre,ws,lt,ts,p,rfl,hL,hR,hB,hC,⟨hsz,hltl,hpre⟩,hws,hlt,htn,hp,q⟩:=h
  have hs:sizeLine=16777216:=sizeLine_eq
  have hbl:=hR.len
  refine ⟨_,(aB (aI (i:=5) jO.nd rfl (Or.inl rfl) (bK aD))
   (aB (cC PassesOwn.never rfl (bW (pv 0)) (bJ (i:=6) jO.nd rfl (Or.inl rfl)) (aG (cC PassesOwn.never rfl (bW (pv 1)) (bJ (i:=7) jO.nd rfl (Or.inl rfl)) (aB (aI (i:=8) jO.nd rfl (Or.inl rfl) (aL eV (pv 6) (bK (aA (pv 7) aD))))
   (aG (bT (aN cG (aQ kG (by rfl) tt.b_len PySem.boot_len (aA (aO C_coming_to hr aZ (aA (aL eV (pv 8) (pv 2)) (aA (pv 3) aD))) aD)) (pv 4) (aP _)) (aG (dG (kB PySem.F.plainAttrs_list PySem.F.slot_list_append PySem.F.type_list_append eM (pv 5) (aA (pv 8) aD)))) aW))))))
   (aG (bA (pv 5))))),?_⟩
  (try rw [dI]);(try rw [cxK1])
  refine ⟨(by show 0<=sizeLine;omega),fun D hD=>?_⟩
  have sD:=aF (o:=.lst []) hD
  refine ⟨_,rfl,L,rfl,⟨_,sD.seq hL⟩,?_⟩
  have hone:∀ us:List (List Nat),((ws.filter fun w=>decide (Dt.okP ts p (us++[w]++lt))).map fun w=>us++[w]).length<=ws.length:=fun us=>by rw [List.length_map];exact List.length_filter_le ..
  have hgl:∀ l:List (List (List Nat)),(Dt.grL ts p l ws lt).length<=l.length*ws.length:=fun l=>by
   induction l with
   | nil=>simp [Dt.grL]
   | cons x l ih =>
    unfold Dt.grL at ih ⊢
    rw [List.flatMap_cons,List.length_append,List.length_cons,Nat.add_mul,Nat.one_mul]
    exact Nat.le_trans (Nat.add_le_add (hone x) ih) (Nat.le_of_eq (Nat.add_comm _ _))
  refine cK (K:=K) (a:=L) (xs:=bs.map V.ref) (fun i σ G=>aM H G∧∃ (bs2:List Addr) (v6 v7 v8:Option V),G D=some (.lst (bs2.map V.ref))∧Dt.R2 (fun us b=>b≠D∧G b=some (.lst (us.map T))) (Dt.grL ts p (pre.take i) ws lt) bs2∧σ=[some (.ref L),some (.ref B),some (.ref C),some (T p),some (.int ((ts.length+1:Nat):Int)),some (.ref D),v6,v7,v8])
   ⟨sD,[],none,none,none,aC,by rw [List.take_zero];exact .nil,rfl⟩ (fun i σ G _ h=>h.1.seq hL) ?_ ?_
  ·rintro i y σ G hi ⟨sG,bs2,v6,v7,v8,hdG,hR2,rfl⟩
   obtain ⟨b,hbi,rfl⟩:∃ b,bs[i]?=some b∧V.ref b=y:=by rw [List.getElem?_map] at hi;exact Option.map_eq_some_iff.mp hi
   obtain ⟨us,hui,hbH⟩:=hR.get hbi
   have hil:=(List.getElem?_eq_some_iff.mp hui).1
   obtain ⟨hul,huf⟩:=hpre us (List.mem_of_getElem? hui)
   have htk:pre.take (i+1)=pre.take i++[us]:=by rw [List.take_add_one,hui];rfl
   have hgi:=hgl (pre.take i)
   have htl:(pre.take i).length=i:=by rw [List.length_take];omega
   have hb1:(Dt.grL ts p (pre.take i) ws lt).length+ws.length<=10000000:=by
    have h1:(i+1)*ws.length<=pre.length*ws.length:=Nat.mul_le_mul_right _ hil
    rw [Nat.add_mul,Nat.one_mul] at h1
    rw [htl] at hgi
    omega
   generalize hpr:Dt.grL ts p (pre.take i) ws lt=pr at hR2 hb1
   refine ⟨_,rfl,B,rfl,⟨_,sG.seq hB⟩,?_⟩
   refine cK (K:=K) (a:=B) (xs:=ws.map T) (fun j σ G2=>aM H G2∧∃ (bs3:List Addr) (v7 v8:Option V),G2 D=some (.lst (bs3.map V.ref))∧Dt.R2 (fun us b=>b≠D∧G2 b=some (.lst (us.map T))) (pr++((ws.take j).filter fun w=>decide (Dt.okP ts p (us++[w]++lt))).map fun w=>us++[w]) bs3∧σ=[some (.ref L),some (.ref B),some (.ref C),some (T p),some (.int ((ts.length+1:Nat):Int)),some (.ref D),some (.ref b),v7,v8])
    ⟨sG,bs2,v7,v8,hdG,by rw [List.take_zero];simpa using hR2,rfl⟩ (fun j σ G2 _ h=>h.1.seq hB) ?_ ?_
   ·rintro j y σ G2 hj ⟨sG2,bs3,v7,v8,hdG2,hR3,rfl⟩
    obtain ⟨wd,hwj,rfl⟩:∃ wd,ws[j]?=some wd∧T wd=y:=by rw [List.getElem?_map] at hj;exact Option.map_eq_some_iff.mp hj
    have hwf:=hws wd (List.mem_of_getElem? hwj)
    have htj:ws.take (j+1)=ws.take j++[wd]:=by rw [List.take_add_one,hwj];rfl
    have hb3:=hR3.len
    have hb4:bs3.length<16777216:=by
     rw [List.length_append,List.length_map] at hb3
     have h1:=List.length_filter_le (fun w=>decide (Dt.okP ts p (us++[w]++lt))) (ws.take j)
     rw [List.length_take] at h1
     omega
    refine ⟨_,rfl,_,rfl,(by show 1<=sizeLine;omega),fun e he=>?_⟩
    have te:=aF (o:=.lst [T wd]) he
    refine ⟨b,e,_,_,rfl,rfl,SqL.of (te b _ (sG2 b _ hbH)),SqL.of aC,(by rw [List.length_map];show _+1<=sizeLine;omega),fun m hm=>?_⟩
    have tm:=aF (o:=.lst (us.map T++[T wd])) hm
    have hmm:upd (upd G2 e (.lst [T wd])) m (.lst (us.map T++[T wd])) m=some (.lst ((us++[wd]).map T)):=by rw [aC,List.map_append];rfl
    have hmD:m≠D:=fun z=>by rw [z,te D _ hdG2] at hm;cases hm
    have hmn:G2 m=none:=eJ te hm
    have t2:=te.trans tm
    generalize upd (upd G2 e (.lst [T wd])) m (.lst (us.map T++[T wd]))=G3 at hmm t2
    refine ⟨_,rfl,_,rfl,m,C,_,_,rfl,rfl,SqL.of hmm,(sG2.trans t2).seq hC,(by rw [List.length_map,List.length_map,List.length_append];show _+1+_<=sizeLine;omega),fun c hc=>?_⟩
    have tc:=aF (o:=.lst ((us++[wd]).map T++lt.map T)) hc
    have hfr:rN ts p (us++[wd]++lt):=(huf.app fun w hw=>by rw [List.mem_singleton.mp hw];exact hwf).app hlt
    refine ⟨_,rfl,c,us++[wd]++lt,p,rfl,.inl (SqL.of (by rw [aC,<- List.map_append])),⟨by rw [List.length_append,List.length_append];show _+1+_<=1000;omega,fun x hx=>(hfr x hx).2⟩,fun D6 fs H6 hD6 s6 hd6 hfn hpf hcl hle=>?_⟩
    have key:=Dt.Di (us:=us++[wd]++lt) (ks:=fs) htn hp (fun w hw=>(hfr w hw).1) hfn hpf hcl hle
    refine ⟨D6,_,rfl,hd6,_,rfl,_,rfl,_,rfl,_,rfl,?_⟩
    rw [uX]
    have t26:=t2.trans (tc.trans s6)
    have hR4:=Aj hR3 (S:=fun us b=>b≠D∧H6 b=some (.lst (us.map T))) fun a' b' r=>⟨r.1,t26 b' _ r.2⟩
    by_cases hk:Dt.okP ts p (us++[wd]++lt)
    ·refine itP (decide_eq_true (by have:=key.mpr hk;omega)) ?_
     have hd7:=t26 D _ hdG2
     refine ⟨_,rfl,.inl ⟨rfl,_,SqL.of hd7⟩,_,rfl,D,_,_,rfl,rfl,hd7,(by rw [List.length_map];omega),?_⟩
     refine ⟨fun b' o' e'=>by rw [aH (aK e' hD)];exact t26 b' o' (sG2 b' o' e'),bs3++[m],some (T wd),some (.ref m),by rw [aC,List.map_append];rfl,?_,rfl⟩
     rw [htj,List.filter_append,List.filter_cons_of_pos (p:=fun w=>decide (Dt.okP ts p (us++[w]++lt))) (decide_eq_true hk),List.filter_nil,List.map_append,<- List.append_assoc]
     refine Dt.R2.snoc (Aj hR4 fun a' b' r=>⟨r.1,by rw [aH r.1];exact r.2⟩) ⟨hmD,?_⟩
     rw [aH hmD]
     exact (tc.trans s6) m _ hmm
    ·refine itN (fun z=>hk (key.mp (by have:=of_decide_eq_true z;omega))) ?_
     refine ⟨sG2.trans t26,bs3,some (T wd),some (.ref m),t26 D _ hdG2,?_,rfl⟩
     rw [htj,List.filter_append,List.filter_cons_of_neg (p:=fun w=>decide (Dt.okP ts p (us++[w]++lt))) (fun z=>hk (of_decide_eq_true z)),List.filter_nil,List.append_nil]
     exact hR4
   ·rintro σ G2 ⟨sG2,bs3,v7,v8,hdG2,hR3,rfl⟩
    rw [List.length_map,List.take_length] at hR3
    refine ⟨sG2,bs3,_,_,_,hdG2,?_,rfl⟩
    rw [htk]
    unfold Dt.grL at hpr ⊢
    rw [List.flatMap_append,hpr,List.flatMap_cons,List.flatMap_nil,List.append_nil]
    exact hR3
  ·rintro σ G ⟨sG,bs2,v6,v7,v8,hdG,hR2,rfl⟩
   rw [List.length_map,<- hbl,List.take_length] at hR2
   exact ⟨_,rfl,q D bs2 G hD sG hdG (Aj hR2 fun a' b' r=>r.2)⟩
def oP (K:PySem.W.Frag)(C:Addr)(ad:Adr):Sp:=fun vs H Q E=>∃ (x tp:Addr) (n:Nat) (ms:List (List Nat)) (p:List Nat),vs=[.ref x,T p]∧fN C H x tp n ms∧fP ms n∧(¬ IsP ms p->∀ H',aM H H'->E (.ref ad.NoSuch) none H') ∧
 (IsP ms p->∀ ts:List (List Nat),jC ms p ts->(500<Dt.nC ts (bE ms)->∀ H',aM H H'->E (.ref ad.TooMany) none H')∧(Dt.nC ts (bE ms)<=500->(∀ i,(Dt.gL (bE ms) (ts.take i)).length<=100000)∧∀ (D:Addr) (bs:List Addr) (H':Hp),aM H H'->SqL K H' D (bs.map V.ref)->Dt.R2 (fun us b=>H' b=some (.lst (us.map T))) (Dt.trs ts ts (bE ms)) bs->Q (.ref D) H'))
theorem Hd {f:Addr}{fd:FuncData}(F:Fun K "trees" "trees" oK f fd)(tt:Txt K mg ad)(C_ways_toward:Cal P w K mg base (CX1 P w) "ways_toward" 3 ["web", "piece"] (kC ad.Web ad))(C_choices_counted:Cal P w K mg base (CX1 P w) "choices_counted" 4 ["ways"] (iD K))(C_begin_of:Cal P w K mg base (CX1 P w) "begin_of" 1 ["word"] jA)(C_grown:Cal P w K mg base (CX1 P w) "grown" 3 ["begun", "words", "later", "piece", "size"] (zV K)) :
  cD P w K mg base (CX1 P w) 5 f fd ["web", "piece"] (oP K ad.Web ad):=by
 refine F.okX iA (fun vs H Q E h=>?_) (fun cdv A outer s H vs Q E hr h=>?_)
 ·obtain ⟨x,tp,n,ms,p,rfl,_⟩:=h
  rfl
 ·obtain ⟨x,tp,n,ms,p,rfl,hW,hok,xn,q⟩:=h
  have hs:sizeLine=16777216:=sizeLine_eq
  obtain ⟨hne,h64,⟨hn,hfew⟩,hxs,hnd⟩:=id hok
  obtain ⟨⟨dx,hx⟩,htp⟩:=id hW
  refine ⟨_,(aB (aI (i:=2) iA.nd rfl (Or.inl rfl) (aO C_ways_toward hr jJ (aA (pv 0) (aA (pv 1) aD))))
   (aB (bT (aN jI (aO C_choices_counted hr aZ (aA (pv 2) aD)) (dA (by rfl) tt.g_MOST_TREES tt.r_MOST_TREES) (aP _)) (aG (dP (E:=fun cls H'=>E cls none H') tt.x_TooMany rfl (fun _ _ _ _ _ _ _ I hx q=>fU I hx q) (aA (aS [116,104,101,114,101,32,97,114,101,32,109,111,114,101,32,116,104,97,110,32,53,48,48,32,116,114,101,101,115,32,116,111,119,97,114,100,32,116,104,101,32,112,105,101,99,101] (by decide +kernel)) aD))) aW)
   (aB (aI (i:=3) iA.nd rfl (Or.inl rfl) (bK (aA (bK aD) aD)))
   (aB (cC PassesOwn.leaving rfl (bW (dR (iL rfl) (by rfl) tt.b_list (by decide +kernel) (aA (pv 2) aD))) (bJ (i:=4) iA.nd rfl (Or.inr rfl)) (aB (nK (i:=5) yT rfl (tU (qC (pv 0) rfl)) (fun cl C s' H' fp=>(aN Jh (aO C_begin_of hr aZ (aA (pv 0) aD)) (pv 5) (aP _))) (fun cl C s' H' fp=>(pv 0)) iA.nd rfl rfl)
   (aG (aI (i:=3) iA.nd rfl (Or.inl rfl) (aO C_grown hr aZ (aA (pv 3) (aA (Ak (jH hr) (pv 2) (pv 4) (fun _ _=>rfl)) (aA (pv 5) (aA (pv 1) (aA (aL cQ (aQ kG (by rfl) tt.b_len PySem.boot_len (aA (pv 2) aD)) aE) aD))))))))))
   (aG (bA (pv 3))))))),?_⟩
  (try rw [dI]);(try rw [cxK1])
  refine ⟨_,rfl,_,rfl,x,tp,n,ms,p,rfl,hW,hok,xn,fun hip D ps kvs H1 hD s1 hd1 hwa hps62 hpw hpn hpm=>?_⟩
  have hts:=nR (p:=p) hpw hpn hpm
  have htl:(ps.filter fun o=>decide (o≠p)).length<=62:=Nat.le_trans (List.length_filter_le ..) hps62
  generalize (ps.filter fun o=>decide (o≠p))=ts at hwa hts htl
  obtain ⟨xk,q⟩:=q hip ts hts
  have htn:=hts.nd
  have hcc:∀ g,GOk ms ts g->(ts.length<=64∧∀ o∈ts,(g o).length<=200∧∀ y∈g o,1<=y.length∧y.length<=1000)∧pV (eD ts g) ts.length∧2*Dt.pL ((eD ts g).map (Dt.rs ts.length))<Dt.md 7:=fun g hg=>⟨⟨by omega,fun o ho=>⟨by have:=(hg o ho).1;omega,fun y hy=>by have:=(hxs y ((hg o ho).2 y hy)).1;omega⟩⟩,mG (by omega) fun o ho=>(hg o ho).1⟩
  have hg0:GOk ms ts (bE ms):=GOk.out (by omega)
  obtain ⟨c1,c2,c3⟩:=hcc _ hg0
  refine ⟨_,rfl,D,ts,kvs,bE ms,rfl,hd1,hwa,c1,c2,c3,fun G1 s2=>?_⟩
  rw [gK htn]
  refine ⟨_,_,rfl,rfl,_,rfl,?_⟩
  by_cases hk1:500<Dt.nC ts (bE ms)
  ·refine itP (decide_eq_true (by omega)) ?_
   exact ⟨(by show 1<=sizeLine;omega),xk hk1 G1 (s1.trans s2)⟩
  refine itN (fun z=>hk1 (by have:=of_decide_eq_true z;omega)) ?_
  obtain ⟨hfew2,q⟩:=q (by omega)
  have hpc:∀ w∈ms,(Wd.beg w=p∨Wd.beg w∈ts)∧(Wd.fin w=p∨Wd.fin w∈ts):=fun w hw=>by
   refine ⟨?_,?_⟩
   ·by_cases e:Wd.beg w=p
    ·exact .inl e
    ·exact .inr ((hts.2 _).mpr ⟨⟨w,hw,.inl rfl⟩,e⟩)
   ·by_cases e:Wd.fin w=p
    ·exact .inl e
    ·exact .inr ((hts.2 _).mpr ⟨⟨w,hw,.inr rfl⟩,e⟩)
  have hfrom:∀ us:List (List Nat),(∀ w∈us,w∈ms)->rN ts p us:=fun us h w hw=>⟨(hpc w (h w hw)).1,by have:=(hxs w (h w hw)).1;omega⟩
  have hdG:=s2 D _ hd1
  have hwG:=hwa.mono s2
  refine ⟨(by show 0<=sizeLine;omega),fun e0 he0=>?_⟩
  have t0:=aF (o:=.lst []) he0
  refine ⟨(by show 1<=sizeLine;omega),fun b0 hb0=>?_⟩
  have t1:=aF (o:=.lst [V.ref e0]) hb0
  refine ⟨_,rfl,D,ts,kvs,rfl,t1 D _ (t0 D _ hdG),hwa.keys,fun L hL=>?_⟩
  have tL:=aF (o:=.lst (ts.map T)) hL
  refine ⟨L,rfl,⟨_,SqL.of aC⟩,?_⟩
  have t02:=t0.trans (t1.trans tL)
  have sL:=s1.trans (s2.trans t02)
  refine cK (K:=K) (a:=L) (xs:=ts.map T) (fun i σ G=>aM G1 G∧G L=some (.lst (ts.map T))∧∃ (Bg:Addr) (bs:List Addr) (Ls:List (List (List Nat))) (v4 v5:Option V),SqL K G Bg (bs.map V.ref)∧Dt.R2 (fun us b=>G b=some (.lst (us.map T))) Ls bs∧Dt.Stg ms ts p i Ls∧σ=[some (.ref x),some (T p),some (.ref D),some (.ref Bg),v4,v5])
   ⟨t02,aC,b0,[e0],[[]],none,none,SqL.of (tL b0 _ aC),.cons (by rw [tL e0 _ (t1 e0 _ aC)];rfl) .nil,Dt.Stg.zero,rfl⟩ (fun i σ G _ h=>SqL.of h.2.1) ?_ ?_
  ·rintro i y σ G hi ⟨sG,hLG,Bg,bs,Ls,v4,v5,hBg,hRL,hst,rfl⟩
   obtain ⟨t,hti,rfl⟩:∃ t,ts[i]?=some t∧T t=y:=by rw [List.getElem?_map] at hi;exact Option.map_eq_some_iff.mp hi
   have htm:=List.mem_of_getElem? hti
   have s1G:=s1.trans (s2.trans sG)
   refine ⟨_,rfl,x,ad.Web,dx,_,_,rfl,s1G x _ hx,tt.cl_Web,tt.na_Web_words,qL _ _,tp,rfl,⟨_,SqT.of (s1G tp _ htp)⟩,?_⟩
   refine xW (fun v=>decide (t<beg (unT v))) (fun v=>v) (iE (SqT.of (s1G tp _ htp))) (by rw [List.length_map];omega) (fun v G5 hv s5 N hN=>?_) (fun v G5 hv hp s5 N hN=>?_) fun D5 G5 hD5 s5 hd5=>?_
   ·obtain ⟨l,hl,rfl⟩:=List.mem_map.mp hv
    have hll:=(hxs l hl).1
    have z:=hN G5 (aM.refl _)
    rw [eF] at z
    exact ⟨_,rfl,l,rfl,⟨by omega,by omega⟩,_,rfl,_,rfl,_,rfl,_,rfl,z⟩
   ·exact ⟨_,rfl,hN G5 (aM.refl _)⟩
   rw [show (ms.map T).filter (fun v=>decide (t<beg (unT v)))=(ms.filter fun l=>decide (t<beg l)).map T from iH (p:=fun l=>decide (t<beg l)) ms,List.map_id'] at hd5
   have hwG5:=(hwG.mono sG).mono s5
   obtain ⟨b,hb1,hb2⟩:=hwG5.get htm
   have hlsl:∀ us∈Ls,us.length<=100∧rN ts p us:=fun us hu=>by
    unfold Dt.Stg at hst
    rw [hst] at hu
    obtain ⟨h1,h2⟩:=Dt.lT (g:=Dt.og ms) (fun t _ w hw=>(Dt.jR.mp hw).2) (List.mem_filter.mp hu).1
    refine ⟨?_,hfrom us fun w hw=>(Dt.jR.mp (h2 w hw)).1⟩
    have:=congrArg List.length h1
    rw [List.length_map,List.length_take] at this
    omega
   refine ⟨_,rfl,_,rfl,_,rfl,D,_,rfl,(by have z:=lQ.k (k:=Sum.inr (tx t)) (s5 D _ (sG D _ hdG));rw [hb1] at z;exact z),_,rfl,_,rfl,_,rfl,D,_,rfl,s5 D _ (sG D _ hdG),_,_,rfl,rfl,?_⟩
   refine ⟨Bg,b,D5,bs,Ls,bE ms t,ms.filter fun l=>decide (t<beg l),ts,p,?_,s5.seq hBg,Aj hRL fun us b' r=>s5 b' _ r,SqL.of hb2,SqL.of hd5,⟨?_,Nat.le_trans (List.length_filter_le ..) (by omega),hlsl⟩,hfrom _ fun w hw=>(kD hw).1,hfrom _ fun w hw=>(List.mem_filter.mp hw).1,htn,hts.no,fun D7 bs' H7 hD7 s7 hd7 hR7=>?_⟩
   ·rw [hwa.len,Int.natCast_add]
    rfl
   ·have h1:Ls.length<=100000:=Nat.le_trans hst.len (hfew2 i)
    have h2:(bE ms t).length<=63:=Nat.le_trans (List.length_filter_le ..) (by omega)
    exact Nat.le_trans (Nat.mul_le_mul h1 h2) (by decide)
   ·have s57:=s5.trans s7
    exact ⟨sG.trans s57,s57 L _ hLG,D7,bs',_,_,_,SqL.of hd7,hR7,hst.next hts.1 hti,rfl⟩
  ·rintro σ G ⟨sG,hLG,Bg,bs,Ls,v4,v5,hBg,hRL,hst,rfl⟩
   rw [List.length_map] at hst
   have e:=hst.last hts.1 hts.no hpc
   rw [e] at hRL
   exact ⟨_,rfl,q Bg bs G (s1.trans (s2.trans sG)) hBg hRL⟩
def Cc (ad:Adr)(H:Hp)(a:Addr)(nm:List Nat):Prop:=(H a=some (kZ a (.ref ad.NoSuch))∧nm=[115,117,99,104])∨(H a=some (kZ a (.ref ad.NotOne))∧nm=[111,110,101])∨(H a=some (kZ a (.ref ad.TooMany))∧nm=[109,97,110,121])
theorem sJ {ad:Adr}{H:Hp}{a:Addr}(h:H a=some (kZ a (.ref ad.NoSuch))):Cc ad H a [115,117,99,104]:=.inl ⟨h,rfl⟩
theorem Pp {ad:Adr}{H:Hp}{a:Addr}(h:H a=some (kZ a (.ref ad.NotOne))):Cc ad H a [111,110,101]:=.inr (.inl ⟨h,rfl⟩)
theorem Od {ad:Adr}{H:Hp}{a:Addr}(h:H a=some (kZ a (.ref ad.TooMany))):Cc ad H a [109,97,110,121]:=.inr (.inr ⟨h,rfl⟩)
def Rm (K:PySem.W.Frag)(ad:Adr)(H:Hp)(a:Addr)(nm:List Nat):Prop:=∃ (C:Addr) (b0 b1 b2:Bool) (j:Nat),H a=some (kZ a (.ref C))∧Knd K C∧PySem.W.kitOne K (.ref C) (.ref ad.NoSuch)=some b0∧PySem.W.kitOne K (.ref C) (.ref ad.NotOne)=some b1∧PySem.W.kitOne K (.ref C) (.ref ad.TooMany)=some b2 ∧
 ([V.bl b0,.bl b1,.bl b2].countP fun y=>eqV y (.bl true))=1∧[V.bl b0,.bl b1,.bl b2][j]?=some (.bl true)∧(∀ i z,i<j->[V.bl b0,.bl b1,.bl b2][i]?=some z->eqV z (.bl true)=false)∧[T [115,117,99,104],T [111,110,101],T [109,97,110,121]][j]?=some (T nm)
theorem Cc.one {H:Hp}{a:Addr}{nm:List Nat}(tt:Txt K mg ad)(h:Cc ad H a nm):Rm K ad H a nm:=by
 rcases h with ⟨ha,rfl⟩ | ⟨ha,rfl⟩ | ⟨ha,rfl⟩
 ·exact ⟨_,_,_,_,0,ha,tt.n_NoSuch,tt.q_ss,tt.q_sn,tt.q_sm,rfl,rfl,fun i z hi=>absurd hi (Nat.not_lt_zero i),rfl⟩
 ·refine ⟨_,_,_,_,1,ha,tt.n_NotOne,tt.q_ns,tt.q_nn,tt.q_nm,rfl,rfl,fun i z hi hz=>?_,rfl⟩
  match i,hi with
  | 0,_=>cases hz;rfl
 ·refine ⟨_,_,_,_,2,ha,tt.n_TooMany,tt.q_ms,tt.q_mn,tt.q_mm,rfl,rfl,fun i z hi hz=>?_,rfl⟩
  match i,hi with
  | 0,_=>cases hz;rfl
  | 1,_=>cases hz;rfl
def Hv (K:PySem.W.Frag)(H:Hp)(v:V)(a:Addr)(us:List (List Nat)):Prop:=v = .ref a∧SqA K H a (us.map T)∧us.length<=1000∧∀ y∈us,1<=y.length∧y.length<=1000
def Px (K:PySem.W.Frag)(H:Hp)(way:Nat)(v:V):Prop:=way=0∨way=2∨(way=3∧∃ k:Int,v = .int k)∨((way=1∨way=4)∧∃ a us,Hv K H v a us)
def Qj (K:PySem.W.Frag)(H:Hp)(ms:List (List Nat))(p:List Nat)(way:Nat)(v:V)(r:List Nat):Prop:=(¬ IsP ms p∧Px K H way v∧r=[115,117,99,104])∨(IsP ms p∧∃ ts,jC ms p ts ∧
 ((way=2∧((500<Dt.nC ts (bE ms)∧r=[109,97,110,121])∨(Dt.nC ts (bE ms)<=500∧(∀ i,(Dt.gL (bE ms) (ts.take i)).length<=100000)∧r=[]))) ∨
 (way=3∧∃ k:Int,v = .int k∧((¬ (0<=k∧k<((Dt.nC ts (bE ms):Nat):Int))∧r=[115,117,99,104])∨((0<=k∧k<((Dt.nC ts (bE ms):Nat):Int))∧r=[]))) ∨
 (way=4∧∃ a us,Hv K H v a us∧((us∉Dt.trs ts ts (bE ms)∧r=[111,110,101])∨(us∈Dt.trs ts ts (bE ms)∧r=[])))))
def pG (K:PySem.W.Frag)(C:Addr):Sp:=fun vs H Q _=>∃ (way:Nat) (x tp:Addr) (n:Nat) (ms:List (List Nat)) (p:List Nat) (v:V) (r:List Nat),vs=[.int (way:Nat),.ref x,T p,v]∧fN C H x tp n ms∧fP ms n∧Qj K H ms p way v r∧∀ H',aM H H'->Q (T r) H'
theorem uO {f:Addr}{fd:FuncData}(F:Fun K "_law_word" "_law_word" jT f fd)(tt:Txt K mg ad)(C_tree_count:Cal P w K mg base (CX1 P w) "tree_count" 5 ["web", "piece"] (qU ad.Web ad))(C_is_tree:Cal P w K mg base (CX1 P w) "is_tree" 4 ["web", "piece", "tree"] (qS K ad.Web ad))(C_trees:Cal P w K mg base (CX1 P w) "trees" 5 ["web", "piece"] (oP K ad.Web ad))
  (C_tree_by:Cal P w K mg base (CX1 P w) "tree_by" 5 ["web", "piece", "number"] (qY ad.Web ad)) (C_tree_number:Cal P w K mg base (CX1 P w) "tree_number" 5 ["web", "piece", "tree"] (Al K ad.Web ad)):cD P w K mg base (CX1 P w) 6 f fd ["way", "web", "piece", "more"] (pG K ad.Web):=by
 refine F.okX eQ (fun vs H Q E h=>?_) (fun cdv A outer s H vs Q E hr h=>?_)
 ·obtain ⟨way,x,tp,n,ms,p,v,r,rfl,_⟩:=h
  rfl
 ·obtain ⟨way,x,tp,n,ms,p,v,r,rfl,hW,hok,ho,q⟩:=h
  have hs:sizeLine=16777216:=sizeLine_eq
  refine ⟨_,(aB (aI (i:=4) eQ.nd rfl (Or.inl rfl) (aS [] (by decide +kernel)))
   (aB (Lk Mz (Bc (aN cG (pv 0) aE (aP _)) (lY C_tree_count hr (aA (pv 1) (aA (pv 2) aD))) (Bc (aN cG (pv 0) aE (aP _)) (lY C_is_tree hr (aA (pv 1) (aA (pv 2) (aA (pv 3) aD)))) (Bc (aN cG (pv 0) aE (aP _)) (lY C_trees hr (aA (pv 1) (aA (pv 2) aD))) (Bc (aN cG (pv 0) aE (aP _)) (lY C_tree_by hr (aA (pv 1) (aA (pv 2) (aA (pv 3) aD)))) (lY C_tree_number hr (aA (pv 1) (aA (pv 2) (aA (pv 3) aD)))))))) (Ny (i:=5) tt.m_OnceError eQ.nd rfl rfl (fun a=>(Lm (t':=(fun D σ H=>∃ (a:Addr) (nm:List Nat) (s0 s1 s2 s3 s4 s6:Option V),σ=[s0,s1,s2,s3,s4,some (.ref a),s6]∧Cc ad H a nm∧∀ (H':Hp) (p:Addr),aM H H'->D.nx [s0,s1,s2,s3,some (T nm),some (.ref a),some (.ref p)] H')) (aB (aI (i:=6) eQ.nd rfl (Or.inl rfl) (bK (aA (aQ jF (by rfl) tt.b_isinstance PyProof.Rows.boot_isinstance (aA (pv 5) (aA (dA (v:=.ref ad.NoSuch) (by rfl) tt.m_NoSuch rfl) aD))) (aA (aQ jF (by rfl) tt.b_isinstance PyProof.Rows.boot_isinstance (aA (pv 5) (aA (dA (v:=.ref ad.NotOne) (by rfl) tt.m_NotOne rfl) aD))) (aA (aQ jF (by rfl) tt.b_isinstance PyProof.Rows.boot_isinstance (aA (pv 5) (aA (dA (v:=.ref ad.TooMany) (by rfl) tt.m_TooMany rfl) aD))) aD)))))
   (aG (bT (aN cG (uT K rfl PySem.F.plainAttrs_list PySem.F.slot_list_count PySem.F.type_list_count (mM K rfl) (pv 6) (aA hU aD)) aE (aP _)) (aG (aI (i:=4) eQ.nd rfl (Or.inl rfl) (cO (tI K rfl) (bK (aA (aS [115,117,99,104] (by decide +kernel)) (aA (aS [111,110,101] (by decide +kernel)) (aA (aS [109,97,110,121] (by decide +kernel)) aD)))) (uT K rfl PySem.F.plainAttrs_list PySem.F.slot_list_index PySem.F.type_list_index (Dm K rfl) (pv 6) (aA hU aD)) (fun _ _=>rfl)))) aW))) ?rh)) Ku))
   (aG (bA (pv 4))))),?_⟩
  (try rw [dI]);(try rw [cxK1])
  case rh =>
   rintro D σ H1 ⟨a,nm,s0,s1,s2,s3,s4,s6,rfl,hC,hD⟩
   obtain ⟨C,b0,b1,b2,j,ha,hn,k0,k1,k2,hc,hj,hno,hnm⟩:=hC.one tt
   refine ⟨_,rfl,a,C,.ref ad.NoSuch,_,b0,rfl,rfl,ha,hn,k0,_,rfl,a,C,.ref ad.NotOne,_,b1,rfl,rfl,ha,hn,k1,_,rfl,a,C,.ref ad.TooMany,_,b2,rfl,rfl,ha,hn,k2,(by show 3<=sizeLine;omega),fun p hp=>?_⟩
   have g1:=aF (o:=.lst [.bl b0,.bl b1,.bl b2]) hp
   refine ⟨_,rfl,.inl ⟨rfl,_,SqL.of aC⟩,p,[.bl b0,.bl b1,.bl b2],_,rfl,rfl,SqL.of aC,rfl,rfl,_,rfl,_,rfl,_,rfl,?_⟩
   refine eP (fun _=>?_) (fun z=>absurd (decide_eq_true (congrArg Nat.cast hc)) z)
   refine ⟨(by show 3<=sizeLine;omega),fun p2 hp2=>?_⟩
   have g2:=aF (o:=.lst [T [115,117,99,104],T [111,110,101],T [109,97,110,121]]) hp2
   have h1p:=g2 p _ aC
   refine ⟨_,rfl,.inl ⟨rfl,_,SqL.of h1p⟩,p,_,_,.bl true,j,rfl,rfl,SqL.of h1p,rfl,rfl,hj,rfl,hno,p2,_,_,T nm,rfl,rfl,SqL.of aC,bS (j:=j) hnm,?_⟩
   exact hD _ p (g1.trans g2)
  have nosuch:¬ IsP ms p->r=[115,117,99,104]:=fun hn=>by
   rcases ho with ⟨_,_,e⟩ | ⟨h,_⟩
   ·exact e
   ·exact absurd h hn
  refine ⟨_,rfl,_,rfl,_,rfl,_,rfl,?_⟩
  refine eP (fun h0=>?w0) (fun h0=>?_)
  rotate_left
  refine ⟨_,rfl,_,rfl,_,rfl,_,rfl,?_⟩
  refine eP (fun h1=>?w1) (fun h1=>?_)
  rotate_left
  refine ⟨_,rfl,_,rfl,_,rfl,_,rfl,?_⟩
  refine eP (fun h2=>?w2) (fun h2=>?_)
  rotate_left
  refine ⟨_,rfl,_,rfl,_,rfl,_,rfl,?_⟩
  refine eP (fun h3=>?w3) (fun h3=>?w4)
  case w0 =>
   obtain rfl:way=0:=by have:=of_decide_eq_true h0;omega
   have hnp:¬ IsP ms p:=by
    rcases ho with ⟨h,_⟩ | ⟨_,_,_,⟨h,_⟩ | ⟨h,_⟩ | ⟨h,_⟩⟩
    ·exact h
    all_goals omega
   obtain rfl:=nosuch hnp
   refine ⟨_,rfl,_,rfl,x,tp,n,ms,p,rfl,hW,hok,fun _ H' s'=>?ka,fun hip=>absurd hip hnp⟩
   exact .inl ⟨tt.q_so,fun a9 ha=>⟨a9,_,_,_,_,_,_,_,rfl,sJ aC,fun H9 p9 s9=>⟨_,rfl,q H9 (s'.trans ((aF ha).trans s9))⟩⟩⟩
  case w1 =>
   obtain rfl:way=1:=by have:=of_decide_eq_true h1;omega
   have hnp:¬ IsP ms p∧∃ a us,Hv K H v a us:=by
    rcases ho with ⟨h,ha,_⟩ | ⟨_,_,_,⟨h,_⟩ | ⟨h,_⟩ | ⟨h,_⟩⟩
    ·refine ⟨h,?_⟩
     rcases ha with z | z | ⟨z,_⟩ | ⟨_,z⟩
     ·omega
     ·omega
     ·omega
     ·exact z
    all_goals omega
   obtain ⟨hnp,a,us,rfl,hA,hul,hux⟩:=hnp
   obtain rfl:=nosuch hnp
   refine ⟨_,rfl,_,rfl,_,rfl,x,tp,n,ms,p,a,us,rfl,hW,hok,hA,⟨hul,hux⟩,fun _ H' s'=>?kb,fun hip=>absurd hip hnp⟩
   exact .inl ⟨tt.q_so,fun a9 ha=>⟨a9,_,_,_,_,_,_,_,rfl,sJ aC,fun H9 p9 s9=>⟨_,rfl,q H9 (s'.trans ((aF ha).trans s9))⟩⟩⟩
  case w2 =>
   obtain rfl:way=2:=by have:=of_decide_eq_true h2;omega
   refine ⟨_,rfl,_,rfl,x,tp,n,ms,p,rfl,hW,hok,fun hnp H' s'=>?kc,fun hip ts hts=>?kd⟩
   case kc =>
    obtain rfl:=nosuch hnp
    exact .inl ⟨tt.q_so,fun a9 ha=>⟨a9,_,_,_,_,_,_,_,rfl,sJ aC,fun H9 p9 s9=>⟨_,rfl,q H9 (s'.trans ((aF ha).trans s9))⟩⟩⟩
   case kd =>
    obtain ⟨ts2,hts2,hc⟩:∃ ts2,jC ms p ts2∧((500<Dt.nC ts2 (bE ms)∧r=[109,97,110,121])∨(Dt.nC ts2 (bE ms)<=500∧(∀ i,(Dt.gL (bE ms) (ts2.take i)).length<=100000)∧r=[])):=by
     rcases ho with ⟨h,_⟩ | ⟨_,ts2,hts2,⟨_,h⟩ | ⟨h,_⟩ | ⟨h,_⟩⟩
     ·exact absurd hip h
     ·exact ⟨ts2,hts2,h⟩
     all_goals omega
    obtain rfl:=hts.uniq hts2
    refine ⟨fun hm H' s'=>?ke,fun hm=>?kf⟩
    case ke =>
     obtain rfl:r=[109,97,110,121]:=by
      rcases hc with ⟨_,e⟩ | ⟨h,_⟩
      ·exact e
      ·omega
     exact .inl ⟨tt.q_mo,fun a9 ha=>⟨a9,_,_,_,_,_,_,_,rfl,Od aC,fun H9 p9 s9=>⟨_,rfl,q H9 (s'.trans ((aF ha).trans s9))⟩⟩⟩
    case kf =>
     obtain ⟨hal,rfl⟩:(∀ i,(Dt.gL (bE ms) (ts2.take i)).length<=100000)∧r=[]:=by
      rcases hc with ⟨h,_⟩ | ⟨_,h⟩
      ·omega
      ·exact h
     exact ⟨hal,fun D bs H' s' _ _=>⟨_,rfl,q H' s'⟩⟩
  case w3 =>
   obtain rfl:way=3:=by have:=of_decide_eq_true h3;omega
   obtain ⟨k,rfl⟩:∃ k:Int,v = .int k:=by
    rcases ho with ⟨_,ha,_⟩ | ⟨_,ts2,hts2,⟨h,_⟩ | ⟨_,k,e,_⟩ | ⟨h,_⟩⟩
    ·rcases ha with z | z | ⟨_,z⟩ | ⟨z,_⟩
     ·omega
     ·omega
     ·exact z
     ·omega
    ·omega
    ·exact ⟨k,e⟩
    ·omega
   refine ⟨_,rfl,_,rfl,_,rfl,x,tp,n,ms,p,k,rfl,hW,hok,fun hnp H' s'=>?kg,fun hip ts hts=>?kh⟩
   case kg =>
    obtain rfl:=nosuch hnp
    exact .inl ⟨tt.q_so,fun a9 ha=>⟨a9,_,_,_,_,_,_,_,rfl,sJ aC,fun H9 p9 s9=>⟨_,rfl,q H9 (s'.trans ((aF ha).trans s9))⟩⟩⟩
   case kh =>
    obtain ⟨ts2,hts2,hc⟩:∃ ts2,jC ms p ts2∧((¬ (0<=k∧k<((Dt.nC ts2 (bE ms):Nat):Int))∧r=[115,117,99,104])∨((0<=k∧k<((Dt.nC ts2 (bE ms):Nat):Int))∧r=[])):=by
     rcases ho with ⟨h,_⟩ | ⟨_,ts2,hts2,⟨h,_⟩ | ⟨_,k',e,h⟩ | ⟨h,_⟩⟩
     ·exact absurd hip h
     ·omega
     ·cases e;exact ⟨ts2,hts2,h⟩
     ·omega
    obtain rfl:=hts.uniq hts2
    refine ⟨fun hm H' s'=>?ki,fun j us e hus D H' hD s' hd=>?kj⟩
    case ki =>
     obtain rfl:r=[115,117,99,104]:=by
      rcases hc with ⟨_,e⟩ | ⟨h,_⟩
      ·exact e
      ·exact absurd h hm
     exact .inl ⟨tt.q_so,fun a9 ha=>⟨a9,_,_,_,_,_,_,_,rfl,sJ aC,fun H9 p9 s9=>⟨_,rfl,q H9 (s'.trans ((aF ha).trans s9))⟩⟩⟩
    case kj =>
     obtain rfl:r=[]:=by
      rcases hc with ⟨h,_⟩ | ⟨_,e⟩
      ·refine absurd ⟨by omega,?_⟩ h
       have h1:=(List.getElem?_eq_some_iff.mp hus).1
       rw [Dt.iZ hts2.nd (fun t h=>h) kK] at h1
       omega
      ·exact e
     exact ⟨_,rfl,q H' s'⟩
  case w4 =>
   have hw4:way=4:=by
    have g0:¬ (way:Int)=0:=fun z=>h0 (decide_eq_true z)
    have g1:¬ (way:Int)=1:=fun z=>h1 (decide_eq_true z)
    have g2:¬ (way:Int)=2:=fun z=>h2 (decide_eq_true z)
    have g3:¬ (way:Int)=3:=fun z=>h3 (decide_eq_true z)
    rcases ho with ⟨_,ha,_⟩ | ⟨_,ts2,hts2,⟨h,_⟩ | ⟨h,_⟩ | ⟨h,_⟩⟩
    ·rcases ha with z | z | ⟨z,_⟩ | ⟨z,_⟩ <;> omega
    all_goals omega
   subst hw4
   rcases ho with ⟨hnp,ha,rfl⟩ | ⟨hip,ts2,hts2,⟨h,_⟩ | ⟨h,_⟩ | ⟨_,a,us,⟨rfl,hA,hul,hux⟩,hc⟩⟩
   ·obtain ⟨a,us,rfl,hA,hul,hux⟩:∃ a us,Hv K H v a us:=by
     rcases ha with z | z | ⟨z,_⟩ | ⟨_,z⟩
     ·omega
     ·omega
     ·omega
     ·exact z
    refine ⟨_,rfl,_,rfl,_,rfl,x,tp,n,ms,p,a,us,rfl,hW,hok,hA,⟨hul,hux⟩,fun _ H' s'=>?kk,fun hip=>absurd hip hnp⟩
    exact .inl ⟨tt.q_so,fun a9 ha=>⟨a9,_,_,_,_,_,_,_,rfl,sJ aC,fun H9 p9 s9=>⟨_,rfl,q H9 (s'.trans ((aF ha).trans s9))⟩⟩⟩
   ·omega
   ·omega
   ·refine ⟨_,rfl,_,rfl,_,rfl,x,tp,n,ms,p,a,us,rfl,hW,hok,hA,⟨hul,hux⟩,fun z=>absurd hip z,fun _ ts hts=>?kl⟩
    obtain rfl:=hts.uniq hts2
    refine ⟨fun hm H' s'=>?km,fun hm H' s'=>?kn⟩
    case km =>
     obtain rfl:r=[111,110,101]:=by
      rcases hc with ⟨_,e⟩ | ⟨h,_⟩
      ·exact e
      ·exact absurd h hm
     exact .inl ⟨tt.q_no,fun a9 ha=>⟨a9,_,_,_,_,_,_,_,rfl,Pp aC,fun H9 p9 s9=>⟨_,rfl,q H9 (s'.trans ((aF ha).trans s9))⟩⟩⟩
    case kn =>
     obtain rfl:r=[]:=by
      rcases hc with ⟨h,_⟩ | ⟨_,e⟩
      ·exact absurd hm h
      ·exact e
     exact ⟨_,rfl,q H' s'⟩
def Gg (C:Addr):Sp:=fun vs H Q _=>∃ (x tp:Addr) (n:Nat) (ms:List (List Nat)) (p:List Nat),vs=[.ref x,T p]∧fN C H x tp n ms∧fP ms n∧¬ IsP ms p∧∀ H',aM H H'->Q (.bl true) H'
theorem iK {f:Addr}{fd:FuncData}(F:Fun K "_law_pieces_refused" "_law_pieces_refused" dS f fd)(tt:Txt K mg ad)(C__law_word:Cal P w K mg base (CX1 P w) "_law_word" 6 ["way", "web", "piece", "more"] (pG K ad.Web)):cD P w K mg base (CX1 P w) 7 f fd ["web", "piece"] (Gg ad.Web):=by
 refine F.okN dH (fun vs H Q E h=>?_) (fun cdv A outer s H vs Q E hr h=>?_)
 ·obtain ⟨x,tp,n,ms,p,rfl,_⟩:=h
  rfl
 ·obtain ⟨x,tp,n,ms,p,rfl,hW,hok,hnp,q⟩:=h
  have hs:sizeLine=16777216:=sizeLine_eq
  refine ⟨_,(aB (cC PassesOwn.never rfl (iB (by rfl) tt.b_range (aA aE aD)) (bJ (i:=2) dH.nd rfl (Or.inl rfl)) (aB (aI (i:=3) dH.nd rfl (Or.inl rfl) (cO cH (bK (aA mT (aA (bK aD) (aA mT (aA aE (aA (bK aD) aD)))))) (pv 2) (fun _ _=>rfl)))
   (aG (bT (aN iO (aO C__law_word hr aZ (aA (pv 2) (aA (pv 0) (aA (pv 1) (aA (pv 3) aD))))) (aS [115,117,99,104] (by decide +kernel)) (aP _)) (aG (bA hU)) aW))))
   (aG (bA hU))),?_⟩
  (try rw [dI]);(try rw [cxK1])
  refine ⟨_,rfl,by decide,by decide,?_⟩
  refine iC (fun i σ G=>aM H G∧∃ v2 v3:Option V,σ=[some (.ref x),some (T p),v2,v3]) ⟨aM.refl _,none,none,rfl⟩ ?_ ?_
  ·rintro i σ G hi ⟨sG,v2,v3,rfl⟩
   refine ⟨(by show 0<=sizeLine;omega),fun e1 he1=>?_⟩
   have t1:=aF (o:=.lst []) he1
   refine ⟨(by show 0<=sizeLine;omega),fun e4 he4=>?_⟩
   have t4:=aF (o:=.lst []) he4
   refine ⟨(by show 5<=sizeLine;omega),fun l hl=>?_⟩
   have tl:=aF (o:=.lst [.non,.ref e1,.non,.int 0,.ref e4]) hl
   have t14:=t1.trans (t4.trans tl)
   have h1:=tl e1 _ (t4 e1 _ aC)
   have h4:=tl e4 _ aC
   have h5:upd (upd (upd G e1 (.lst [])) e4 (.lst [])) l (.lst [.non,.ref e1,.non,.int 0,.ref e4]) l=some (.lst [.non,.ref e1,.non,.int 0,.ref e4]):=aC
   generalize upd (upd (upd G e1 (.lst [])) e4 (.lst [])) l (.lst [.non,.ref e1,.non,.int 0,.ref e4])=G5 at t14 h1 h4 h5
   obtain ⟨v,hv,hA⟩:∃ v,([.non,.ref e1,.non,.int 0,.ref e4]:List V)[i]?=some v∧Px K G5 i v:=by
    have hi5:i<5:=hi
    match i,hi5 with
    | 0,_=>exact ⟨_,rfl,.inl rfl⟩
    | 1,_=>exact ⟨_,rfl,.inr (.inr (.inr ⟨.inl rfl,e1,[],rfl,.inl (SqL.of h1),by decide,fun y hy=>by cases hy⟩))⟩
    | 2,_=>exact ⟨_,rfl,.inr (.inl rfl)⟩
    | 3,_=>exact ⟨_,rfl,.inr (.inr (.inl ⟨rfl,0,rfl⟩))⟩
    | 4,_=>exact ⟨_,rfl,.inr (.inr (.inr ⟨.inr rfl,e4,[],rfl,.inl (SqL.of h4),by decide,fun y hy=>by cases hy⟩))⟩
   refine ⟨_,rfl,l,_,_,_,rfl,rfl,SqL.of h5,(show atI ([.non,.ref e1,.non,.int 0,.ref e4]:List V) (0+(i:Int))=some v by rw [Int.zero_add];exact bS hv),?_⟩
   have sG5:=sG.trans t14
   refine ⟨_,rfl,_,rfl,_,rfl,_,rfl,i,x,tp,n,ms,p,v,[115,117,99,104],?_,hW.on sG5,hok,.inl ⟨hnp,hA,rfl⟩,fun G6 s6=>?_⟩
   ·rw [Int.zero_add]
    rfl
   refine ⟨_,rfl,_,rfl,_,rfl,?_⟩
   refine itN (by rw [decide_eq_true rfl];exact Bool.false_ne_true) ?_
   exact ⟨sG5.trans s6,_,_,rfl⟩
  ·rintro σ G ⟨sG,v2,v3,rfl⟩
   exact q G sG
def abk (k:Nat):List Nat:=([97,98,99,100,101,102]:List Nat).take k
def lC (sg:List Nat):List (List Nat):=sg.flatMap fun c=>sg.map fun d=>[c,d]
def Gx:Sp:=fun vs H Q _=>∃ k:Nat,vs=[.int (k:Nat)]∧k<=6∧∀ (D:Addr) (H':Hp),aM H H'->H' D=some (.lst ((lC (abk k)).map T))->Q (.ref D) H'
theorem kF (sg:List Nat):∀ l:List Nat,(l.flatMap fun c=>sg.map fun d=>[c,d]).length=l.length*sg.length
 | []=>by simp
 | x::l=>by rw [List.flatMap_cons,List.length_append,List.length_map,kF sg l,List.length_cons,Nat.add_mul,Nat.one_mul,Nat.add_comm]
theorem vG {f:Addr}{fd:FuncData}(F:Fun K "_law_grid" "_law_grid" gP f fd)(tt:Txt K mg ad):cD P w K mg base (CX1 P w) 1 f fd ["kinds"] Gx:=by
 refine F.okN iS (fun vs H Q E h=>?_) (fun cdv A outer s H vs Q E hr h=>?_)
 ·obtain ⟨k,rfl,_⟩:=h
  rfl
 ·obtain ⟨k,rfl,hk,q⟩:=h
  have hs:sizeLine=16777216:=sizeLine_eq
  have hsg:fE [97,98,99,100,101,102] none (some ((k:Nat):Int))=abk k:=iG _ _
  have hsl:(abk k).length<=6:=by unfold abk;rw [List.length_take];exact Nat.min_le_right _ _
  refine ⟨_,(aB (aI (i:=1) iS.nd rfl (Or.inl rfl) (bK aD))
   (aB (cC PassesOwn.never rfl (jX (bD kU (aS [97,98,99,100,101,102] (by decide +kernel)) bN (bF (pv 0)))) (bJ (i:=2) iS.nd rfl (Or.inr rfl)) (aG (dG (kB PySem.F.plainAttrs_list PySem.F.slot_list_extend PySem.F.type_list_extend kO (pv 1) (aA (dU pR rfl (jX (bD kU (aS [97,98,99,100,101,102] (by decide +kernel)) bN (bF (pv 0)))) (fun cl C s' H' fp=>(aL dO (pv 3) (pv 0)))) aD)))))
   (aG (bA (pv 1))))),?_⟩
  (try rw [dI]);(try rw [cxK1])
  refine ⟨(by show 0<=sizeLine;omega),fun D hD=>?_⟩
  have sD:=aF (o:=.lst []) hD
  refine ⟨_,rfl,_,rfl,_,rfl,(by show 6<=sizeLine;omega),?_⟩
  rw [hsg]
  refine ⟨_,rfl,?_⟩
  refine pF (l:=abk k) (fun m σ G=>aM H G∧G D=some (.lst ((((abk k).take m).flatMap fun c=>(abk k).map fun d=>[c,d]).map T))∧∃ v2:Option V,σ=[some (.int (k:Nat)),some (.ref D),v2]) ⟨sD,by rw [List.take_zero];exact aC,none,rfl⟩ ?_ ?_
  ·rintro m c σ G hm ⟨sG,hdG,v2,rfl⟩
   have htk:(abk k).take (m+1)=(abk k).take m++[c]:=by rw [List.take_add_one,hm];rfl
   refine ⟨_,rfl,.inl ⟨rfl,_,SqL.of hdG⟩,_,rfl,_,rfl,_,rfl,(by show 6<=sizeLine;omega),?_⟩
   rw [hsg]
   refine ⟨_,rfl,?_⟩
   refine jG (vs:=((abk k).map fun c=>[c]).map T) (fun v=>T ([c]++unT v)) gD (by rw [List.length_map,List.length_map];omega) (fun v H5 hv s5 N hN=>?_) fun D1 H5 hD1 s5 hd5=>?_
   ·obtain ⟨l,hl',rfl⟩:=List.mem_map.mp hv
    obtain ⟨ch,hch,rfl⟩:=List.mem_map.mp hl'
    have g:=hN H5 (aM.refl _)
    rw [eF] at g
    exact ⟨_,rfl,_,rfl,_,rfl,_,rfl,(by show 1+1<=sizeLine;omega),g⟩
   rw [gN (f:=fun l=>T ([c]++l)),List.map_map] at hd5
   have e5:(abk k).map ((fun l=>T ([c]++l))∘fun c=>[c])=((abk k).map fun d=>[c,d]).map T:=by rw [List.map_map];rfl
   rw [e5] at hd5
   have el:=kF (abk k) ((abk k).take m)
   have htl:((abk k).take m).length<=6:=by rw [List.length_take];omega
   have hml:((abk k).take m).length*(abk k).length<=6*6:=Nat.mul_le_mul htl hsl
   refine ⟨D,D1,_,_,rfl,rfl,s5 D _ hdG,hd5,(by rw [List.length_map,List.length_map,List.length_map,el];omega),?_⟩
   refine ⟨(fun b o e=>by rw [aH (aK e hD)];exact (sG.trans s5) b o e),?_,some (T [c]),rfl⟩
   rw [htk,List.flatMap_append,List.map_append]
   refine aC.trans ?_
   simp
  ·rintro σ G ⟨sG,hdG,v2,rfl⟩
   rw [List.take_length] at hdG
   exact ⟨_,rfl,q D G sG hdG⟩
theorem qQ.perm {k:Nat}{ls ms:List (List Nat)}(h:qQ k ls)(p:ms.Perm ls):qQ k ms:=h.sub fun w hw=>p.mem_iff.mp hw
theorem fP.perm {ls ms:List (List Nat)}{n:Nat}(h:fP ls n)(p:ms.Perm ls):fP ms n:=⟨fun z=>h.1 (List.length_eq_zero_iff.mp (by rw [<- p.length_eq,z];rfl)),by rw [p.length_eq];exact h.2.1,⟨h.2.2.1.1,h.2.2.1.2.perm p⟩,fun x hx=>h.2.2.2.1 x (p.mem_iff.mp hx),p.nodup_iff.mpr h.2.2.2.2⟩
theorem IsP.perm {ls ms:List (List Nat)}(p:ms.Perm ls)(z:List Nat):IsP ms z↔IsP ls z:=⟨fun ⟨w,h1,h2⟩=>⟨w,p.mem_iff.mp h1,h2⟩,fun ⟨w,h1,h2⟩=>⟨w,p.mem_iff.mpr h1,h2⟩⟩
theorem qO {a b:List (List Nat)}(h:a.Perm b)(o:List Nat):mB a o=mB b o:=by
 unfold mB
 rw [h.countP_eq]
theorem Nf {ms ls ts:List (List Nat)}(h:ms.Perm ls)(hn:ts.Nodup):Dt.nC ts (bE ms)=Dt.nC ts (bE ls):=by
 have e:eD ts (bE ms)=eD ts (bE ls):=by
  unfold eD
  refine List.map_congr_left fun t _=>?_
  have hp:(bE ms t).Perm (bE ls t):=h.filter _
  unfold pK
  rw [hp.length_eq]
  refine List.map_congr_left fun o _=>?_
  rw [qO hp,qO hp]
 have h1:=gK hn (bE ms)
 rw [e,gK hn (bE ls)] at h1
 omega
theorem xG {g:List Nat->List (List Nat)}{c:Nat}(hc:1<=c):∀ {r:List (List Nat)},(∀ t∈r,(g t).length<=c)->(Dt.gL g r).length<=c ^ r.length
 | [],_=>Nat.le_refl _
 | t::r,h=>by
  have ih:=xG hc (r:=r) fun x hx=>h x (List.mem_cons_of_mem _ hx)
  have key:∀ l:List (List Nat),(l.flatMap fun w=>(Dt.gL g r).map fun us=>w::us).length=l.length*(Dt.gL g r).length:=fun l=>by
   induction l with
   | nil=>simp
   | cons w l ih2=>rw [List.flatMap_cons,List.length_append,List.length_map,ih2,List.length_cons,Nat.add_mul,Nat.one_mul,Nat.add_comm]
  show ((g t).flatMap fun w=>(Dt.gL g r).map fun us=>w::us).length<=_
  rw [key,List.length_cons,Nat.pow_succ,Nat.mul_comm]
  exact Nat.mul_le_mul ih (h t (List.mem_cons_self ..))
def Mm (ls ts:List (List Nat))(p:List Nat):Bool:=(ts.all fun z=>(ls.map beg++ls.map fun w=>w.drop 1).contains z && !decide (z=p))&&((ls.map beg++ls.map fun w=>w.drop 1).all fun z=>decide (z=p)||ts.contains z)&&((ls.map beg++ls.map fun w=>w.drop 1).contains p)&&decide (ts.Pairwise (· < ·))
theorem zK {ls:List (List Nat)}{z:List Nat}:IsP ls z↔z∈ls.map beg++ls.map fun w=>w.drop 1:=by
 rw [List.mem_append,List.mem_map,List.mem_map]
 constructor
 ·rintro ⟨w,hw,e | e⟩
  ·exact .inl ⟨w,hw,e.symm⟩
  ·exact .inr ⟨w,hw,e.symm⟩
 ·rintro (⟨w,hw,e⟩ | ⟨w,hw,e⟩)
  ·exact ⟨w,hw,.inl e.symm⟩
  ·exact ⟨w,hw,.inr e.symm⟩
theorem Ip {ms ls ts:List (List Nat)}{p:List Nat}(hp:ms.Perm ls)(h:Mm ls ts p=true):jC ms p ts∧IsP ms p:=by
 unfold Mm at h
 rw [Bool.and_eq_true,Bool.and_eq_true,Bool.and_eq_true] at h
 obtain ⟨⟨⟨h1,h2⟩,h3⟩,h4⟩:=h
 refine ⟨⟨of_decide_eq_true h4,fun z=>?_⟩,(IsP.perm hp p).mpr (zK.mpr (List.contains_iff_mem.mp h3))⟩
 rw [IsP.perm hp,zK]
 constructor
 ·intro hz
  have:=List.all_eq_true.mp h1 z hz
  rw [Bool.and_eq_true,Bool.not_eq_true',decide_eq_false_iff_not] at this
  exact ⟨List.contains_iff_mem.mp this.1,this.2⟩
 ·rintro ⟨hz,hne⟩
  have:=List.all_eq_true.mp h2 z hz
  rw [Bool.or_eq_true,decide_eq_true_iff] at this
  exact List.contains_iff_mem.mp (this.resolve_left hne)
def wIs (ls:List (List Nat)):Bool:=decide (ls≠[])&&decide (ls.length<=40)&&decide ls.Nodup&&ls.all (fun w=>decide (w.length=2)&&w.all fun c=>decide (97<=c∧c<103))
theorem yZ {ls:List (List Nat)}(h:wIs ls=true):fP ls 2:=by
 unfold wIs at h
 rw [Bool.and_eq_true,Bool.and_eq_true,Bool.and_eq_true,decide_eq_true_iff,decide_eq_true_iff,decide_eq_true_iff] at h
 obtain ⟨⟨⟨h1,h2⟩,h3⟩,h4⟩:=h
 have h5:∀ w∈ls,w.length=2∧∀ c∈w,97<=c∧c<103:=fun w hw=>by
  have:=List.all_eq_true.mp h4 w hw
  rw [Bool.and_eq_true,decide_eq_true_iff] at this
  exact ⟨this.1,fun c hc=>of_decide_eq_true (List.all_eq_true.mp this.2 c hc)⟩
 refine ⟨h1,by omega,⟨⟨by decide,by decide⟩,⟨[[97],[98],[99],[100],[101],[102]],by decide,fun w hw=>?_⟩⟩,h5,h3⟩
 obtain ⟨e1,e2⟩:=h5 w hw
 match w,e1 with
 | [c,d],_ =>
  have one:∀ c:Nat,97<=c∧c<103->[c]∈([[97],[98],[99],[100],[101],[102]]:List (List Nat)):=fun c hc=>by
   have:c=97∨c=98∨c=99∨c=100∨c=101∨c=102:=by omega
   rcases this with rfl | rfl | rfl | rfl | rfl | rfl <;> decide
  exact ⟨one c (e2 c (by simp)),one d (e2 d (by simp))⟩
def lS (ls:List (List Nat))(p:List Nat)(ts:List (List Nat))(m:Nat):Prop:=wIs ls=true∧Mm ls ts p=true∧ts.length<=5∧(∀ t∈ts,(bE ls t).length<=6)∧Dt.det ts.length (Dt.ent (eD ts (bE ls)))=(m:Nat)
theorem lS.nC {ls ms ts:List (List Nat)}{p:List Nat}{m:Nat}(h:lS ls p ts m)(hp:ms.Perm ls):jC ms p ts∧IsP ms p∧Dt.nC ts (bE ms)=m∧∀ i,(Dt.gL (bE ms) (ts.take i)).length<=100000:=by
 obtain ⟨h1,h2,h3,h4,h5⟩:=h
 obtain ⟨g1,g2⟩:=Ip hp h2
 refine ⟨g1,g2,?_,fun i=>?_⟩
 ·rw [Nf hp g1.nd]
  have:=gK g1.nd (bE ls)
  rw [h5] at this
  omega
 ·have k1:(ts.take i).length<=5:=by rw [List.length_take];omega
  have k2:=xG (g:=bE ms) (c:=6) (by decide) (r:=ts.take i) fun t ht=>by
   rw [show (bE ms t).length=(bE ls t).length from (hp.filter _).length_eq]
   exact h4 t (List.mem_of_mem_take ht)
  exact Nat.le_trans k2 (Nat.le_trans (Nat.pow_le_pow_right (by decide) k1) (by decide))
def Ma (k:Nat):Nat:=[3,16,125,1296].getD (k-3) 0
theorem Ey:∀ k,3<=k->k<=6->lS (lC (abk k)) [98] (((abk k).filter fun c=>decide (c≠98)).map fun c=>[c]) (Ma k):=fun k h1 h2=>by
 have:k=3∨k=4∨k=5∨k=6:=by omega
 rcases this with rfl | rfl | rfl | rfl <;> exact ⟨by decide +kernel,by decide +kernel,by decide +kernel,by decide +kernel,by decide +kernel⟩
def kH:Sp:=fun vs H Q _=>∃ c:Int,vs=[.int c]∧∀ H',aM H H'->Q (.bl true) H'
theorem rK {f:Addr}{fd:FuncData}(F:Fun K "_law_great" "_law_great" iY f fd)(tt:Txt K mg ad)(C__law_grid:Cal P w K mg base (CX1 P w) "_law_grid" 1 ["kinds"] Gx)(C_Web_init:Cam P w K mg base (CX1 P w) "Web" ad.Web 5 ["self", "words"] (pZ K ad.Web))(C_tree_count:Cal P w K mg base (CX1 P w) "tree_count" 5 ["web", "piece"] (qU ad.Web ad))(C__law_word:Cal P w K mg base (CX1 P w) "_law_word" 6 ["way", "web", "piece", "more"] (pG K ad.Web))(C_trees:Cal P w K mg base (CX1 P w) "trees" 5 ["web", "piece"] (oP K ad.Web ad)) :
  cD P w K mg base (CX1 P w) 7 f fd ["cell"] kH:=by
 refine F.okN fK (fun vs H Q E h=>?_) (fun cdv A outer s H vs Q E hr h=>?_)
 ·obtain ⟨c,rfl,_⟩:=h
  rfl
 ·obtain ⟨c,rfl,q⟩:=h
  have hs:sizeLine=16777216:=sizeLine_eq
  obtain ⟨k,hk,hk3,hk6⟩:∃ k:Nat,3+c % 4=(k:Int)∧3<=k∧k<=6:=⟨(3+c % 4).toNat,by omega,by omega,by omega⟩
  refine ⟨_,(aB (aI (i:=1) fK.nd rfl (Or.inl rfl) (aL cQ aE (aL bY (pv 0) aE)))
   (aB (aI (i:=2) fK.nd rfl (Or.inl rfl) (tW C_Web_init hr aZ (aA (aO C__law_grid hr aZ (aA (pv 1) aD)) aD)))
   (aB (aI (i:=3) fK.nd rfl (Or.inl rfl) (cO cH (bK (aA aE (aA aE (aA aE (aA aE aD))))) (aL fR (pv 1) aE) (fun _ _=>rfl)))
   (aB (bT (aN jE (aO C_tree_count hr aZ (aA (pv 2) (aA (aS [98] (by decide +kernel)) aD))) (pv 3) (aP _)) (aG (bA hU)) aW)
   (aB (bT (aN jI (pv 3) aE (aP _)) (aG (bA (pA (gR kJ (aO C__law_word hr aZ (aA aE (aA (pv 2) (aA (aS [98] (by decide +kernel)) (aA mT aD))))) (aS [109,97,110,121] (by decide +kernel)) (aP _)) (oU (gR kJ (aO C__law_word hr aZ (aA aE (aA (pv 2) (aA (aS [98] (by decide +kernel)) (aA (pv 3) aD))))) (aS [115,117,99,104] (by decide +kernel)) (aP _)))))) aW)
   (aG (bA (pA (gR kJ (aO C__law_word hr aZ (aA aE (aA (pv 2) (aA (aS [98] (by decide +kernel)) (aA mT aD))))) (aS [] (by decide +kernel)) (aP _)) (oU (gR cG (aQ aV (by rfl) tt.b_len PySem.boot_len (aA (aO C_trees hr aZ (aA (pv 2) (aA (aS [98] (by decide +kernel)) aD))) aD)) (pv 3) (aP _))))))))))),?_⟩
  (try rw [dI]);(try rw [cxK1])
  refine ⟨_,rfl,_,_,rfl,rfl,(by show (0:Int)<4;decide),_,_,rfl,rfl,?_⟩
  rw [show (fun i j=>V.int (i+j)) 3 (c % 4)=V.int ((k:Nat):Int) from congrArg V.int hk]
  refine ⟨_,rfl,k,rfl,hk6,fun D H1 s1 hd=>?_⟩
  have hT:=Ey k hk3 hk6
  have hok:=yZ hT.1
  intro x dx nx ndx nex
  have s2:aM H1 (upd (upd H1 dx (.own x)) x (.ins ad.Web dx [])):=fun b o e=>by
   rw [aH (aK e nx),aH (aK e ndx)]
   exact e
  refine ⟨x,dx,D,lC (abk k),2,rfl,aC,SqL.of (s2 D _ hd),hok,fun tp ms H2 hp2 hw2 k2 hx2 ht2=>⟨rfl,?_⟩⟩
  have s2:aM H1 H2:=fun b o e=>k2 b o (s2 b o e) (aK e nx)
  have hW:fN ad.Web H2 x tp 2 ms:=⟨⟨dx,hx2⟩,ht2⟩
  have hokm:=hok.perm hp2
  obtain ⟨hts,hip,hnC,hall⟩:=hT.nC hp2
  generalize (((abk k).filter fun c=>decide (c≠98)).map fun c=>[c])=ts at hts hnC hall
  refine ⟨(by show 4<=sizeLine;omega),fun l hl=>?_⟩
  have tl:=aF (o:=.lst [.int 3,.int 16,.int 125,.int 1296]) hl
  have hdue:([.int 3,.int 16,.int 125,.int 1296]:List V)[k-3]?=some (.int ((Ma k:Nat):Int)):=by
   have:k=3∨k=4∨k=5∨k=6:=by omega
   rcases this with rfl | rfl | rfl | rfl <;> rfl
  refine ⟨_,rfl,_,_,rfl,rfl,l,_,_,_,rfl,rfl,SqL.of aC,(by rw [show ((k:Nat):Int)-3=((k-3:Nat):Int) by omega];exact bS hdue),?_⟩
  have s12:=s1.trans (s2.trans tl)
  refine ⟨_,rfl,x,tp,2,ms,[98],rfl,hW.on tl,hokm,fun z=>absurd hip z,fun _ ps H3 s3 _ hpw hpn hpm=>?_⟩
  rw [gK (hpn.sublist List.filter_sublist)]
  obtain rfl:=hts.uniq (nR (p:=[98]) hpw hpn hpm)
  rw [hnC]
  refine ⟨_,rfl,_,rfl,_,rfl,_,rfl,?_⟩
  refine itN (by rw [decide_eq_true rfl];exact Bool.false_ne_true) ?_
  have s23:=tl.trans s3
  have s13:=s1.trans (s2.trans s23)
  refine ⟨_,rfl,_,_,rfl,rfl,_,rfl,?_⟩
  by_cases hd5:500<Ma k
  ·refine itP (decide_eq_true (by omega)) ?_
   refine ⟨_,rfl,2,x,tp,2,ms,[98],.non,[109,97,110,121],rfl,hW.on s23,hokm,.inr ⟨hip,_,hts,.inl ⟨rfl,.inl ⟨by rw [hnC];exact hd5,rfl⟩⟩⟩,fun H4 s4=>?_⟩
   refine ⟨_,rfl,_,rfl,_,rfl,itP (decide_eq_true rfl) ?_⟩
   refine ⟨_,rfl,_,rfl,3,x,tp,2,ms,[98],_,[115,117,99,104],rfl,hW.on (s23.trans s4),hokm,.inr ⟨hip,_,hts,.inr (.inl ⟨rfl,_,rfl,.inl ⟨by rw [hnC];omega,rfl⟩⟩)⟩,fun H5 s5=>?_⟩
   refine ⟨_,rfl,_,rfl,?_⟩
   rw [decide_eq_true rfl]
   exact q _ (s13.trans (s4.trans s5))
  ·refine itN (fun z=>hd5 (by have:=of_decide_eq_true z;omega)) ?_
   refine ⟨_,rfl,2,x,tp,2,ms,[98],.non,[],rfl,hW.on s23,hokm,.inr ⟨hip,_,hts,.inl ⟨rfl,.inr ⟨by rw [hnC];omega,hall,rfl⟩⟩⟩,fun H4 s4=>?_⟩
   refine ⟨_,rfl,_,rfl,_,rfl,itP (decide_eq_true rfl) ?_⟩
   refine ⟨_,rfl,x,tp,2,ms,[98],rfl,hW.on (s23.trans s4),hokm,fun z=>absurd hip z,fun _ ts2 hts2=>?_⟩
   obtain rfl:=hts.uniq hts2
   refine ⟨fun z=>by omega,fun _=>⟨hall,fun D5 bs H5 s5 hd5' hR5=>?_⟩⟩
   have hbl:=hR5.len
   rw [Dt.iZ hts.nd (fun t h=>h) kK,hnC] at hbl
   refine ⟨D5,_,rfl,.inl hd5',_,rfl,_,rfl,_,rfl,?_⟩
   rw [List.length_map,<- hbl,decide_eq_true rfl]
   exact q _ (s13.trans (s4.trans s5))
def sgn (sh:Nat):List Nat:=([97,98,99,100,101,102]:List Nat).drop sh++([97,98,99,100,101,102]:List Nat).take sh
def eW (sh:Nat):List (List Nat):=lC ((sgn sh).take 5)++(((sgn sh).drop 1).take 4).map fun d=>[(sgn sh).getD 5 0,d]
def eT (sh:Nat):List (List Nat):=(([97,98,99,100,101,102]:List Nat).filter fun c=>decide (c≠(sgn sh).getD 0 0)).map fun c=>[c]
theorem Ii:∀ sh,sh<6->lS (eW sh) [(sgn sh).getD 0 0] (eT sh) 500∧lS (eW sh++[[(sgn sh).getD 1 0,(sgn sh).getD 5 0]]) [(sgn sh).getD 0 0] (eT sh) 575∧(sgn sh).length=6:=fun sh h=>by
 have:sh=0∨sh=1∨sh=2∨sh=3∨sh=4∨sh=5:=by omega
 rcases this with rfl | rfl | rfl | rfl | rfl | rfl <;> exact ⟨⟨by decide +kernel,by decide +kernel,by decide +kernel,by decide +kernel,by decide +kernel⟩,⟨by decide +kernel,by decide +kernel,by decide +kernel,by decide +kernel,by decide +kernel⟩,rfl⟩
theorem tV {f:Addr}{fd:FuncData}(F:Fun K "_law_edge" "_law_edge" fM f fd)(tt:Txt K mg ad)(C_Web_init:Cam P w K mg base (CX1 P w) "Web" ad.Web 5 ["self", "words"] (pZ K ad.Web))(C_tree_count:Cal P w K mg base (CX1 P w) "tree_count" 5 ["web", "piece"] (qU ad.Web ad))(C_trees:Cal P w K mg base (CX1 P w) "trees" 5 ["web", "piece"] (oP K ad.Web ad))(C__law_word:Cal P w K mg base (CX1 P w) "_law_word" 6 ["way", "web", "piece", "more"] (pG K ad.Web)) :
  cD P w K mg base (CX1 P w) 7 f fd ["cell"] kH:=by
 refine F.okN dD (fun vs H Q E h=>?_) (fun cdv A outer s H vs Q E hr h=>?_)
 ·obtain ⟨c,rfl,_⟩:=h
  rfl
 ·obtain ⟨c,rfl,q⟩:=h
  have hs:sizeLine=16777216:=sizeLine_eq
  obtain ⟨sh,hk,hk6⟩:∃ k:Nat,c % 6=(k:Int)∧k<6:=⟨(c % 6).toNat,by omega,by omega⟩
  obtain ⟨hT1,hT2,hsl⟩:=Ii sh hk6
  refine ⟨_,(aB (aI (i:=1) dD.nd rfl (Or.inl rfl) (aL bY (pv 0) aE))
   (aB (aI (i:=2) dD.nd rfl (Or.inr rfl) (aL dO (bD kU (aS [97,98,99,100,101,102] (by decide +kernel)) (bF (pv 1)) bN) (bD kU (aS [97,98,99,100,101,102] (by decide +kernel)) bN (bF (pv 1)))))
   (aB (aI (i:=3) dD.nd rfl (Or.inl rfl) (bK aD))
   (aB (cC PassesOwn.never rfl (jX (bD kU (pv 2) bN (bF aE))) (bJ (i:=4) dD.nd rfl (Or.inr rfl)) (aG (dG (kB PySem.F.plainAttrs_list PySem.F.slot_list_extend PySem.F.type_list_extend kO (pv 3) (aA (dU qK rfl (jX (bD kU (pv 2) bN (bF aE))) (fun cl C s' H' fp=>(aL dO (pv 5) (pv 0)))) aD)))))
   (aB (dG (kB PySem.F.plainAttrs_list PySem.F.slot_list_extend PySem.F.type_list_extend kO (pv 3) (aA (dU pD rfl (jX (bD kU (pv 2) (bF aE) (bF aE))) (fun cl C s' H' fp=>(aL dO (cO tO (pv 3) aE (fun _ _=>rfl)) (pv 0)))) aD)))
   (aB (aI (i:=5) dD.nd rfl (Or.inl rfl) (tW C_Web_init hr aZ (aA (pv 3) aD)))
   (aB (bT (PW.pt (wI (aN jE (aO C_tree_count hr aZ (aA (pv 5) (aA (cO tO (pv 2) aE (fun _ _=>rfl)) aD))) aE (aP _)) (pY (aN jE (aQ aV (by rfl) tt.b_len PySem.boot_len (aA (aO C_trees hr aZ (aA (pv 5) (aA (cO tO (pv 2) aE (fun _ _=>rfl)) aD))) aD)) aE (aP _))))) (aG (bA hU)) aW)
   (aB (aI (i:=5) dD.nd rfl (Or.inl rfl) (tW C_Web_init hr aZ (aA (aL eV (pv 3) (bK (aA (aL dO (cO tO (pv 2) aE (fun _ _=>rfl)) (cO tO (pv 2) aE (fun _ _=>rfl))) aD))) aD)))
   (aG (bA (pA (gR cG (aO C_tree_count hr aZ (aA (pv 5) (aA (cO tO (pv 2) aE (fun _ _=>rfl)) aD))) aE (aP _)) (oU (gR kJ (aO C__law_word hr aZ (aA aE (aA (pv 5) (aA (cO tO (pv 2) aE (fun _ _=>rfl)) (aA mT aD))))) (aS [109,97,110,121] (by decide +kernel)) (aP _)))))))))))))),?_⟩
  (try rw [dI]);(try rw [cxK1])
  refine ⟨_,rfl,_,_,rfl,rfl,(by show (0:Int)<6;decide),?_⟩
  rw [show (fun i j=>V.int (i % j)) c 6=V.int ((sh:Nat):Int) from congrArg V.int hk]
  refine ⟨_,rfl,_,rfl,_,rfl,(by show 6<=sizeLine;omega),_,rfl,_,rfl,_,rfl,(by show 6<=sizeLine;omega),_,rfl,_,rfl,?_⟩
  rw [show fE [97,98,99,100,101,102] (some ((sh:Nat):Int)) none=([97,98,99,100,101,102]:List Nat).drop sh from hZ (by show sh<=6;omega),show fE [97,98,99,100,101,102] none (some ((sh:Nat):Int))=([97,98,99,100,101,102]:List Nat).take sh from iG _ _]
  refine ⟨(by rw [List.length_drop,List.length_take];show 6-sh+min sh 6<=sizeLine;omega),?_⟩
  rw [show (([97,98,99,100,101,102]:List Nat).drop sh++([97,98,99,100,101,102]:List Nat).take sh)=sgn sh from rfl]
  generalize hsg:sgn sh=sg at hsl
  have h5:fE sg none (some (5:Int))=sg.take 5:=iG _ 5
  have h5l:(sg.take 5).length=5:=by rw [List.length_take,hsl];rfl
  refine ⟨(by show 0<=sizeLine;omega),fun D hD=>?_⟩
  have sD:=aF (o:=.lst []) hD
  refine ⟨_,rfl,_,rfl,_,rfl,(by omega),?_⟩
  rw [h5]
  refine ⟨_,rfl,?_⟩
  refine pF (l:=sg.take 5) (fun m σ G=>aM H G∧G D=some (.lst ((((sg.take 5).take m).flatMap fun c=>(sg.take 5).map fun d=>[c,d]).map T))∧∃ v4:Option V,σ=[some (.int c),some (.int (sh:Nat)),some (T sg),some (.ref D),v4,none]) ⟨sD,by rw [List.take_zero];exact aC,none,rfl⟩ ?_ ?_
  ·rintro m ch σ G hm ⟨sG,hdG,v4,rfl⟩
   have htk:(sg.take 5).take (m+1)=(sg.take 5).take m++[ch]:=by rw [List.take_add_one,hm];rfl
   refine ⟨_,rfl,.inl ⟨rfl,_,SqL.of hdG⟩,_,rfl,_,rfl,_,rfl,(by omega),?_⟩
   rw [h5]
   refine ⟨_,rfl,?_⟩
   refine jG (vs:=((sg.take 5).map fun c=>[c]).map T) (fun v=>T ([ch]++unT v)) gD (by rw [List.length_map,List.length_map];omega) (fun v H5 hv s5 N hN=>?_) fun D1 H5 hD1 s5 hd5=>?_
   ·obtain ⟨l,hl',rfl⟩:=List.mem_map.mp hv
    obtain ⟨c',hch,rfl⟩:=List.mem_map.mp hl'
    have g:=hN H5 (aM.refl _)
    rw [eF] at g
    exact ⟨_,rfl,_,rfl,_,rfl,_,rfl,(by show 1+1<=sizeLine;omega),g⟩
   rw [gN (f:=fun l=>T ([ch]++l)),List.map_map] at hd5
   have e5:(sg.take 5).map ((fun l=>T ([ch]++l))∘fun c=>[c])=((sg.take 5).map fun d=>[ch,d]).map T:=by rw [List.map_map];rfl
   rw [e5] at hd5
   have el:=kF (sg.take 5) ((sg.take 5).take m)
   have htl:((sg.take 5).take m).length<=5:=by rw [List.length_take];omega
   have hml:((sg.take 5).take m).length*(sg.take 5).length<=5*5:=Nat.mul_le_mul htl (by omega)
   refine ⟨D,D1,_,_,rfl,rfl,s5 D _ hdG,hd5,(by rw [List.length_map,List.length_map,List.length_map,el];omega),?_⟩
   refine ⟨(fun b o e=>by rw [aH (aK e hD)];exact (sG.trans s5) b o e),?_,some (T [ch]),rfl⟩
   rw [htk,List.flatMap_append,List.map_append]
   refine aC.trans ?_
   simp
  ·rintro σ G ⟨sG,hdG,v4,rfl⟩
   rw [List.take_length,show ((sg.take 5).flatMap fun c=>(sg.take 5).map fun d=>[c,d])=lC (sg.take 5) from rfl] at hdG
   have hgl:(lC (sg.take 5)).length=25:=by unfold lC;rw [kF,h5l]
   have at6:∀ j:Nat,j<6->sg[j]?=some (sg.getD j 0):=fun j hj=>by rw [List.getD_eq_getElem?_getD,List.getElem?_eq_getElem (by omega)];rfl
   refine ⟨_,rfl,.inl ⟨rfl,_,SqL.of hdG⟩,_,rfl,_,rfl,_,rfl,_,rfl,(by omega),?_⟩
   rw [show fE sg (some (1:Int)) (some (5:Int))=(sg.drop 1).take 4 from Eo (a:=1) (b:=5) (by omega) (by decide)]
   refine ⟨_,rfl,?_⟩
   refine jG (vs:=(((sg.drop 1).take 4).map fun c=>[c]).map T) (fun v=>T ([sg.getD 5 0]++unT v)) gD (by rw [List.length_map,List.length_map,List.length_take];omega) (fun v H5 hv s5 N hN=>?_) fun D1 H5 hD1 s5 hd5=>?_
   ·obtain ⟨l,hl',rfl⟩:=List.mem_map.mp hv
    obtain ⟨c',hch,rfl⟩:=List.mem_map.mp hl'
    have g:=hN H5 (aM.refl _)
    rw [eF] at g
    exact ⟨_,rfl,_,rfl,_,rfl,(by omega),_,bS (j:=5) (at6 5 (by decide)),_,rfl,_,rfl,_,rfl,(by show 1+1<=sizeLine;omega),g⟩
   rw [gN (f:=fun l=>T ([sg.getD 5 0]++l)),List.map_map] at hd5
   have e5:((sg.drop 1).take 4).map ((fun l=>T ([sg.getD 5 0]++l))∘fun c=>[c])=(((sg.drop 1).take 4).map fun d=>[sg.getD 5 0,d]).map T:=by rw [List.map_map];rfl
   rw [e5] at hd5
   refine ⟨D,D1,_,_,rfl,rfl,s5 D _ hdG,hd5,(by rw [List.length_map,List.length_map,List.length_map,hgl,List.length_take];omega),?_⟩
   have s1:aM H (upd H5 D (.lst ((lC (sg.take 5)).map T++(((sg.drop 1).take 4).map fun d=>[sg.getD 5 0,d]).map T))):=fun b o e=>by rw [aH (aK e hD)];exact (sG.trans s5) b o e
   have hd:upd H5 D (.lst ((lC (sg.take 5)).map T++(((sg.drop 1).take 4).map fun d=>[sg.getD 5 0,d]).map T)) D=some (.lst ((eW sh).map T)):=by rw [aC,<- List.map_append];unfold eW;rw [hsg]
   generalize upd H5 D (.lst ((lC (sg.take 5)).map T++(((sg.drop 1).take 4).map fun d=>[sg.getD 5 0,d]).map T))=H1 at s1 hd
   rw [hsg] at hT1 hT2
   have hok:=yZ hT1.1
   refine ⟨_,rfl,?_⟩
   intro x dx nx ndx nex
   have s2:aM H1 (upd (upd H1 dx (.own x)) x (.ins ad.Web dx [])):=fun b o e=>by
    rw [aH (aK e nx),aH (aK e ndx)]
    exact e
   refine ⟨x,dx,D,eW sh,2,rfl,aC,SqL.of (s2 D _ hd),hok,fun tp ms H2 hp2 hw2 k2 hx2 ht2=>⟨rfl,?_⟩⟩
   have s2:aM H1 H2:=fun b o e=>k2 b o (s2 b o e) (aK e nx)
   have hW:fN ad.Web H2 x tp 2 ms:=⟨⟨dx,hx2⟩,ht2⟩
   have hokm:=hok.perm hp2
   obtain ⟨hts,hip,hnC,hall⟩:=hT1.nC hp2
   refine ⟨_,rfl,_,rfl,_,rfl,_,rfl,(by omega),_,bS (j:=0) (at6 0 (by decide)),x,tp,2,ms,[sg.getD 0 0],rfl,hW,hokm,fun z=>absurd hip z,fun _ ps H3 s3 _ hpw hpn hpm=>?_⟩
   rw [gK (hpn.sublist List.filter_sublist),hts.uniq (nR (p:=[sg.getD 0 0]) hpw hpn hpm),hnC]
   refine ⟨_,rfl,_,rfl,_,rfl,?_⟩
   refine itN (by decide) ?_
   refine ⟨_,rfl,_,rfl,_,rfl,_,rfl,(by omega),_,bS (j:=0) (at6 0 (by decide)),x,tp,2,ms,[sg.getD 0 0],rfl,hW.on s3,hokm,fun z=>absurd hip z,fun _ ts2 hts2=>?_⟩
   obtain rfl:=hts.uniq hts2
   refine ⟨fun z=>by omega,fun _=>⟨hall,fun D5 bs H4 s4 hd5' hR5=>?_⟩⟩
   have hbl:=hR5.len
   rw [Dt.iZ hts.nd (fun t h=>h) kK,hnC] at hbl
   refine ⟨D5,_,rfl,.inl hd5',_,rfl,_,rfl,_,rfl,?_⟩
   refine itN (by rw [List.length_map,<- hbl];decide) ?_
   have s24:=s2.trans (s3.trans s4)
   have hdw:=s24 D _ hd
   refine ⟨_,rfl,_,rfl,_,rfl,_,rfl,(by omega),_,bS (j:=1) (at6 1 (by decide)),_,rfl,_,rfl,_,rfl,(by omega),_,bS (j:=5) (at6 5 (by decide)),_,rfl,_,rfl,(by show 1+1<=sizeLine;omega),(by show 1<=sizeLine;omega),fun e6 he6=>?_⟩
   have t6:=aF (o:=.lst [T ([sg.getD 1 0]++[sg.getD 5 0])]) he6
   have hel:(eW sh).length<=40:=by have:=hT2.1;unfold wIs at this;rw [Bool.and_eq_true,Bool.and_eq_true,Bool.and_eq_true,decide_eq_true_iff,decide_eq_true_iff] at this;have:=this.1.1.2;rw [List.length_append] at this;omega
   refine ⟨D,e6,_,_,rfl,rfl,SqL.of (t6 D _ hdw),SqL.of aC,(by rw [List.length_map];show _+1<=sizeLine;omega),fun D7 hD7=>?_⟩
   have t7:=aF (o:=.lst ((eW sh).map T++[T ([sg.getD 1 0]++[sg.getD 5 0])])) hD7
   have hd7:upd (upd H4 e6 (.lst [T ([sg.getD 1 0]++[sg.getD 5 0])])) D7 (.lst ((eW sh).map T++[T ([sg.getD 1 0]++[sg.getD 5 0])])) D7=some (.lst ((eW sh++[[sg.getD 1 0,sg.getD 5 0]]).map T)):=by rw [aC,List.map_append];rfl
   have s17:=s1.trans (s24.trans (t6.trans t7))
   generalize upd (upd H4 e6 (.lst [T ([sg.getD 1 0]++[sg.getD 5 0])])) D7 (.lst ((eW sh).map T++[T ([sg.getD 1 0]++[sg.getD 5 0])]))=H7 at s17 hd7
   have hok':=yZ hT2.1
   intro y dy ny ndy ney
   have g2:aM H7 (upd (upd H7 dy (.own y)) y (.ins ad.Web dy [])):=fun b o e=>by
    rw [aH (aK e ny),aH (aK e ndy)]
    exact e
   refine ⟨y,dy,D7,_,2,rfl,aC,SqL.of (g2 D7 _ hd7),hok',fun tq mq H8 hq2 hv2 l2 hy2 hu2=>⟨rfl,?_⟩⟩
   have g2:aM H7 H8:=fun b o e=>l2 b o (g2 b o e) (aK e ny)
   have hWq:fN ad.Web H8 y tq 2 mq:=⟨⟨dy,hy2⟩,hu2⟩
   have hokq:=hok'.perm hq2
   obtain ⟨hts,hip,hnC,hall⟩:=hT2.nC hq2
   refine ⟨_,rfl,_,rfl,_,rfl,_,rfl,(by omega),_,bS (j:=0) (at6 0 (by decide)),y,tq,2,mq,[sg.getD 0 0],rfl,hWq,hokq,fun z=>absurd hip z,fun _ ps H9 s9 _ hpw hpn hpm=>?_⟩
   rw [gK (hpn.sublist List.filter_sublist),hts.uniq (nR (p:=[sg.getD 0 0]) hpw hpn hpm),hnC]
   refine ⟨_,rfl,_,rfl,_,rfl,itP (decide_eq_true rfl) ?_⟩
   refine ⟨_,rfl,_,rfl,_,rfl,_,rfl,(by omega),_,bS (j:=0) (at6 0 (by decide)),2,y,tq,2,mq,[sg.getD 0 0],.non,[109,97,110,121],rfl,hWq.on s9,hokq,.inr ⟨hip,_,hts,.inl ⟨rfl,.inl ⟨by rw [hnC];decide,rfl⟩⟩⟩,fun H10 s10=>?_⟩
   refine ⟨_,rfl,_,rfl,?_⟩
   rw [decide_eq_true rfl]
   exact q _ (s17.trans (g2.trans (s9.trans s10)))
theorem wZ {ls:List (List Nat)}{k:Nat}(h:k<=ls.length):dJ (ls.map T) (some (k:Int)) none=(ls.drop k).map T:=by
 unfold dJ
 rw [HT.dB,HT.eC,List.length_map,Nat.min_eq_left h,<- List.map_drop,<- List.map_take,List.take_of_length_le (by rw [List.length_drop];omega)]
theorem Ba (ls:List (List Nat)):dJ (ls.map T) (some (1:Int)) none=(ls.drop 1).map T:=by
 cases ls with
 | nil=>rfl
 | cons x r=>exact wZ (k:=1) (by simp)
theorem Bv (ls:List (List Nat)):dJ (ls.map T) none (some (1:Int))=(ls.take 1).map T:=by
 unfold dJ
 rw [show HT.sIx (ls.map T).length (ls.map T).length (some (1:Int))=min 1 (ls.map T).length from HT.dB _ _ 1,HT.eC,List.drop_zero,Nat.sub_zero,List.length_map,<- List.map_take]
 congr 1
 cases ls with
 | nil=>rfl
 | cons x r=>rfl
def At (K:PySem.W.Frag):Sp:=fun vs H Q _=>∃ (a:Addr) (ns:List Int),vs=[.ref a]∧SqL K H a (ns.map V.int)∧ns.length<=63∧∀ H',Q (.bl true) H'
theorem Kv {f:Addr}{fd:FuncData}(F:Fun K "law" "law" mD f fd)(tt:Txt K mg ad)(C__law_some_words:Cal P w K mg base (CX1 P w) "_law_some_words" 3 ["script", "at", "most"] (As K))(C_Web_init:Cam P w K mg base (CX1 P w) "Web" ad.Web 5 ["self", "words"] (pZ K ad.Web))(C__law_pieces_refused:Cal P w K mg base (CX1 P w) "_law_pieces_refused" 7 ["web", "piece"] (Gg ad.Web))(C__law_cell_at:Cal P w K mg base (CX1 P w) "_law_cell_at" 1 ["script", "k"] (uK K))(C_tree_count:Cal P w K mg base (CX1 P w) "tree_count" 5 ["web", "piece"] (qU ad.Web ad))(C__law_word:Cal P w K mg base (CX1 P w) "_law_word" 6 ["way", "web", "piece", "more"] (pG K ad.Web))
  (C_tree_by:Cal P w K mg base (CX1 P w) "tree_by" 5 ["web", "piece", "number"] (qY ad.Web ad)) (C__law_great:Cal P w K mg base (CX1 P w) "_law_great" 7 ["cell"] kH) (C__law_edge:Cal P w K mg base (CX1 P w) "_law_edge" 7 ["cell"] kH) :
  cD P w K mg base (CX1 P w) 9 f fd ["script"] (At K):=by
 refine F.okN fV (fun vs H Q E h=>?_) (fun cdv A outer s H vs Q E hr h=>?_)
 ·obtain ⟨a,ns,rfl,_⟩:=h
  rfl
 ·obtain ⟨a,ns,rfl,hS,hlen,q⟩:=h
  have hs:sizeLine=16777216:=sizeLine_eq
  refine ⟨_,(aB (aI (i:=1) fV.nd rfl (Or.inl rfl) (aO C__law_some_words hr aZ (aA (pv 0) (aA aE (aA aE aD)))))
   (aB (aI (i:=2) fV.nd rfl (Or.inl rfl) (tW C_Web_init hr aZ (aA (pv 1) aD)))
   (aB (cC PassesOwn.never rfl (bW (bK (aA (aS [103] (by decide +kernel)) (aA (aL dO (cO cH (pv 1) aE (fun _ _=>rfl)) (aS [97] (by decide +kernel))) (aA (aL dO (bD kU (cO cH (pv 1) aE (fun _ _=>rfl)) (bF aE) bN) (aS [97,97,97,97,97,97,97,97] (by decide +kernel))) aD))))) (bJ (i:=3) fV.nd rfl (Or.inl rfl)) (aG (bT (Fa (Hh (aO C__law_pieces_refused hr aZ (aA (pv 2) (aA (pv 3) aD))))) (aG (bA hU)) aW)))
   (aB (aI (i:=3) fV.nd rfl (Or.inl rfl) (bD kU (cO cH (pv 1) (aL bY (aO C__law_cell_at hr aZ (aA (pv 0) (aA aE aD))) (aQ aV (by rfl) tt.b_len PySem.boot_len (aA (pv 1) aD))) (fun _ _=>rfl)) (bF aE) bN))
   (aB (aI (i:=4) fV.nd rfl (Or.inl rfl) (aO C_tree_count hr aZ (aA (pv 2) (aA (pv 3) aD))))
   (aB (aI (i:=5) fV.nd rfl (Or.inl rfl) (aL bY (aO C__law_cell_at hr aZ (aA (pv 0) (aA aE aD))) (aL Er aE aE)))
   (aB (cC PassesOwn.never rfl (bW (bK (aA (sV nG aE) (aA (pv 4) (aA (aL cQ (pv 4) (pv 5)) (aA (aL fR (sV nG aE) (pv 5)) aD)))))) (bJ (i:=6) fV.nd rfl (Or.inl rfl)) (aG (bT (aN iO (aO C__law_word hr aZ (aA aE (aA (pv 2) (aA (pv 3) (aA (pv 6) aD))))) (aS [115,117,99,104] (by decide +kernel)) (aP _)) (aG (bA hU)) aW)))
   (aB (bT (aN jI (pv 4) aE (aP _)) (aB (aI (i:=7) fV.nd rfl (Or.inl rfl) (aO C_tree_by hr aZ (aA (pv 2) (aA (pv 3) (aA (aL bY (pv 5) (pv 4)) aD)))))
   (aB (Hn (t':=(fun D σ G=>∃ (s0 s2 s3 s4 s5 s6 s8 s9:Option V) (Dw Tr:Addr) (us ls:List (List Nat)) (w0:List Nat),σ=[s0,some (.ref Dw),s2,s3,s4,s5,s6,some (.ref Tr),s8,s9]∧G Dw=some (.lst (ls.map T))∧ls[0]?=some w0∧G Tr=some (.lst (us.map T))∧us.length<=60∧∀ (Sp a1 a2 r3:Addr) (G':Hp),aM G G'->G' Sp=some (.lst ([a1,a2,r3].map V.ref))->SqA K G' a1 ((us++[w0]).map T)->SqA K G' a2 ((us.drop 1++[[103]]).map T)->SqA K G' r3 ((us++[[97]]).map T)->D.nx [s0,some (.ref Dw),s2,s3,s4,s5,s6,some (.ref Tr),some (.ref Sp),s9] G')) (aI (i:=8) fV.nd rfl (Or.inl rfl) (bK (aA (aL eV (pv 7) (bK (aA (cO cH (pv 1) aE (fun _ _=>rfl)) aD))) (aA (aL eV (bD dF (pv 7) (bF aE) bN) (bK (aA (aS [103] (by decide +kernel)) aD))) (aA (aL Hb (dR lA (by rfl) tt.b_tuple (by decide +kernel) (aA (pv 7) aD)) (Fw (aA (aS [97] (by decide +kernel)) aD))) aD))))) ?rB)
   (aB (Hn (t':=(fun D σ G=>∃ (s0 s1 s2 s3 s4 s5 s6 s9:Option V) (Tr Sp:Addr) (us:List (List Nat)) (rs:List Addr) (Bad:List (List Nat)->Prop),σ=[s0,s1,s2,s3,s4,s5,s6,some (.ref Tr),some (.ref Sp),s9]∧G Tr=some (.lst (us.map T))∧us.length<=60∧G Sp=some (.lst (rs.map V.ref))∧rs.length<=10∧(∀ r∈rs,∃ vs,SqA K G r (vs.map T)∧Bad vs)∧(us≠[]->Bad (us.drop 1)∧Bad (us.take 1++us))∧∀ (Sp':Addr) (rs':List Addr) (G':Hp),aM G G'->G' Sp'=some (.lst (rs'.map V.ref))->(∀ r∈rs',∃ vs,SqA K G' r (vs.map T)∧Bad vs)->D.nx [s0,s1,s2,s3,s4,s5,s6,some (.ref Tr),some (.ref Sp'),s9] G')) (bT (aN jI (aQ aV (by rfl) tt.b_len PySem.boot_len (aA (pv 7) aD)) aE (aP _)) (aG (aI (i:=8) fV.nd rfl (Or.inl rfl) (aL eV (pv 8) (bK (aA (bD dF (pv 7) (bF aE) bN) (aA (aL eV (bD dF (pv 7) bN (bF aE)) (pv 7)) aD)))))) aW) ?rA)
   (aB (cC PassesOwn.never rfl (bW (pv 8)) (bJ (i:=9) fV.nd rfl (Or.inl rfl)) (aG (bT (aN iO (aO C__law_word hr aZ (aA aE (aA (pv 2) (aA (pv 3) (aA (pv 9) aD))))) (aS [111,110,101] (by decide +kernel)) (aP _)) (aG (bA hU)) aW)))
   (aG (bT (PW.pt (wI (aN iO (aO C__law_word hr aZ (aA aE (aA (pv 2) (aA (pv 3) (aA (pv 7) aD))))) (aS [] (by decide +kernel)) (aP _)) (pY (aN iO (aO C__law_word hr aZ (aA aE (aA (pv 2) (aA (pv 3) (aA (aL fR (pv 4) aE) aD))))) (aS [] (by decide +kernel)) (aP _))))) (aG (bA hU)) aW)))))) aW)
   (aG (bA (pA (aO C__law_great hr aZ (aA (aO C__law_cell_at hr aZ (aA (pv 0) (aA aE aD))) aD)) (oU (aO C__law_edge hr aZ (aA (aO C__law_cell_at hr aZ (aA (pv 0) (aA aE aD))) aD)))))))))))))),?_⟩
  (try rw [dI]);(try rw [cxK1])
  case rA =>
   rintro D0 σ G ⟨s0,s1,s2,s3,s4,s5,s6,s9,Tr,Sp,us,rs,Bad,rfl,hT,hul,hSp,hrl,hrs,hbad,hD⟩
   refine ⟨_,rfl,Tr,_,rfl,.inl (SqL.of hT),_,_,rfl,rfl,_,rfl,?_⟩
   by_cases hu:us=[]
   ·refine itN (fun z=>by rw [hu] at z;exact absurd (of_decide_eq_true z) (by decide)) ?_
    exact hD Sp rs G (aM.refl _) hSp hrs
   ·have hpos:=List.length_pos_iff.mpr hu
    refine itP (decide_eq_true (by rw [List.length_map];omega)) ?_
    obtain ⟨hb1,hb2⟩:=hbad hu
    refine ⟨_,rfl,_,rfl,_,rfl,Tr,_,rfl,SqL.of hT,fun p1 hp1=>?_⟩
    rw [Ba]
    have t1:=aF (o:=.lst ((us.drop 1).map T)) hp1
    refine ⟨_,rfl,_,rfl,Tr,_,rfl,SqL.of (t1 Tr _ hT),fun p2 hp2=>?_⟩
    rw [Bv]
    have t2:=aF (o:=.lst ((us.take 1).map T)) hp2
    refine ⟨_,rfl,p2,Tr,_,_,rfl,rfl,SqL.of aC,SqL.of (t2 Tr _ (t1 Tr _ hT)),(by rw [List.length_map,List.length_map,List.length_take];omega),fun p3 hp3=>?_⟩
    have t3:=aF (o:=.lst ((us.take 1).map T++us.map T)) hp3
    refine ⟨(by show 2<=sizeLine;omega),fun p4 hp4=>?_⟩
    have t4:=aF (o:=.lst [V.ref p1,V.ref p3]) hp4
    have t14:=t1.trans (t2.trans (t3.trans t4))
    refine ⟨Sp,p4,_,_,rfl,rfl,SqL.of (t14 Sp _ hSp),SqL.of aC,(by rw [List.length_map];show _+2<=sizeLine;omega),fun p5 hp5=>?_⟩
    have t5:=aF (o:=.lst (rs.map V.ref++[V.ref p1,V.ref p3])) hp5
    refine hD p5 (rs++[p1,p3]) _ (t14.trans t5) (by rw [aC,List.map_append];rfl) fun r hr'=>?_
    rcases List.mem_append.mp hr' with z | z
    ·obtain ⟨vs,h1,h2⟩:=hrs r z
     exact ⟨vs,h1.on (t14.trans t5),h2⟩
    ·rcases List.mem_cons.mp z with z | z
     ·rw [z]
      exact ⟨_,.inl (SqL.of ((t2.trans (t3.trans (t4.trans t5))) p1 _ aC)),hb1⟩
     ·rw [List.mem_singleton.mp z]
      exact ⟨_,.inl (SqL.of (by rw [(t4.trans t5) p3 _ aC,<- List.map_append])),hb2⟩
  case rB =>
   rintro D0 σ G ⟨s0,s2,s3,s4,s5,s6,s8,s9,Dw,Tr,us,ls,w0,rfl,hDw,hw0,hT,hul,hD⟩
   refine ⟨_,rfl,_,rfl,Dw,_,_,_,rfl,rfl,SqL.of hDw,bS (j:=0) (by rw [List.getElem?_map,hw0];rfl),(by show 1<=sizeLine;omega),fun e1 he1=>?_⟩
   have u1:=aF (o:=.lst [T w0]) he1
   refine ⟨Tr,e1,_,_,rfl,rfl,SqL.of (u1 Tr _ hT),SqL.of aC,(by rw [List.length_map];show _+1<=sizeLine;omega),fun a1 ha1=>?_⟩
   have u2:=aF (o:=.lst (us.map T++[T w0])) ha1
   have hT2:=u2 Tr _ (u1 Tr _ hT)
   refine ⟨_,rfl,_,rfl,Tr,_,rfl,SqL.of hT2,fun p2 hp2=>?_⟩
   rw [Ba]
   have u3:=aF (o:=.lst ((us.drop 1).map T)) hp2
   refine ⟨(by show 1<=sizeLine;omega),fun e2 he2=>?_⟩
   have u4:=aF (o:=.lst [T [103]]) he2
   refine ⟨p2,e2,_,_,rfl,rfl,SqL.of (u4 p2 _ aC),SqL.of aC,(by rw [List.length_map,List.length_drop];show _+1<=sizeLine;omega),fun a2 ha2=>?_⟩
   have u5:=aF (o:=.lst ((us.drop 1).map T++[T [103]])) ha2
   have u35:=u3.trans (u4.trans u5)
   have hT5:=u35 Tr _ hT2
   refine ⟨_,rfl,Tr,_,rfl,.inl ⟨SqL.of hT5,fun t3 ht3=>?_⟩⟩
   have u6:=aF (o:=.tup (us.map T)) ht3
   refine ⟨(by show 1<=sizeLine;omega),fun q3 hq3=>?_⟩
   have u7:=aF (o:=.tup [T [97]]) hq3
   have u67:=u6.trans u7
   refine ⟨t3,q3,_,_,rfl,rfl,SqT.of (u7 t3 _ aC),SqT.of aC,(by simp),(by rw [List.length_map];show _+1<=sizeLine;omega),fun hz=>?_,fun hz p3 hp3=>?_⟩
   ·refine ⟨(by show 3<=sizeLine;omega),fun Sp hSp=>?_⟩
    have u8:=aF (o:=.lst ([a1,a2,q3].map V.ref)) hSp
    have u68:=u67.trans u8
    exact hD Sp a1 a2 q3 _ (u1.trans (u2.trans (u35.trans u68))) aC (.inl (SqL.of (((u35.trans u68) a1 _ aC).trans (by rw [List.map_append];rfl)))) (.inl (SqL.of ((u68 a2 _ aC).trans (by rw [List.map_append];rfl)))) (.inr (SqT.of ((u8 q3 _ aC).trans (by rw [List.map_append,hz];rfl))))
   ·have u7b:=aF (o:=.tup (us.map T++[T [97]])) hp3
    refine ⟨(by show 3<=sizeLine;omega),fun Sp hSp=>?_⟩
    have u8:=aF (o:=.lst ([a1,a2,p3].map V.ref)) hSp
    have u68:=u67.trans (u7b.trans u8)
    exact hD Sp a1 a2 p3 _ (u1.trans (u2.trans (u35.trans u68))) aC (.inl (SqL.of (((u35.trans u68) a1 _ aC).trans (by rw [List.map_append];rfl)))) (.inl (SqL.of ((u68 a2 _ aC).trans (by rw [List.map_append];rfl)))) (.inr (SqT.of ((u8 p3 _ aC).trans (by rw [List.map_append];rfl))))
  refine ⟨_,rfl,a,ns,rfl,hS,fun D ls n H1 s1 hd hwl hn hne hll=>?_⟩
  have hok:fP ls n:=⟨hne,by omega,⟨⟨by omega,by omega⟩,qQ.len (by omega)⟩,hwl.1,hwl.2⟩
  refine ⟨_,rfl,?_⟩
  intro x dx nx ndx nex
  have s2:aM H1 (upd (upd H1 dx (.own x)) x (.ins ad.Web dx [])):=fun b o e=>by
   rw [aH (aK e nx),aH (aK e ndx)]
   exact e
  refine ⟨x,dx,D,ls,n,rfl,aC,SqL.of (s2 D _ hd),hok,fun tp ms H2 hp2 hw2 k2 hx2 ht2=>⟨rfl,?_⟩⟩
  have s2:aM H1 H2:=fun b o e=>k2 b o (s2 b o e) (aK e nx)
  have hW:fN ad.Web H2 x tp n ms:=⟨⟨dx,hx2⟩,ht2⟩
  have hokm:=hok.perm hp2
  have hd2:=s2 D _ hd
  have hml:=hp2.length_eq
  have hwf:∀ l∈ls,l.length=n∧∀ c∈l,97<=c∧c<103:=hwl.1
  have hxl:∀ l∈ls,1<=l.length∧l.length<=1000:=fun l hl=>by have:=(hwl.1 l hl).1;omega
  have s12:=s1.trans s2
  obtain ⟨w0,hw0⟩:∃ w0,ls[0]?=some w0:=⟨ls[0]'(List.length_pos_iff.mpr hne),List.getElem?_eq_getElem _⟩
  have hw0m:=List.mem_of_getElem? hw0
  have hw0l:=(hwf w0 hw0m).1
  have hpl:∀ z,IsP ms z->z.length=n-1∧∀ c∈z,97<=c∧c<103:=fun z hz=>by
   obtain ⟨l,hl,e | e⟩:=(IsP.perm hp2 z).mp hz
   ·have:=hwf l hl
    rw [e]
    exact ⟨by show (l.take (l.length-1)).length=_;rw [List.length_take];omega,fun c hc=>this.2 c (List.mem_of_mem_take hc)⟩
   ·have:=hwf l hl
    rw [e]
    exact ⟨by rw [List.length_drop];omega,fun c hc=>this.2 c (List.mem_of_mem_drop hc)⟩
  have hat0:atI (ls.map T) 0=some (T w0):=bS (j:=0) (by rw [List.getElem?_map,hw0];rfl)
  refine ⟨_,rfl,D,_,_,_,rfl,rfl,SqL.of hd2,hat0,_,rfl,_,rfl,(by show _+1<=sizeLine;omega),_,rfl,D,_,_,_,rfl,rfl,SqL.of hd2,hat0,_,rfl,_,rfl,(by omega),_,rfl,_,rfl,?_⟩
  rw [show fE w0 (some 1) none=w0.drop 1 from hZ (k:=1) (by omega)]
  refine ⟨(by rw [List.length_drop];show _+8<=sizeLine;omega),(by show 3<=sizeLine;omega),fun l3 hl3=>?_⟩
  have t3:=aF (o:=.lst ([[103],w0++[97],w0.drop 1++[97,97,97,97,97,97,97,97]].map T)) hl3
  refine ⟨l3,rfl,⟨_,SqL.of aC⟩,?_⟩
  refine cK (K:=K) (a:=l3) (xs:=[[103],w0++[97],w0.drop 1++[97,97,97,97,97,97,97,97]].map T) (fun i σ G=>aM H2 G∧G l3=some (.lst ([[103],w0++[97],w0.drop 1++[97,97,97,97,97,97,97,97]].map T))∧∃ v3:Option V,σ=[some (.ref a),some (.ref D),some (.ref x),v3,none,none,none,none,none,none]) ⟨t3,aC,none,rfl⟩ (fun i σ G _ h=>SqL.of h.2.1) ?_ ?_
  ·rintro i y σ G hi ⟨sG,h3,v3,rfl⟩
   obtain ⟨pz,hpz,rfl⟩:∃ pz,[[103],w0++[97],w0.drop 1++[97,97,97,97,97,97,97,97]][i]?=some pz∧T pz=y:=by rw [List.getElem?_map] at hi;exact Option.map_eq_some_iff.mp hi
   have hnp:¬ IsP ms pz:=fun z=>by
    obtain ⟨z1,z2⟩:=hpl pz z
    have hm:=List.mem_of_getElem? hpz
    rcases List.mem_cons.mp hm with e | e
    ·rw [e] at z2
     have:=z2 103 (by simp)
     omega
    ·rcases List.mem_cons.mp e with e | e
     ·rw [e,List.length_append] at z1
      have:w0.length+1=n-1:=z1
      omega
     ·rw [List.mem_singleton.mp e,List.length_append,List.length_drop] at z1
      have:w0.length-1+8=n-1:=z1
      omega
   refine ⟨_,rfl,_,rfl,x,tp,n,ms,pz,rfl,hW.on sG,hokm,hnp,fun G1 s4=>?_⟩
   refine ⟨_,rfl,Bw ?_⟩
   exact ⟨sG.trans s4,s4 l3 _ h3,_,rfl⟩
  rintro σ G ⟨sG,_,v3,rfl⟩
  have hll0:0<ls.length:=List.length_pos_iff.mpr hne
  obtain ⟨r,hr1,hr2⟩:∃ r:Nat,ns.getD 3 0 % ((ls.length:Nat):Int)=(r:Int)∧r<ls.length:=by
   have z0:=Int.emod_nonneg (ns.getD 3 0) (show ((ls.length:Nat):Int)≠0 by omega)
   have z1:=Int.emod_lt_of_pos (ns.getD 3 0) (show (0:Int)<((ls.length:Nat):Int) by omega)
   exact ⟨(ns.getD 3 0 % ((ls.length:Nat):Int)).toNat,by omega,by omega⟩
  obtain ⟨wr,hwr⟩:∃ wr,ls[r]?=some wr:=⟨_,List.getElem?_eq_getElem hr2⟩
  have hwrm:=List.mem_of_getElem? hwr
  have hwrl:=(hwf wr hwrm).1
  have hip:IsP ms (wr.drop 1):=⟨wr,hp2.mem_iff.mpr hwrm,.inr rfl⟩
  refine ⟨_,rfl,_,rfl,a,ns,3,rfl,(s12.trans sG).seq hS,_,rfl,D,_,rfl,.inl (SqL.of (sG D _ hd2)),_,_,rfl,rfl,(by rw [List.length_map];omega),D,_,_,_,rfl,rfl,SqL.of (sG D _ hd2),(by rw [List.length_map,hr1];exact bS (by rw [List.getElem?_map,hwr];rfl)),_,rfl,_,rfl,(by omega),?_⟩
  rw [show fE wr (some 1) none=wr.drop 1 from hZ (k:=1) (by omega)]
  generalize hpe:wr.drop 1=p at hip
  refine ⟨_,rfl,_,rfl,x,tp,n,ms,p,rfl,hW.on sG,hokm,fun z=>absurd hip z,fun _ ps H3 s3 _ hpw hpn hpm=>?_⟩
  rw [gK (hpn.sublist List.filter_sublist)]
  have hts:=nR (p:=p) hpw hpn hpm
  generalize (ps.filter fun o=>decide (o≠p))=ts at hts
  have htn:=hts.nd
  generalize hM:Dt.nC ts (bE ms)=M
  have s23:=sG.trans s3
  refine ⟨_,rfl,a,ns,4,rfl,(s12.trans s23).seq hS,_,_,rfl,rfl,⟨by decide,by decide,by decide⟩,_,_,rfl,rfl,(by show (0:Int)<10 ^ 17;decide),?_⟩
  obtain ⟨fr,hfr,hfr0⟩:∃ fr:Int,fr=ns.getD 4 0 % 10 ^ 17∧0<=fr:=⟨_,rfl,Int.emod_nonneg _ (by decide)⟩
  rw [show (fun i j=>V.int (i % j)) (ns.getD 4 0) ((10:Int) ^ Int.toNat 17)=V.int fr from congrArg V.int hfr.symm]
  refine ⟨_,rfl,_,rfl,_,rfl,_,rfl,_,_,rfl,rfl,_,rfl,_,rfl,_,_,rfl,rfl,(by show 4<=sizeLine;omega),fun l4 hl4=>?_⟩
  have t4:=aF (o:=.lst ([-1,(M:Int),(M:Int)+fr,-1-fr].map V.int)) hl4
  refine ⟨l4,rfl,⟨_,SqL.of aC⟩,?_⟩
  have s24:=s23.trans t4
  refine cK (K:=K) (a:=l4) (xs:=[-1,(M:Int),(M:Int)+fr,-1-fr].map V.int) (fun i σ G=>aM H2 G∧G l4=some (.lst ([-1,(M:Int),(M:Int)+fr,-1-fr].map V.int))∧∃ v6:Option V,σ=[some (.ref a),some (.ref D),some (.ref x),some (T p),some (.int (M:Nat)),some (.int fr),v6,none,none,none]) ⟨s24,aC,none,rfl⟩ (fun i σ G _ h=>SqL.of h.2.1) ?_ ?_
  ·rintro i y σ G hi ⟨sG,h4,v6,rfl⟩
   obtain ⟨z,hz,rfl⟩:∃ z,[-1,(M:Int),(M:Int)+fr,-1-fr][i]?=some z∧V.int z=y:=by rw [List.getElem?_map] at hi;exact Option.map_eq_some_iff.mp hi
   have hzn:¬ (0<=z∧z<(M:Int)):=fun h=>by
    have hm:=List.mem_of_getElem? hz
    rcases List.mem_cons.mp hm with e | e
    ·omega
    ·rcases List.mem_cons.mp e with e | e
     ·omega
     ·rcases List.mem_cons.mp e with e | e
      ·omega
      ·have:=List.mem_singleton.mp e;omega
   refine ⟨_,rfl,_,rfl,_,rfl,3,x,tp,n,ms,p,.int z,[115,117,99,104],rfl,hW.on sG,hokm,.inr ⟨hip,ts,hts,.inr (.inl ⟨rfl,z,rfl,.inl ⟨by rw [hM];exact hzn,rfl⟩⟩)⟩,fun G1 s5=>?_⟩
   refine ⟨_,rfl,_,rfl,_,rfl,?_⟩
   refine itN (by rw [decide_eq_true rfl];exact Bool.false_ne_true) ?_
   exact ⟨sG.trans s5,s5 l4 _ h4,_,rfl⟩
  rintro σ G ⟨sG,_,v6,rfl⟩
  refine ⟨_,rfl,_,_,rfl,rfl,_,rfl,?_⟩
  by_cases hM0:M=0
  ·refine itN (fun z=>by have:=of_decide_eq_true z;omega) ?_
   refine ⟨_,rfl,a,ns,5,rfl,(s12.trans sG).seq hS,_,rfl,fun G1 s5=>⟨_,rfl,itP rfl ?_⟩⟩
   exact ⟨_,rfl,a,ns,6,rfl,(s12.trans (sG.trans s5)).seq hS,_,rfl,fun G2 s6=>q G2⟩
  refine itP (decide_eq_true (by omega)) ?_
  obtain ⟨jj,hj1,hj2⟩:∃ j:Nat,fr % (M:Int)=(j:Int)∧j<M:=by
   have z0:=Int.emod_nonneg fr (show (M:Int)≠0 by omega)
   have z1:=Int.emod_lt_of_pos fr (show (0:Int)<(M:Int) by omega)
   exact ⟨(fr % (M:Int)).toNat,by omega,by omega⟩
  have hMl:(Dt.trs ts ts (bE ms)).length=M:=by rw [<- hM];exact Dt.iZ htn (fun t h=>h) kK
  refine ⟨_,rfl,_,rfl,_,rfl,_,rfl,_,_,rfl,rfl,(by omega),x,tp,n,ms,p,_,rfl,hW.on sG,hokm,fun z=>absurd hip z,fun _ ts2 hts2=>⟨fun z=>absurd ⟨by rw [hj1];omega,by rw [hj1,<- hts2.uniq hts,hM];omega⟩ z,fun j2 us e2 hus Tr G1 hTr s5 hdT=>?_⟩⟩
  obtain rfl:=hts2.uniq hts
  have hin:=List.mem_of_getElem? hus
  obtain ⟨hmb,hmm,hcm⟩:=(iM htn).mp hin
  have hult:us.length=ts.length:=by rw [<- hmb,List.length_map]
  have hul:us.length<=60:=by rw [hult];exact hts.len60 (by omega)
  have hux:∀ y∈us,1<=y.length∧y.length<=1000:=fun y hy=>hxl y (hp2.mem_iff.mp (hmm y hy))
  have sG1:=sG.trans s5
  have hbadl:∀ vs:List (List Nat),vs.length≠us.length->vs∉Dt.trs ts ts (bE ms):=fun vs hv z=>hv (by rw [hult,<- ((iM htn).mp z).1,List.length_map])
  refine ⟨_,_,_,_,_,_,_,_,D,Tr,us,ls,w0,rfl,sG1 D _ hd2,hw0,hdT,hul,fun Sp a1 a2 r3 G3 u18 hSp h31 h32 h33=>?_⟩
  have sG2:=sG1.trans u18
  refine ⟨_,_,_,_,_,_,_,_,Tr,Sp,us,[a1,a2,r3],fun vs=>(vs.length<=1000∧∀ y∈vs,1<=y.length∧y.length<=1000)∧vs∉Dt.trs ts ts (bE ms),rfl,u18 Tr _ hdT,hul,hSp,by show 3<=10;decide,fun r hr'=>?_,fun hune=>?_,fun Sp' rs' G' sG' hSp' hrs'=>?_⟩
  ·rcases List.mem_cons.mp hr' with z | z
   ·rw [z]
    refine ⟨us++[w0],h31,⟨by rw [List.length_append];show _+1<=1000;omega,fun y hy=>?_⟩,hbadl _ (by rw [List.length_append];show _+1≠_;omega)⟩
    rcases List.mem_append.mp hy with e | e
    ·exact hux y e
    ·rw [List.mem_singleton.mp e];exact hxl w0 hw0m
   ·rcases List.mem_cons.mp z with z | z
    ·rw [z]
     refine ⟨us.drop 1++[[103]],h32,⟨by rw [List.length_append,List.length_drop];show _+1<=1000;omega,fun y hy=>?_⟩,fun hin2=>?_⟩
     ·rcases List.mem_append.mp hy with e | e
      ·exact hux y (List.mem_of_mem_drop e)
      ·rw [List.mem_singleton.mp e];decide
     ·have h9:=((iM htn).mp hin2).2.1 [103] (List.mem_append_right _ (List.mem_singleton.mpr rfl))
      have:=(hwf _ (hp2.mem_iff.mp h9)).2 103 (by simp)
      omega
    ·rw [List.mem_singleton.mp z]
     refine ⟨us++[[97]],h33,⟨by rw [List.length_append];show _+1<=1000;omega,fun y hy=>?_⟩,hbadl _ (by rw [List.length_append];show _+1≠_;omega)⟩
     rcases List.mem_append.mp hy with e | e
     ·exact hux y e
     ·rw [List.mem_singleton.mp e];decide
  ·have hpos:=List.length_pos_iff.mpr hune
   refine ⟨⟨⟨by rw [List.length_drop];omega,fun y hy=>hux y (List.mem_of_mem_drop hy)⟩,hbadl _ (by rw [List.length_drop];omega)⟩,⟨⟨by rw [List.length_append,List.length_take];omega,fun y hy=>?_⟩,hbadl _ (by rw [List.length_append,List.length_take];omega)⟩⟩
   rcases List.mem_append.mp hy with e | e
   ·exact hux y (List.mem_of_mem_take e)
   ·exact hux y e
  have sG3:=sG2.trans sG'
  refine ⟨_,rfl,Sp',rfl,⟨_,SqL.of hSp'⟩,?_⟩
  refine cK (K:=K) (a:=Sp') (xs:=rs'.map V.ref) (fun i σ G4=>aM G' G4∧∃ v9:Option V,σ=[some (.ref a),some (.ref D),some (.ref x),some (T p),some (.int (M:Nat)),some (.int fr),v6,some (.ref Tr),some (.ref Sp'),v9]) ⟨aM.refl _,none,rfl⟩ (fun i σ G4 _ h=>SqL.of (h.1 Sp' _ hSp')) ?_ ?_
  ·rintro i y σ G4 hi ⟨sG4,v9,rfl⟩
   obtain ⟨r9,hr9,rfl⟩:∃ r9,rs'[i]?=some r9∧V.ref r9=y:=by rw [List.getElem?_map] at hi;exact Option.map_eq_some_iff.mp hi
   obtain ⟨vs,hvs,⟨hvl,hvx⟩,hvn⟩:=hrs' r9 (List.mem_of_getElem? hr9)
   refine ⟨_,rfl,_,rfl,_,rfl,4,x,tp,n,ms,p,.ref r9,[111,110,101],rfl,hW.on (sG3.trans sG4),hokm,.inr ⟨hip,ts,hts,.inr (.inr ⟨rfl,r9,vs,⟨rfl,hvs.on sG4,hvl,hvx⟩,.inl ⟨hvn,rfl⟩⟩)⟩,fun G5 s9=>?_⟩
   refine ⟨_,rfl,_,rfl,_,rfl,?_⟩
   refine itN (by rw [decide_eq_true rfl];exact Bool.false_ne_true) ?_
   exact ⟨sG4.trans s9,_,rfl⟩
  rintro σ G4 ⟨sG4,v9,rfl⟩
  have hT9:=(u18.trans (sG'.trans sG4)) Tr _ hdT
  have sG5:=sG3.trans sG4
  refine ⟨_,rfl,_,rfl,_,rfl,4,x,tp,n,ms,p,.ref Tr,[],rfl,hW.on sG5,hokm,.inr ⟨hip,ts,hts,.inr (.inr ⟨rfl,Tr,us,⟨rfl,.inl (SqL.of hT9),by omega,hux⟩,.inr ⟨hin,rfl⟩⟩)⟩,fun G5 s9=>?_⟩
  refine ⟨_,rfl,_,rfl,_,rfl,?_⟩
  refine itN (by rw [decide_eq_true rfl];exact Bool.false_ne_true) ?_
  refine ⟨_,rfl,_,rfl,_,rfl,_,_,rfl,rfl,3,x,tp,n,ms,p,_,[],rfl,hW.on (sG5.trans s9),hokm,.inr ⟨hip,ts,hts,.inr (.inl ⟨rfl,_,rfl,.inr ⟨by rw [hM];omega,rfl⟩⟩)⟩,fun G6 s10=>?_⟩
  refine ⟨_,rfl,_,rfl,_,rfl,?_⟩
  refine itN (by rw [decide_eq_true rfl];exact Bool.false_ne_true) ?_
  have sG6:=sG5.trans (s9.trans s10)
  refine ⟨_,rfl,a,ns,5,rfl,(s12.trans sG6).seq hS,_,rfl,fun G7 s11=>⟨_,rfl,itP rfl ?_⟩⟩
  exact ⟨_,rfl,a,ns,6,rfl,(s12.trans (sG6.trans s11)).seq hS,_,rfl,fun G8 s12'=>q G8⟩
end
def HF (K:PySem.W.Frag)(f:Addr)(nm:Str)(st:Stmt):Prop:=∃ (oc:Value) (od:Option Addr) (kV dc pm:Value) (an:Option Addr) (cd ct:Value) (sl:Array (Option Value)),PySem.W.nsIn K mainGlobals nm=some (some (.ref f))∧K.lookup f=some ⟨oc,od,.func (PySem.W.fnOf nm nm (fX st) (eR st) (aJ st) .none kV dc pm an cd ct),sl⟩∧PySem.W.codeIn K cd nm=true∧PySem.W.keepIn K (.ref f)=true
theorem HF.go {K:PySem.W.Frag}{f:Addr}{nm:Str}{st:Stmt}(h:HF K f nm st):∃ fd,Fun K nm nm st f fd∧PySem.W.nsIn K mainGlobals nm=some (some (.ref f)):=by
 obtain ⟨oc,od,kV,dc,pm,an,cd,ct,sl,a,l,c,k⟩:=h
 exact ⟨_,zB (st:=st) l c k,a⟩
theorem hf_mk {K:PySem.W.Frag}{f:Addr}{nm:Str}{st:Stmt}{oc:Value}{od:Option Addr}{kV dc pm:Value}{an:Option Addr}{cd ct:Value}{sl:Array (Option Value)}(a:PySem.W.nsIn K mainGlobals nm=some (some (.ref f)))(l:K.lookup f=some ⟨oc,od,.func (PySem.W.fnOf nm nm (fX st) (eR st) (aJ st) .none kV dc pm an cd ct),sl⟩)(c:PySem.W.codeIn K cd nm=true)(k:PySem.W.keepIn K (.ref f)=true):HF K f nm st:=⟨oc,od,kV,dc,pm,an,cd,ct,sl,a,l,c,k⟩
theorem mkC (P:Program)(w:World){K:PySem.W.Frag}{mg:Str->Option Value}{h:Heap}(base:Heap)(X:K.In h)(G:h.Ns mainGlobals mg){nm:Str}{st:Stmt}{f:Addr}{fd:FuncData}{k:Nat}{ps:List Str}{sp:Sp}(a:PySem.W.nsIn K mainGlobals nm=some (some (.ref f)))(F:Fun K nm nm st f fd)(ok:cD P w K mg base (CX1 P w) k f fd ps sp)(b:lD K fd ps []):Cal P w K mg base (CX1 P w) nm k ps sp:=⟨⟨_,_,ok,PySem.W.mg_of X G a,F.kp,b⟩⟩
theorem all_mk {l:PySem.W.OpenLaw}{w:World}{K:PySem.W.Frag}{h:Heap}{mg:Str->Option Value}{fa:Addr}(X:K.In h)(G:h.Ns mainGlobals mg)(hfa:mg "law" = some (.ref fa))
  {f_0 f_1 f_2 f_3 f_4 f_5 f_6 f_7 f_8 f_9 f_10 f_11:Addr}
  {f_12:Addr} {od_12 an_12:Option Addr} {sl_12:Array (Option Value)} {oc_12 kV_12 dc_12 pm_12 cd_12 ct_12:Value}
  {f_13 f_14 f_15 f_16 f_17 f_18 f_19 f_20 f_21 f_22 f_23 f_24 f_25 f_26 f_27 f_28 f_29 f_30 f_31 f_32 f_33 f_34 f_35 f_36 f_37:Addr}
  {f_38:Addr} {od_38 an_38:Option Addr} {sl_38:Array (Option Value)} {oc_38 kV_38 dc_38 pm_38 cd_38 ct_38:Value}
  {c_BadKinds:Addr}
  {c_BadWord:Addr}
  {c_TooMany:Addr}
  {c_NoSuch:Addr}
  {c_NotOne:Addr}
  {c_OnceError:Addr}
  {c_Web:Addr}
  {c_KNOWN_TIMES:Addr}
  {u_FIRST_PRIME:Value}
  {u_STEP:Value}
  {u_LETTERS:Value}
  {u_LONGEST:Value}
  {u_MOST_OF_A_WEB:Value}
  {u_LONGEST_OF_A_WEB:Value}
  {u_MOST_TREES:Value}
  (h_0:HF K f_0 "further_times" fQ)
  (h_1:HF K f_1 "inverse" mZ)
  (h_2:HF K f_2 "lowered" kQ)
  (h_3:HF K f_3 "first_other_than_nought" cR)
  (h_4:HF K f_4 "determinant_rest" bZ)
  (h_5:HF K f_5 "greatest_of" fL)
  (h_6:HF K f_6 "determinant" gX)
  (h_7:HF K f_7 "looked_kinds" gE)
  (h_8:HF K f_8 "looked_length" fS)
  (h_9:HF K f_9 "letters" nE)
  (h_10:HF K f_10 "looked" pP)
  (h_11:HF K f_11 "looked_web" iV)
  (a_12:PySem.W.findIn K (.ref c_Web) "__init__" = some (some (.ref f_12))) (l_12:K.lookup f_12=some ⟨oc_12,od_12,.func (PySem.W.fnOf "__init__" "Web.__init__" (fX fH) (eR fH) (aJ fH) .none kV_12 dc_12 pm_12 an_12 cd_12 ct_12),sl_12⟩) (c_12:PySem.W.codeIn K cd_12 "Web.__init__" = true) (k_12:PySem.W.keepIn K (.ref f_12)=true) (i_Web_init:PySem.W.isFn K (.ref f_12)=true)
  (h_13:HF K f_13 "begin_of" lI)
  (h_14:HF K f_14 "end_of" pT)
  (h_15:HF K f_15 "pieces" kA)
  (h_16:HF K f_16 "outs" uG)
  (h_17:HF K f_17 "choice_row" eZ)
  (h_18:HF K f_18 "choices_counted" dW)
  (h_19:HF K f_19 "ways_toward" gW)
  (h_20:HF K f_20 "tree_count" iJ)
  (h_21:HF K f_21 "coming_to" jV)
  (h_22:HF K f_22 "is_tree" iF)
  (h_23:HF K f_23 "tree_by" mX)
  (h_24:HF K f_24 "tree_number" gY)
  (h_25:HF K f_25 "grown" uS)
  (h_26:HF K f_26 "trees" oK)
  (h_27:HF K f_27 "_law_cell_at" gH)
  (h_28:HF K f_28 "_law_walk" gT)
  (h_29:HF K f_29 "_law_ring_words" fC)
  (h_30:HF K f_30 "_law_every" fY)
  (h_31:HF K f_31 "_law_digit_words" eI)
  (h_32:HF K f_32 "_law_some_words" eY)
  (h_33:HF K f_33 "_law_word" jT)
  (h_34:HF K f_34 "_law_pieces_refused" dS)
  (h_35:HF K f_35 "_law_grid" gP)
  (h_36:HF K f_36 "_law_great" iY)
  (h_37:HF K f_37 "_law_edge" fM)
  (a_38:PySem.W.nsIn K mainGlobals "law" = some (some (.ref f_38))) (l_38:K.lookup f_38=some ⟨oc_38,od_38,.func (PySem.W.fnOf "law" "law" (fX mD) (eR mD) (aJ mD) .none kV_38 dc_38 pm_38 an_38 cd_38 ct_38),sl_38⟩) (c_38:PySem.W.codeIn K cd_38 "law" = true) (k_38:PySem.W.keepIn K (.ref f_38)=true)
  (z_abs:PySem.W.nsIn K mainGlobals "abs" = some none)
  (z_all:PySem.W.nsIn K mainGlobals "all" = some none)
  (z_enumerate:PySem.W.nsIn K mainGlobals "enumerate" = some none)
  (z_isinstance:PySem.W.nsIn K mainGlobals "isinstance" = some none)
  (z_len:PySem.W.nsIn K mainGlobals "len" = some none)
  (z_list:PySem.W.nsIn K mainGlobals "list" = some none)
  (z_range:PySem.W.nsIn K mainGlobals "range" = some none)
  (z_set:PySem.W.nsIn K mainGlobals "set" = some none)
  (z_sorted:PySem.W.nsIn K mainGlobals "sorted" = some none)
  (z_sum:PySem.W.nsIn K mainGlobals "sum" = some none)
  (z_tuple:PySem.W.nsIn K mainGlobals "tuple" = some none)
  (z_zip:PySem.W.nsIn K mainGlobals "zip" = some none)
  (y_BadKinds:PySem.W.nsIn K mainGlobals "BadKinds" = some (some (.ref c_BadKinds)))
  (y_BadWord:PySem.W.nsIn K mainGlobals "BadWord" = some (some (.ref c_BadWord)))
  (y_TooMany:PySem.W.nsIn K mainGlobals "TooMany" = some (some (.ref c_TooMany)))
  (y_NoSuch:PySem.W.nsIn K mainGlobals "NoSuch" = some (some (.ref c_NoSuch)))
  (y_NotOne:PySem.W.nsIn K mainGlobals "NotOne" = some (some (.ref c_NotOne)))
  (y_OnceError:PySem.W.nsIn K mainGlobals "OnceError" = some (some (.ref c_OnceError)))
  (y_Web:PySem.W.nsIn K mainGlobals "Web" = some (some (.ref c_Web)))
  (y_KNOWN_TIMES:PySem.W.nsIn K mainGlobals "KNOWN_TIMES" = some (some (.ref c_KNOWN_TIMES)))
  (e_BadKinds:PySem.W.excIn K c_BadKinds yW "ValueError.__new__" = true)
  (e_BadWord:PySem.W.excIn K c_BadWord yW "ValueError.__new__" = true)
  (e_TooMany:PySem.W.excIn K c_TooMany yW "ValueError.__new__" = true)
  (e_NoSuch:PySem.W.excIn K c_NoSuch yW "ValueError.__new__" = true)
  (e_NotOne:PySem.W.excIn K c_NotOne yW "ValueError.__new__" = true)
  (n1_NoSuch:PySem.W.findIn K (.ref c_NoSuch) "__getattribute__" = some (some (.builtin "BaseException.__getattribute__")))
  (n2_NoSuch:PySem.W.findIn K (.ref c_NoSuch) "__getattr__" = some none)
  (n3_NoSuch:PySem.W.findIn K (.ref c_NoSuch) "__class__" = some (some (.builtin "object.__class__")))
  (n4_NoSuch:PySem.W.specialIn K (.builtin "object.__class__") "__get__" = some (some (.builtin "getset_descriptor.__get__")))
  (n5_NoSuch:PySem.W.takesIn K (.builtin "object.__class__")=some true)
  (n6_NoSuch:PySem.W.mroIn K c_NoSuch (.type "object")=some true)
  (n7_NoSuch:PySem.W.mroIn K c_NoSuch (.type "BaseException")=some true)
  (n8_NoSuch:(PySem.W.clsIn K c_NoSuch).isSome=true)
  (n1_NotOne:PySem.W.findIn K (.ref c_NotOne) "__getattribute__" = some (some (.builtin "BaseException.__getattribute__")))
  (n2_NotOne:PySem.W.findIn K (.ref c_NotOne) "__getattr__" = some none)
  (n3_NotOne:PySem.W.findIn K (.ref c_NotOne) "__class__" = some (some (.builtin "object.__class__")))
  (n4_NotOne:PySem.W.specialIn K (.builtin "object.__class__") "__get__" = some (some (.builtin "getset_descriptor.__get__")))
  (n5_NotOne:PySem.W.takesIn K (.builtin "object.__class__")=some true)
  (n6_NotOne:PySem.W.mroIn K c_NotOne (.type "object")=some true)
  (n7_NotOne:PySem.W.mroIn K c_NotOne (.type "BaseException")=some true)
  (n8_NotOne:(PySem.W.clsIn K c_NotOne).isSome=true)
  (n1_TooMany:PySem.W.findIn K (.ref c_TooMany) "__getattribute__" = some (some (.builtin "BaseException.__getattribute__")))
  (n2_TooMany:PySem.W.findIn K (.ref c_TooMany) "__getattr__" = some none)
  (n3_TooMany:PySem.W.findIn K (.ref c_TooMany) "__class__" = some (some (.builtin "object.__class__")))
  (n4_TooMany:PySem.W.specialIn K (.builtin "object.__class__") "__get__" = some (some (.builtin "getset_descriptor.__get__")))
  (n5_TooMany:PySem.W.takesIn K (.builtin "object.__class__")=some true)
  (n6_TooMany:PySem.W.mroIn K c_TooMany (.type "object")=some true)
  (n7_TooMany:PySem.W.mroIn K c_TooMany (.type "BaseException")=some true)
  (n8_TooMany:(PySem.W.clsIn K c_TooMany).isSome=true)
  (g_FIRST_PRIME:PySem.W.nsIn K mainGlobals "FIRST_PRIME" = some (some u_FIRST_PRIME)) (r_FIRST_PRIME:bH (.int 2305843009213693951) u_FIRST_PRIME)
  (g_STEP:PySem.W.nsIn K mainGlobals "STEP" = some (some u_STEP)) (r_STEP:bH (.int 6277101735386680763835789423207666416102355444464034512896) u_STEP)
  (g_LETTERS:PySem.W.nsIn K mainGlobals "LETTERS" = some (some u_LETTERS)) (r_LETTERS:bH (T [97,98,99,100,101,102]) u_LETTERS)
  (g_LONGEST:PySem.W.nsIn K mainGlobals "LONGEST" = some (some u_LONGEST)) (r_LONGEST:bH (.int 24) u_LONGEST)
  (g_MOST_OF_A_WEB:PySem.W.nsIn K mainGlobals "MOST_OF_A_WEB" = some (some u_MOST_OF_A_WEB)) (r_MOST_OF_A_WEB:bH (.int 64) u_MOST_OF_A_WEB)
  (g_LONGEST_OF_A_WEB:PySem.W.nsIn K mainGlobals "LONGEST_OF_A_WEB" = some (some u_LONGEST_OF_A_WEB)) (r_LONGEST_OF_A_WEB:bH (.int 8) u_LONGEST_OF_A_WEB)
  (g_MOST_TREES:PySem.W.nsIn K mainGlobals "MOST_TREES" = some (some u_MOST_TREES)) (r_MOST_TREES:bH (.int 500) u_MOST_TREES)
  (q_so:PySem.W.exmOne K (.ref c_NoSuch) (.ref c_OnceError)=some true)
  (q_ss:PySem.W.kitOne K (.ref c_NoSuch) (.ref c_NoSuch)=some true)
  (q_sn:PySem.W.kitOne K (.ref c_NoSuch) (.ref c_NotOne)=some false)
  (q_sm:PySem.W.kitOne K (.ref c_NoSuch) (.ref c_TooMany)=some false)
  (q_no:PySem.W.exmOne K (.ref c_NotOne) (.ref c_OnceError)=some true)
  (q_ns:PySem.W.kitOne K (.ref c_NotOne) (.ref c_NoSuch)=some false)
  (q_nn:PySem.W.kitOne K (.ref c_NotOne) (.ref c_NotOne)=some true)
  (q_nm:PySem.W.kitOne K (.ref c_NotOne) (.ref c_TooMany)=some false)
  (q_mo:PySem.W.exmOne K (.ref c_TooMany) (.ref c_OnceError)=some true)
  (q_ms:PySem.W.kitOne K (.ref c_TooMany) (.ref c_NoSuch)=some false)
  (q_mn:PySem.W.kitOne K (.ref c_TooMany) (.ref c_NotOne)=some false)
  (q_mm:PySem.W.kitOne K (.ref c_TooMany) (.ref c_TooMany)=some true)
  (kt:tupIs K c_KNOWN_TIMES [133,211,598,652,721,850,1282,1417,1582,1681,1726,1837,1885,2017,2377,2383,2452,2476,2530,2611,2662,2698,2773,2878,2917,2980,2998,3082,3238,3250,3343,3421,3427,3670,3817,4162,4252,4447,4468,4621,4630,4747,4867,4891,4915,5128,5143,5236,5401,5587,5650,5803,5833,5923,5986,6202,6235,6286,6496,6526,6736,7093,7561,7696,7831,7855,7882,7927,8143,8248]=true)
  (pg_Web:PySem.W.plainGet K c_Web Str.empty=true) (hd_Web:PySem.W.hasDictIn K c_Web=true) (po_Web:PySem.W.plainOver K c_Web=true) (sa_Web:PySem.W.findIn K (.ref c_Web) "__setattr__" = some (some (.builtin "object.__setattr__"))) (mk_Web:PySem.W.makesIn K c_Web=true) (kc_Web:PySem.W.keepIn K (.ref c_Web)=true)
  (na_Web_words:PySem.W.findIn K (.ref c_Web) "words" = some none)
  (na_Web_length:PySem.W.findIn K (.ref c_Web) "length" = some none) :
  ∃ fd:FuncData,(∀ (s:Shared) (v:Value),BindsTo s fd ⟨[v],[]⟩ [("script",v)])∧∀ base:Heap,K.In base->base.Ns mainGlobals mg->cD l.prog w K mg base (CX1 l.prog w) 9 fa fd ["script"] (At K):=by
 have e:=hfa.symm.trans (PySem.W.mg_of X G a_38)
 cases e
 have tt:Txt K mg ⟨c_BadKinds,c_BadWord,c_TooMany,c_NoSuch,c_NotOne,c_OnceError,c_Web,c_KNOWN_TIMES,u_FIRST_PRIME,u_STEP,u_LETTERS,u_LONGEST,u_MOST_OF_A_WEB,u_LONGEST_OF_A_WEB,u_MOST_TREES⟩:=⟨PySem.W.mg_none_of X G z_abs,PySem.W.mg_none_of X G z_all,PySem.W.mg_none_of X G z_enumerate,PySem.W.mg_none_of X G z_isinstance,PySem.W.mg_none_of X G z_len,PySem.W.mg_none_of X G z_list,PySem.W.mg_none_of X G z_range,PySem.W.mg_none_of X G z_set,PySem.W.mg_none_of X G z_sorted,PySem.W.mg_none_of X G z_sum,PySem.W.mg_none_of X G z_tuple,PySem.W.mg_none_of X G z_zip,PySem.W.mg_of X G y_BadKinds,PySem.W.mg_of X G y_BadWord,PySem.W.mg_of X G y_TooMany,PySem.W.mg_of X G y_NoSuch,PySem.W.mg_of X G y_NotOne,PySem.W.mg_of X G y_OnceError,PySem.W.mg_of X G y_Web,PySem.W.mg_of X G y_KNOWN_TIMES,⟨PySem.W.mg_of X G y_BadKinds,e_BadKinds⟩,⟨PySem.W.mg_of X G y_BadWord,e_BadWord⟩,⟨PySem.W.mg_of X G y_TooMany,e_TooMany⟩,⟨PySem.W.mg_of X G y_NoSuch,e_NoSuch⟩,⟨PySem.W.mg_of X G y_NotOne,e_NotOne⟩,⟨n1_NoSuch,n2_NoSuch,n3_NoSuch,n4_NoSuch,n5_NoSuch,n6_NoSuch,n7_NoSuch,n8_NoSuch⟩,⟨n1_NotOne,n2_NotOne,n3_NotOne,n4_NotOne,n5_NotOne,n6_NotOne,n7_NotOne,n8_NotOne⟩,⟨n1_TooMany,n2_TooMany,n3_TooMany,n4_TooMany,n5_TooMany,n6_TooMany,n7_TooMany,n8_TooMany⟩,PySem.W.mg_of X G g_FIRST_PRIME,r_FIRST_PRIME,PySem.W.mg_of X G g_STEP,r_STEP,PySem.W.mg_of X G g_LETTERS,r_LETTERS,PySem.W.mg_of X G g_LONGEST,r_LONGEST,PySem.W.mg_of X G g_MOST_OF_A_WEB,r_MOST_OF_A_WEB,PySem.W.mg_of X G g_LONGEST_OF_A_WEB,r_LONGEST_OF_A_WEB,PySem.W.mg_of X G g_MOST_TREES,r_MOST_TREES,q_so,q_ss,q_sn,q_sm,q_no,q_ns,q_nn,q_nm,q_mo,q_ms,q_mn,q_mm,kt,⟨pg_Web,hd_Web,po_Web,sa_Web⟩,na_Web_words,na_Web_length⟩
 obtain ⟨_,F_0,a_0⟩:=h_0.go
 have b_0:=F_0.binds (ps:=["place", "last"]) fun _ _ _ _ _ _ us hl=>L2.on2 (C:=fun us=>bindArgs _ ⟨us,[]⟩=pure (List.zip _ us)) hl fun _ _=>rfl
 obtain ⟨_,F_1,a_1⟩:=h_1.go
 have b_1:=F_1.binds (ps:=["number", "prime"]) fun _ _ _ _ _ _ us hl=>L2.on2 (C:=fun us=>bindArgs _ ⟨us,[]⟩=pure (List.zip _ us)) hl fun _ _=>rfl
 obtain ⟨_,F_2,a_2⟩:=h_2.go
 have b_2:=F_2.binds (ps:=["row", "top", "back", "prime"]) fun _ _ _ _ _ _ us hl=>L2.on4 (C:=fun us=>bindArgs _ ⟨us,[]⟩=pure (List.zip _ us)) hl fun _ _ _ _=>rfl
 obtain ⟨_,F_3,a_3⟩:=h_3.go
 have b_3:=F_3.binds (ps:=["numbers"]) fun _ _ _ _ _ _ us hl=>L2.on1 (C:=fun us=>bindArgs _ ⟨us,[]⟩=pure (List.zip _ us)) hl fun _=>rfl
 obtain ⟨_,F_4,a_4⟩:=h_4.go
 have b_4:=F_4.binds (ps:=["square", "prime"]) fun _ _ _ _ _ _ us hl=>L2.on2 (C:=fun us=>bindArgs _ ⟨us,[]⟩=pure (List.zip _ us)) hl fun _ _=>rfl
 obtain ⟨_,F_5,a_5⟩:=h_5.go
 have b_5:=F_5.binds (ps:=["square"]) fun _ _ _ _ _ _ us hl=>L2.on1 (C:=fun us=>bindArgs _ ⟨us,[]⟩=pure (List.zip _ us)) hl fun _=>rfl
 obtain ⟨_,F_6,a_6⟩:=h_6.go
 have b_6:=F_6.binds (ps:=["square"]) fun _ _ _ _ _ _ us hl=>L2.on1 (C:=fun us=>bindArgs _ ⟨us,[]⟩=pure (List.zip _ us)) hl fun _=>rfl
 obtain ⟨_,F_7,a_7⟩:=h_7.go
 have b_7:=F_7.binds (ps:=["kinds"]) fun _ _ _ _ _ _ us hl=>L2.on1 (C:=fun us=>bindArgs _ ⟨us,[]⟩=pure (List.zip _ us)) hl fun _=>rfl
 obtain ⟨_,F_8,a_8⟩:=h_8.go
 have b_8:=F_8.binds (ps:=["length", "kinds"]) fun _ _ _ _ _ _ us hl=>L2.on2 (C:=fun us=>bindArgs _ ⟨us,[]⟩=pure (List.zip _ us)) hl fun _ _=>rfl
 obtain ⟨_,F_9,a_9⟩:=h_9.go
 have b_9:=F_9.binds (ps:=["kinds"]) fun _ _ _ _ _ _ us hl=>L2.on1 (C:=fun us=>bindArgs _ ⟨us,[]⟩=pure (List.zip _ us)) hl fun _=>rfl
 obtain ⟨_,F_10,a_10⟩:=h_10.go
 have b_10:=F_10.binds (ps:=["word", "kinds"]) fun _ _ _ _ _ _ us hl=>L2.on2 (C:=fun us=>bindArgs _ ⟨us,[]⟩=pure (List.zip _ us)) hl fun _ _=>rfl
 obtain ⟨_,F_11,a_11⟩:=h_11.go
 have b_11:=F_11.binds (ps:=["words"]) fun _ _ _ _ _ _ us hl=>L2.on1 (C:=fun us=>bindArgs _ ⟨us,[]⟩=pure (List.zip _ us)) hl fun _=>rfl
 have F_12:=zB (st:=fH) l_12 c_12 k_12
 have b_12:=F_12.binds (ps:=["self", "words"]) fun _ _ _ _ _ _ us hl=>L2.on2 (C:=fun us=>bindArgs _ ⟨us,[]⟩=pure (List.zip _ us)) hl fun _ _=>rfl
 obtain ⟨_,F_13,a_13⟩:=h_13.go
 have b_13:=F_13.binds (ps:=["word"]) fun _ _ _ _ _ _ us hl=>L2.on1 (C:=fun us=>bindArgs _ ⟨us,[]⟩=pure (List.zip _ us)) hl fun _=>rfl
 obtain ⟨_,F_14,a_14⟩:=h_14.go
 have b_14:=F_14.binds (ps:=["word"]) fun _ _ _ _ _ _ us hl=>L2.on1 (C:=fun us=>bindArgs _ ⟨us,[]⟩=pure (List.zip _ us)) hl fun _=>rfl
 obtain ⟨_,F_15,a_15⟩:=h_15.go
 have b_15:=F_15.binds (ps:=["web"]) fun _ _ _ _ _ _ us hl=>L2.on1 (C:=fun us=>bindArgs _ ⟨us,[]⟩=pure (List.zip _ us)) hl fun _=>rfl
 obtain ⟨_,F_16,a_16⟩:=h_16.go
 have b_16:=F_16.binds (ps:=["web", "piece"]) fun _ _ _ _ _ _ us hl=>L2.on2 (C:=fun us=>bindArgs _ ⟨us,[]⟩=pure (List.zip _ us)) hl fun _ _=>rfl
 obtain ⟨_,F_17,a_17⟩:=h_17.go
 have b_17:=F_17.binds (ps:=["texts", "text", "words"]) fun _ _ _ _ _ _ us hl=>L2.on3 (C:=fun us=>bindArgs _ ⟨us,[]⟩=pure (List.zip _ us)) hl fun _ _ _=>rfl
 obtain ⟨_,F_18,a_18⟩:=h_18.go
 have b_18:=F_18.binds (ps:=["ways"]) fun _ _ _ _ _ _ us hl=>L2.on1 (C:=fun us=>bindArgs _ ⟨us,[]⟩=pure (List.zip _ us)) hl fun _=>rfl
 obtain ⟨_,F_19,a_19⟩:=h_19.go
 have b_19:=F_19.binds (ps:=["web", "piece"]) fun _ _ _ _ _ _ us hl=>L2.on2 (C:=fun us=>bindArgs _ ⟨us,[]⟩=pure (List.zip _ us)) hl fun _ _=>rfl
 obtain ⟨_,F_20,a_20⟩:=h_20.go
 have b_20:=F_20.binds (ps:=["web", "piece"]) fun _ _ _ _ _ _ us hl=>L2.on2 (C:=fun us=>bindArgs _ ⟨us,[]⟩=pure (List.zip _ us)) hl fun _ _=>rfl
 obtain ⟨_,F_21,a_21⟩:=h_21.go
 have b_21:=F_21.binds (ps:=["words", "piece"]) fun _ _ _ _ _ _ us hl=>L2.on2 (C:=fun us=>bindArgs _ ⟨us,[]⟩=pure (List.zip _ us)) hl fun _ _=>rfl
 obtain ⟨_,F_22,a_22⟩:=h_22.go
 have b_22:=F_22.binds (ps:=["web", "piece", "tree"]) fun _ _ _ _ _ _ us hl=>L2.on3 (C:=fun us=>bindArgs _ ⟨us,[]⟩=pure (List.zip _ us)) hl fun _ _ _=>rfl
 obtain ⟨_,F_23,a_23⟩:=h_23.go
 have b_23:=F_23.binds (ps:=["web", "piece", "number"]) fun _ _ _ _ _ _ us hl=>L2.on3 (C:=fun us=>bindArgs _ ⟨us,[]⟩=pure (List.zip _ us)) hl fun _ _ _=>rfl
 obtain ⟨_,F_24,a_24⟩:=h_24.go
 have b_24:=F_24.binds (ps:=["web", "piece", "tree"]) fun _ _ _ _ _ _ us hl=>L2.on3 (C:=fun us=>bindArgs _ ⟨us,[]⟩=pure (List.zip _ us)) hl fun _ _ _=>rfl
 obtain ⟨_,F_25,a_25⟩:=h_25.go
 have b_25:=F_25.binds (ps:=["begun", "words", "later", "piece", "size"]) fun _ _ _ _ _ _ us hl=>L2.on5 (C:=fun us=>bindArgs _ ⟨us,[]⟩=pure (List.zip _ us)) hl fun _ _ _ _ _=>rfl
 obtain ⟨_,F_26,a_26⟩:=h_26.go
 have b_26:=F_26.binds (ps:=["web", "piece"]) fun _ _ _ _ _ _ us hl=>L2.on2 (C:=fun us=>bindArgs _ ⟨us,[]⟩=pure (List.zip _ us)) hl fun _ _=>rfl
 obtain ⟨_,F_27,a_27⟩:=h_27.go
 have b_27:=F_27.binds (ps:=["script", "k"]) fun _ _ _ _ _ _ us hl=>L2.on2 (C:=fun us=>bindArgs _ ⟨us,[]⟩=pure (List.zip _ us)) hl fun _ _=>rfl
 obtain ⟨_,F_28,a_28⟩:=h_28.go
 have b_28:=F_28.binds (ps:=["cells", "kinds", "first"]) fun _ _ _ _ _ _ us hl=>L2.on3 (C:=fun us=>bindArgs _ ⟨us,[]⟩=pure (List.zip _ us)) hl fun _ _ _=>rfl
 obtain ⟨_,F_29,a_29⟩:=h_29.go
 have b_29:=F_29.binds (ps:=["script", "at", "most"]) fun _ _ _ _ _ _ us hl=>L2.on3 (C:=fun us=>bindArgs _ ⟨us,[]⟩=pure (List.zip _ us)) hl fun _ _ _=>rfl
 obtain ⟨_,F_30,a_30⟩:=h_30.go
 have b_30:=F_30.binds (ps:=["kinds", "length"]) fun _ _ _ _ _ _ us hl=>L2.on2 (C:=fun us=>bindArgs _ ⟨us,[]⟩=pure (List.zip _ us)) hl fun _ _=>rfl
 obtain ⟨_,F_31,a_31⟩:=h_31.go
 have b_31:=F_31.binds (ps:=["cell", "most"]) fun _ _ _ _ _ _ us hl=>L2.on2 (C:=fun us=>bindArgs _ ⟨us,[]⟩=pure (List.zip _ us)) hl fun _ _=>rfl
 obtain ⟨_,F_32,a_32⟩:=h_32.go
 have b_32:=F_32.binds (ps:=["script", "at", "most"]) fun _ _ _ _ _ _ us hl=>L2.on3 (C:=fun us=>bindArgs _ ⟨us,[]⟩=pure (List.zip _ us)) hl fun _ _ _=>rfl
 obtain ⟨_,F_33,a_33⟩:=h_33.go
 have b_33:=F_33.binds (ps:=["way", "web", "piece", "more"]) fun _ _ _ _ _ _ us hl=>L2.on4 (C:=fun us=>bindArgs _ ⟨us,[]⟩=pure (List.zip _ us)) hl fun _ _ _ _=>rfl
 obtain ⟨_,F_34,a_34⟩:=h_34.go
 have b_34:=F_34.binds (ps:=["web", "piece"]) fun _ _ _ _ _ _ us hl=>L2.on2 (C:=fun us=>bindArgs _ ⟨us,[]⟩=pure (List.zip _ us)) hl fun _ _=>rfl
 obtain ⟨_,F_35,a_35⟩:=h_35.go
 have b_35:=F_35.binds (ps:=["kinds"]) fun _ _ _ _ _ _ us hl=>L2.on1 (C:=fun us=>bindArgs _ ⟨us,[]⟩=pure (List.zip _ us)) hl fun _=>rfl
 obtain ⟨_,F_36,a_36⟩:=h_36.go
 have b_36:=F_36.binds (ps:=["cell"]) fun _ _ _ _ _ _ us hl=>L2.on1 (C:=fun us=>bindArgs _ ⟨us,[]⟩=pure (List.zip _ us)) hl fun _=>rfl
 obtain ⟨_,F_37,a_37⟩:=h_37.go
 have b_37:=F_37.binds (ps:=["cell"]) fun _ _ _ _ _ _ us hl=>L2.on1 (C:=fun us=>bindArgs _ ⟨us,[]⟩=pure (List.zip _ us)) hl fun _=>rfl
 have F_38:=zB (st:=mD) l_38 c_38 k_38
 refine ⟨PySem.W.fnOf "law" "law" (fX mD) (eR mD) (aJ mD) .none kV_38 dc_38 pm_38 an_38 cd_38 ct_38,fun s v=>.of_eq rfl,fun base _ _=>?_⟩
 have C_0:=mkC l.prog w base X G a_0 F_0 (mQ F_0 tt) b_0
 have C_1:=mkC l.prog w base X G a_1 F_1 (yK F_1 tt) b_1
 have C_2:=mkC l.prog w base X G a_2 F_2 (xU F_2 tt) b_2
 have C_3:=mkC l.prog w base X G a_3 F_3 (gI F_3 tt) b_3
 have C_4:=mkC l.prog w base X G a_4 F_4 (kW F_4 tt C_3 C_1 C_2) b_4
 have C_5:=mkC l.prog w base X G a_5 F_5 (pE F_5 tt) b_5
 have C_6:=mkC l.prog w base X G a_6 F_6 (pB F_6 tt C_5 C_4 C_0 C_1) b_6
 have C_7:=mkC l.prog w base X G a_7 F_7 (oH F_7 tt) b_7
 have C_8:=mkC l.prog w base X G a_8 F_8 (mP F_8 tt C_7) b_8
 have C_9:=mkC l.prog w base X G a_9 F_9 (xT F_9 tt C_7) b_9
 have C_10:=mkC l.prog w base X G a_10 F_10 (Bt F_10 tt C_8 C_9) b_10
 have C_11:=mkC l.prog w base X G a_11 F_11 (rD F_11 tt C_10) b_11
 have C_12:Cam l.prog w K mg base (CX1 l.prog w) "Web" c_Web 5 ["self", "words"] (pZ K _):=⟨⟨_,_,xJ F_12 tt C_11,⟨mk_Web,a_12,i_Web_init,kc_Web⟩,PySem.W.mg_of X G y_Web,b_12⟩⟩
 have C_13:=mkC l.prog w base X G a_13 F_13 (wB F_13 tt) b_13
 have C_14:=mkC l.prog w base X G a_14 F_14 (Cn F_14 tt) b_14
 have C_15:=mkC l.prog w base X G a_15 F_15 (Bu F_15 tt C_13 C_14) b_15
 have C_16:=mkC l.prog w base X G a_16 F_16 (Jg F_16 tt C_13) b_16
 have C_17:=mkC l.prog w base X G a_17 F_17 (rR F_17 tt C_14) b_17
 have C_18:=mkC l.prog w base X G a_18 F_18 (lL F_18 tt C_6 C_17) b_18
 have C_19:=mkC l.prog w base X G a_19 F_19 (qW F_19 tt C_15 C_16) b_19
 have C_20:=mkC l.prog w base X G a_20 F_20 (rP F_20 tt C_18 C_19) b_20
 have C_21:=mkC l.prog w base X G a_21 F_21 (tS F_21 tt C_14 C_13) b_21
 have C_22:=mkC l.prog w base X G a_22 F_22 (zD F_22 tt C_19 C_13 C_21) b_22
 have C_23:=mkC l.prog w base X G a_23 F_23 (xP F_23 tt C_19 C_18 C_16) b_23
 have C_24:=mkC l.prog w base X G a_24 F_24 (pC F_24 tt C_19 C_22 C_13 C_16 C_18) b_24
 have C_25:=mkC l.prog w base X G a_25 F_25 (Dz F_25 tt C_21) b_25
 have C_26:=mkC l.prog w base X G a_26 F_26 (Hd F_26 tt C_19 C_18 C_13 C_25) b_26
 have C_27:=mkC l.prog w base X G a_27 F_27 (nY F_27 tt) b_27
 have C_28:=mkC l.prog w base X G a_28 F_28 (tP F_28 tt) b_28
 have C_29:=mkC l.prog w base X G a_29 F_29 (lN F_29 tt C_27 C_28) b_29
 have C_30:=mkC l.prog w base X G a_30 F_30 (rC F_30 tt) b_30
 have C_31:=mkC l.prog w base X G a_31 F_31 (kR F_31 tt C_30) b_31
 have C_32:=mkC l.prog w base X G a_32 F_32 (lJ F_32 tt C_27 C_29 C_31) b_32
 have C_33:=mkC l.prog w base X G a_33 F_33 (uO F_33 tt C_20 C_22 C_26 C_23 C_24) b_33
 have C_34:=mkC l.prog w base X G a_34 F_34 (iK F_34 tt C_33) b_34
 have C_35:=mkC l.prog w base X G a_35 F_35 (vG F_35 tt) b_35
 have C_36:=mkC l.prog w base X G a_36 F_36 (rK F_36 tt C_35 C_12 C_20 C_33 C_26) b_36
 have C_37:=mkC l.prog w base X G a_37 F_37 (tV F_37 tt C_12 C_20 C_26 C_33) b_37
 exact Kv F_38 tt C_32 C_12 C_34 C_27 C_20 C_33 C_23 C_36 C_37
theorem walk {l : PySem.W.OpenLaw} {q : Program} {loose : List Str} {XP : (Str → Option Value) → Heap → Prop} {YP : World → Heap → Prop} {d : DefRec} {K : Params → PySem.W.Frag} (hn : l.most = some 63) (hdf : d.params.defaults = [])
  (hY : ∀ (w : World) (h : Heap), YP w h → (K w.params).In h)
  (F : ∀ (w : World) (mg : Str → Option Value) (fa : Addr) (h : Heap), (K w.params).In h → h.Ns mainGlobals mg → mg d.name = some (.ref fa) →
   ∃ fd : FuncData, (∀ (s : Shared) (u : Value), BindsTo s fd ⟨[u], []⟩ [("script", u)]) ∧ ∀ base : Heap, (K w.params).In base → base.Ns mainGlobals mg → cD l.prog w (K w.params) mg base (CX1 l.prog w) 9 fa fd ["script"] (At (K w.params))) :
  PySem.W.WalkO q loose XP YP l.row.toRowW d [] (fun f vs => PySem.call f vs) :=
 L2.Jv (n := 63) (k := 9) (x := "script") (CX := fun w => CX1 l.prog w) (sp := fun w => At (K w.params)) hn (by decide) hdf ⟨rfl, by decide, by decide⟩ hY F (fun _ _ a ns hl _ hS => ⟨a, ns, rfl, hS, hl, fun _ => rfl⟩) fun _ _ _ _ _ ⟨_, _, _, _, _, z⟩ => z
end K34
theorem PySem.W.Fast.tw12038621698539106528:True:=trivial
theorem PySem.W.Fast.tw16612134959288181120:True:=trivial
theorem PySem.W.Fast.tw8764975730150360480:True:=trivial
theorem PySem.W.Fast.tw2417748505733913248:True:=trivial
theorem PySem.W.Fast.tw4218827636703048416:True:=trivial
theorem PySem.W.Fast.tw3735476905932014336:True:=trivial
theorem PySem.W.Fast.tw4692878637614626560:True:=trivial
theorem PySem.W.Fast.tw11840935000458657664:True:=trivial
theorem PySem.W.Fast.tw5359715982800919456:True:=trivial
theorem PySem.W.Fast.tw13850524974517968864:True:=trivial
theorem PySem.W.Fast.tw3728414452966119585:True:=trivial
theorem PySem.W.Fast.tw11079607774433294817:True:=trivial
theorem PySem.W.Fast.tw13779722073112757761:True:=trivial
theorem PySem.W.Fast.tw4146441201187593761:True:=trivial
theorem PySem.W.Fast.tw12039002134914887521:True:=trivial
theorem PySem.W.Fast.tw4374129010152261569:True:=trivial
theorem PySem.W.Fast.tw16303339594163246242:True:=trivial
theorem PySem.W.Fast.tw16414082838533511426:True:=trivial
theorem PySem.W.Fast.tw8388426543753187395:True:=trivial
theorem PySem.W.Fast.tw16608274622150827459:True:=trivial
theorem PySem.W.Fast.tw14810067391952060931:True:=trivial
theorem PySem.W.Fast.tw1173050763246514819:True:=trivial
theorem PySem.W.Fast.tw12481410331475713763:True:=trivial
theorem PySem.W.Fast.tw6305827395359976355:True:=trivial
theorem PySem.W.Fast.tw3077015102668922884:True:=trivial
theorem PySem.W.Fast.tw5237285906603644228:True:=trivial
theorem PySem.W.Fast.tw15138104528390083940:True:=trivial
theorem PySem.W.Fast.tw5746211471053478276:True:=trivial
theorem PySem.W.Fast.tw5190023909176218020:True:=trivial
theorem PySem.W.Fast.tw11129102865571860004:True:=trivial
theorem PySem.W.Fast.tw12420181277074439940:True:=trivial
theorem PySem.W.Fast.tw7959543995582151492:True:=trivial
theorem PySem.W.Fast.tw15696861580583195909:True:=trivial
theorem PySem.W.Fast.tw9922568624055464389:True:=trivial
theorem PySem.W.Fast.tw6344100759010005477:True:=trivial
theorem PySem.W.Fast.tw329135884378800134:True:=trivial
theorem PySem.W.Fast.tw11049427154326355271:True:=trivial
theorem PySem.W.Fast.tw8697295741626218023:True:=trivial
theorem PySem.W.Fast.tw193709741427824872:True:=trivial
theorem PySem.W.Fast.tw3204400852620480840:True:=trivial
theorem PySem.W.Fast.tw3793624918896970152:True:=trivial
theorem PySem.W.Fast.tw4963293185183874696:True:=trivial
theorem PySem.W.Fast.tw2968844163853040360:True:=trivial
theorem PySem.W.Fast.tw12695664400539075400:True:=trivial
theorem PySem.W.Fast.tw8753106877997976681:True:=trivial
theorem PySem.W.Fast.tw18199034980409988201:True:=trivial
theorem PySem.W.Fast.tw10113560680670888201:True:=trivial
theorem PySem.W.Fast.tw795637277140923977:True:=trivial
theorem PySem.W.Fast.tw16727489367991345769:True:=trivial
theorem PySem.W.Fast.tw17071005920712695529:True:=trivial
theorem PySem.W.Fast.tw3775128450708419305:True:=trivial
theorem PySem.W.Fast.tw6274847346325219145:True:=trivial
theorem PySem.W.Fast.tw14832891973032180553:True:=trivial
theorem PySem.W.Fast.tw11785166164424762217:True:=trivial
theorem PySem.W.Fast.tw13868953673741299561:True:=trivial
theorem PySem.W.Fast.tw16178177265305326473:True:=trivial
theorem PySem.W.Fast.tw10134662984041449353:True:=trivial
theorem PySem.W.Fast.tw5318060499149495370:True:=trivial
theorem PySem.W.Fast.tw13140848317959759018:True:=trivial
theorem PySem.W.Fast.tw17278425297870224746:True:=trivial
theorem PySem.W.Fast.tw6115945339813564970:True:=trivial
theorem PySem.W.Fast.tw11767940252732128106:True:=trivial
theorem PySem.W.Fast.tw2579505210529831818:True:=trivial
theorem PySem.W.Fast.tw15763660511865244618:True:=trivial
theorem PySem.W.Fast.tw13954389661508264938:True:=trivial
theorem PySem.W.Fast.tw15324974058441835627:True:=trivial
theorem PySem.W.Fast.tw8133793593102524651:True:=trivial
theorem PySem.W.Fast.tw3041569288704087339:True:=trivial
theorem PySem.W.Fast.tw8224700391774265803:True:=trivial
theorem PySem.W.Fast.tw16892379258561930859:True:=trivial
theorem PySem.W.Fast.tw938421387989523115:True:=trivial
theorem PySem.W.Fast.tw2445853308871841451:True:=trivial
theorem PySem.W.Fast.tw4929563840669273835:True:=trivial
theorem PySem.W.Fast.tw1396273227489377163:True:=trivial
theorem PySem.W.Fast.tw7298703476762918124:True:=trivial
theorem PySem.W.Fast.tw9169791471075741004:True:=trivial
theorem PySem.W.Fast.tw17684543713070841260:True:=trivial
theorem PySem.W.Fast.tw5209339582312896332:True:=trivial
theorem PySem.W.Fast.tw15695668572814106604:True:=trivial
theorem PySem.W.Fast.tw10503617689769281581:True:=trivial
theorem PySem.W.Fast.tw14388345904456210701:True:=trivial
theorem PySem.W.Fast.tw7709029151824636173:True:=trivial
theorem PySem.W.Fast.tw1431173268418835821:True:=trivial
theorem PySem.W.Fast.tw17135321146513673773:True:=trivial
theorem PySem.W.Fast.tw14997573097688818349:True:=trivial
theorem PySem.W.Fast.tw275084554642219981:True:=trivial
theorem PySem.W.Fast.tw5692151735739796686:True:=trivial
theorem PySem.W.Fast.tw15846087607952303374:True:=trivial
theorem PySem.W.Fast.tw5828751654860262766:True:=trivial
theorem PySem.W.Fast.tw3586747287024866734:True:=trivial
theorem PySem.W.Fast.tw16635870071089786286:True:=trivial
theorem PySem.W.Fast.tw9470611845153434190:True:=trivial
theorem PySem.W.Fast.tw17504485886096554063:True:=trivial
theorem PySem.W.Fast.tw7976798025404722319:True:=trivial
theorem PySem.W.Fast.tw7605439706607645903:True:=trivial
theorem PySem.W.Fast.tw17349471707729833231:True:=trivial
theorem PySem.W.Fast.tw4074710087344023887:True:=trivial
theorem PySem.W.Fast.tw2028161488672968399:True:=trivial
theorem PySem.W.Fast.tw12893745649948442319:True:=trivial
theorem PySem.W.Fast.tw11716702663096763215:True:=trivial
theorem PySem.W.Fast.tw17213814541783665551:True:=trivial
theorem PySem.W.Fast.tw17067778261918631887:True:=trivial
theorem PySem.W.Fast.tw13738070608707766288:True:=trivial
theorem PySem.W.Fast.tw8554016848975064400:True:=trivial
theorem PySem.W.Fast.tw2936643463292795440:True:=trivial
theorem PySem.W.Fast.tw8360214966600473168:True:=trivial
theorem PySem.W.Fast.tw9448217865203229456:True:=trivial
theorem PySem.W.Fast.tw6492703599072123728:True:=trivial
theorem PySem.W.Fast.tw16023453268416441264:True:=trivial
theorem PySem.W.Fast.tw2458521314281995216:True:=trivial
theorem PySem.W.Fast.tw18343066155304677457:True:=trivial
theorem PySem.W.Fast.tw2698193545167147121:True:=trivial
theorem PySem.W.Fast.tw271933828093905137:True:=trivial
theorem PySem.W.Fast.tw8702625283281750257:True:=trivial
theorem PySem.W.Fast.tw17412707196209820113:True:=trivial
theorem PySem.W.Fast.tw4730357254928901777:True:=trivial
theorem PySem.W.Fast.tw15833509417078875985:True:=trivial
theorem PySem.W.Fast.tw12252595619781608369:True:=trivial
theorem PySem.W.Fast.tw7344425956165849234:True:=trivial
theorem PySem.W.Fast.tw18251023795400539506:True:=trivial
theorem PySem.W.Fast.tw17123404067415866770:True:=trivial
theorem PySem.W.Fast.tw16363401166512713106:True:=trivial
theorem PySem.W.Fast.tw17418857676995697234:True:=trivial
theorem PySem.W.Fast.tw888044121698747282:True:=trivial
theorem PySem.W.Fast.tw6389505536133585139:True:=trivial
theorem PySem.W.Fast.tw4158297055567343891:True:=trivial
theorem PySem.W.Fast.tw4679314543860454835:True:=trivial
theorem PySem.W.Fast.tw9561253899346457043:True:=trivial
theorem PySem.W.Fast.tw12642611475706145651:True:=trivial
theorem PySem.W.Fast.tw10190046829238126676:True:=trivial
theorem PySem.W.Fast.tw16813789790522984596:True:=trivial
theorem PySem.W.Fast.tw7812868954530934068:True:=trivial
theorem PySem.W.Fast.tw13416239097966914900:True:=trivial
theorem PySem.W.Fast.tw13695196583336793876:True:=trivial
theorem PySem.W.Fast.tw6735474435792316244:True:=trivial
theorem PySem.W.Fast.tw5494360620855041972:True:=trivial
theorem PySem.W.Fast.tw5298693422644018100:True:=trivial
theorem PySem.W.Fast.tw2412812263672258516:True:=trivial
theorem PySem.W.Fast.te1179359718538136532:True:=trivial
theorem PySem.W.Fast.tw17884105656827243508:True:=trivial
theorem PySem.W.Fast.tw17990090311957795925:True:=trivial
theorem PySem.W.Fast.tw14266237279846881653:True:=trivial
theorem PySem.W.Fast.tw11627380269034225173:True:=trivial
theorem PySem.W.Fast.tw8345072788368180757:True:=trivial
theorem PySem.W.Fast.tw17629950177401048693:True:=trivial
theorem PySem.W.Fast.tw11137345855152007893:True:=trivial
theorem PySem.W.Fast.tw10784494124960493269:True:=trivial
theorem PySem.W.Fast.tw14047073238691076821:True:=trivial
theorem PySem.W.Fast.tw7164324156960768757:True:=trivial
theorem PySem.W.Fast.tw14114025613310185333:True:=trivial
theorem PySem.W.Fast.tw6735127116235858070:True:=trivial
theorem PySem.W.Fast.tw5337830238192460950:True:=trivial
theorem PySem.W.Fast.tw9001309027628004886:True:=trivial
theorem PySem.W.Fast.tw4102139120552842102:True:=trivial
theorem PySem.W.Fast.tw6260395196560858199:True:=trivial
theorem PySem.W.Fast.tw6538611227060237687:True:=trivial
theorem PySem.W.Fast.tw9506734655927528887:True:=trivial
theorem PySem.W.Fast.tw5746594103077440023:True:=trivial
theorem PySem.W.Fast.tw14158355599375149655:True:=trivial
theorem PySem.W.Fast.tw1089674975303367511:True:=trivial
theorem PySem.W.Fast.tw1310983532717427639:True:=trivial
theorem PySem.W.Fast.tw10888886299455309976:True:=trivial
theorem PySem.W.Fast.tw11334097790414356856:True:=trivial
theorem PySem.W.Fast.tw12038601001097910680:True:=trivial
theorem PySem.W.Fast.tw2436066285515807160:True:=trivial
theorem PySem.W.Fast.tw14227621461073012408:True:=trivial
theorem PySem.W.Fast.tw7862470928974611192:True:=trivial
theorem PySem.W.Fast.tw1880483244088191768:True:=trivial
theorem PySem.W.Fast.tw11611155266782844728:True:=trivial
theorem PySem.W.Fast.tw17078958102591851512:True:=trivial
theorem PySem.W.Fast.tw1311576878948295705:True:=trivial
theorem PySem.W.Fast.tw14163961651593511961:True:=trivial
theorem PySem.W.Fast.tw11041273735821086297:True:=trivial
theorem PySem.W.Fast.tw11913608956636754521:True:=trivial
theorem PySem.W.Fast.tw12015640081645965177:True:=trivial
theorem PySem.W.Fast.tw15861488192973458361:True:=trivial
theorem PySem.W.Fast.tw14847778051906110522:True:=trivial
theorem PySem.W.Fast.tw16614259417283342426:True:=trivial
theorem PySem.W.Fast.tw2856075235687630170:True:=trivial
theorem PySem.W.Fast.tw6105314058352805306:True:=trivial
theorem PySem.W.Fast.tw15912102099668091931:True:=trivial
theorem PySem.W.Fast.tw345626361247062075:True:=trivial
theorem PySem.W.Fast.tw9848802494374110267:True:=trivial
theorem PySem.W.Fast.tw18163106079552066715:True:=trivial
theorem PySem.W.Fast.tw11160310371039277340:True:=trivial
theorem PySem.W.Fast.tw1439764170241906236:True:=trivial
theorem PySem.W.Fast.tw13572526023220536509:True:=trivial
theorem PySem.W.Fast.tw1493768264872310077:True:=trivial
theorem PySem.W.Fast.tw11119344956396930238:True:=trivial
theorem PySem.W.Fast.tw5941949226647648062:True:=trivial
theorem PySem.W.Fast.tw13768028104862553022:True:=trivial
theorem PySem.W.Fast.tw14746091286414412831:True:=trivial
theorem PySem.W.Fast.tw4279977153349832895:True:=trivial
theorem PySem.W.Fast.tw10981689973907027263:True:=trivial
theorem PySem.W.Fast.tw14719171641331555807:True:=trivial
theorem PySem.W.Fast.tw365686612884773343:True:=trivial
theorem PySem.W.Fast.tw6116809650165964351:True:=trivial
theorem PySem.W.Fast.tw16638586158731411039:True:=trivial
theorem PySem.W.Fast.tw4540526134302451327:True:=trivial
theorem PySem.W.Fast.tw15863374730035354559:True:=trivial
def PySem.W.Fast.tw8395676502230390182:=PySem.Challenge.pw_onceround_k34_no_tree
theorem PySem.W.Fast.te8395676502230390182:PySem.Challenge.pw_onceround_k34_no_tree=PySem.W.Fast.tw8395676502230390182:=rfl
end
open PySem PySem.W PyProof.Rows
set_option maxRecDepth 100000 in
set_option maxHeartbeats 0 in
theorem PySem.Challenge.cw_onceround_k34_no_tree_holds : PySem.Challenge.rw_onceround_k34_no_tree.Holds := by
  w_on; o_law; k_head; (case hw => w_witness2)
  k_fill
  refine K34.walk (l := PySem.Challenge.rw_onceround_k34_no_tree) rfl rfl (fun w h Y => PySem.W.kIn_of Y) ?F
  case F =>
    intro w mg fa h KX G hmg
    refine' K34.all_mk KX G hmg ?h_0 ?h_1 ?h_2 ?h_3 ?h_4 ?h_5 ?h_6 ?h_7 ?h_8 ?h_9 ?h_10 ?h_11 ?a_12 ?l_12 ?c_12 ?k_12 ?i_Web_init ?h_13 ?h_14 ?h_15 ?h_16 ?h_17 ?h_18 ?h_19 ?h_20 ?h_21 ?h_22 ?h_23 ?h_24 ?h_25 ?h_26 ?h_27 ?h_28 ?h_29 ?h_30 ?h_31 ?h_32 ?h_33 ?h_34 ?h_35 ?h_36 ?h_37 ?a_38 ?l_38 ?c_38 ?k_38 ?z_abs ?z_all ?z_enumerate ?z_isinstance ?z_len ?z_list ?z_range ?z_set ?z_sorted ?z_sum ?z_tuple ?z_zip ?y_BadKinds ?y_BadWord ?y_TooMany ?y_NoSuch ?y_NotOne ?y_OnceError ?y_Web ?y_KNOWN_TIMES ?e_BadKinds ?e_BadWord ?e_TooMany ?e_NoSuch ?e_NotOne ?n1_NoSuch ?n2_NoSuch ?n3_NoSuch ?n4_NoSuch ?n5_NoSuch ?n6_NoSuch ?n7_NoSuch ?n8_NoSuch ?n1_NotOne ?n2_NotOne ?n3_NotOne ?n4_NotOne ?n5_NotOne ?n6_NotOne ?n7_NotOne ?n8_NotOne ?n1_TooMany ?n2_TooMany ?n3_TooMany ?n4_TooMany ?n5_TooMany ?n6_TooMany ?n7_TooMany ?n8_TooMany ?g_FIRST_PRIME ?r_FIRST_PRIME ?g_STEP ?r_STEP ?g_LETTERS ?r_LETTERS ?g_LONGEST ?r_LONGEST ?g_MOST_OF_A_WEB ?r_MOST_OF_A_WEB ?g_LONGEST_OF_A_WEB ?r_LONGEST_OF_A_WEB ?g_MOST_TREES ?r_MOST_TREES ?q_so ?q_ss ?q_sn ?q_sm ?q_no ?q_ns ?q_nn ?q_nm ?q_mo ?q_ms ?q_mn ?q_mm ?kt ?pg_Web ?hd_Web ?po_Web ?sa_Web ?mk_Web ?kc_Web ?na_Web_words ?na_Web_length
    (case y_Web => k_is)
    all_goals try (apply K34.hf_mk <;> k_is)
    (case a_12 => k_is)
    (case l_12 => k_is)
    (case c_12 => k_is)
    (case k_12 => k_is)
    (case a_38 => k_is)
    (case l_38 => k_is)
    (case c_38 => k_is)
    (case k_38 => k_is)
    (case z_abs => k_is)
    (case z_all => k_is)
    (case z_enumerate => k_is)
    (case z_isinstance => k_is)
    (case z_len => k_is)
    (case z_list => k_is)
    (case z_range => k_is)
    (case z_set => k_is)
    (case z_sorted => k_is)
    (case z_sum => k_is)
    (case z_tuple => k_is)
    (case z_zip => k_is)
    (case y_BadKinds => k_is)
    (case y_BadWord => k_is)
    (case y_TooMany => k_is)
    (case y_NoSuch => k_is)
    (case y_NotOne => k_is)
    (case y_OnceError => k_is)
    (case y_KNOWN_TIMES => k_is)
    (case e_BadKinds => kernel_rfl)
    (case e_BadWord => kernel_rfl)
    (case e_TooMany => kernel_rfl)
    (case e_NoSuch => kernel_rfl)
    (case e_NotOne => kernel_rfl)
    (case n1_NoSuch => k_is)
    (case n2_NoSuch => k_is)
    (case n3_NoSuch => k_is)
    (case n4_NoSuch => k_is)
    (case n5_NoSuch => k_is)
    (case n6_NoSuch => k_is)
    (case n7_NoSuch => k_is)
    (case n8_NoSuch => kernel_rfl)
    (case n1_NotOne => k_is)
    (case n2_NotOne => k_is)
    (case n3_NotOne => k_is)
    (case n4_NotOne => k_is)
    (case n5_NotOne => k_is)
    (case n6_NotOne => k_is)
    (case n7_NotOne => k_is)
    (case n8_NotOne => kernel_rfl)
    (case n1_TooMany => k_is)
    (case n2_TooMany => k_is)
    (case n3_TooMany => k_is)
    (case n4_TooMany => k_is)
    (case n5_TooMany => k_is)
    (case n6_TooMany => k_is)
    (case n7_TooMany => k_is)
    (case n8_TooMany => kernel_rfl)
    (case g_FIRST_PRIME => k_is)
    (case r_FIRST_PRIME => exact ⟨_, rfl⟩)
    (case g_STEP => k_is)
    (case r_STEP => exact ⟨_, rfl⟩)
    (case g_LETTERS => k_is)
    (case r_LETTERS => exact ⟨_, rfl⟩)
    (case g_LONGEST => k_is)
    (case r_LONGEST => exact ⟨_, rfl⟩)
    (case g_MOST_OF_A_WEB => k_is)
    (case r_MOST_OF_A_WEB => exact ⟨_, rfl⟩)
    (case g_LONGEST_OF_A_WEB => k_is)
    (case r_LONGEST_OF_A_WEB => exact ⟨_, rfl⟩)
    (case g_MOST_TREES => k_is)
    (case r_MOST_TREES => exact ⟨_, rfl⟩)
    (case q_so => kts_exm)
    (case q_ss => kit_is)
    (case q_sn => kit_is)
    (case q_sm => kit_is)
    (case q_no => kts_exm)
    (case q_ns => kit_is)
    (case q_nn => kit_is)
    (case q_nm => kit_is)
    (case q_mo => kts_exm)
    (case q_ms => kit_is)
    (case q_mn => kit_is)
    (case q_mm => kit_is)
    (case kt => kernel_rfl)
    (case pg_Web => k_is)
    (case hd_Web => k_is)
    (case po_Web => k_is)
    (case sa_Web => k_is)
    (case mk_Web => k_is)
    (case kc_Web => k_is)
    (case na_Web_words => k_is)
    (case na_Web_length => k_is)
    (case i_Web_init => k_is)
#print axioms PySem.Challenge.cw_onceround_k34_no_tree_holds
