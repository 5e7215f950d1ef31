import PyProof.Rows.All
import Wide.All
import OpenK.AllK
import Wide.FinOn
import Lean
import PyProof.EqAt
import PyProof.EqKinds
import PyProof.TupleCall
import PySem.Challenge.RW_onceround_k81_answers_from_far
set_option genSizeOfSpec false
set_option bootstrap.genMatcherCode false
set_option Elab.async false
set_option linter.all false
set_option maxRecDepth 100000
set_option maxHeartbeats 4000000
noncomputable section
namespace L2
open PySem PySem.Spec PyProof.Rows
abbrev Key:=Sum Int Str
def keyIs:Key->Value->Bool
 | .inl k,v=>Value.isInt k v
 | .inr x,v=>Value.isStrOf x v
def keyH (w:World):Key->Int
 | .inl k=>hashInt k
 | .inr x=>hashStr w x
theorem keyIs_shape:∀ {k:Key} {v:Value},keyIs k v=true->(∃ i t,k=Sum.inl i∧v=Value.int i t)∨(∃ x t,k=Sum.inr x∧v=Value.str x t)
 | .inl i,v,h=>by
  obtain ⟨t,e⟩:=Value.isInt_shape (k:=i) (v:=v) h
  exact .inl ⟨i,t,rfl,e⟩
 | .inr x,v,h=>by
  obtain ⟨t,e⟩:=Value.isStrOf_shape (x:=x) (v:=v) h
  exact .inr ⟨x,t,rfl,e⟩
theorem key_ll (a b:Int):decide ((Sum.inl a:Key)=Sum.inl b)=(a==b):=by
 by_cases e:a=b
 ·subst e;simp
 ·have h:¬ (Sum.inl a:Key)=Sum.inl b:=fun q=>e (Sum.inl.inj q)
  rw [decide_eq_false h]
  exact (beq_eq_false_iff_ne.mpr e).symm
theorem key_rr (a b:Str):decide ((Sum.inr a:Key)=Sum.inr b)=decide (a=b):=by
 by_cases e:a=b
 ·subst e;simp
 ·have h:¬ (Sum.inr a:Key)=Sum.inr b:=fun q=>e (Sum.inr.inj q)
  rw [decide_eq_false h,decide_eq_false e]
theorem key_lr (a:Int)(b:Str):decide ((Sum.inl a:Key)=Sum.inr b)=false:=decide_eq_false (fun q=>nomatch q)
theorem key_rl (a:Str)(b:Int):decide ((Sum.inr a:Key)=Sum.inl b)=false:=decide_eq_false (fun q=>nomatch q)
def mixKind (prog:Program)(w:World):PySem.KeyKind prog w Key where
 is:=keyIs
 hash:=keyH w
 inj:=fun v a b ha hb=>by
  rcases keyIs_shape ha with ⟨i,t,rfl,rfl⟩ | ⟨x,t,rfl,rfl⟩
  ·rcases keyIs_shape hb with ⟨j,u,rfl,e⟩ | ⟨y,u,rfl,e⟩
   ·injection e with e1 _;rw [e1]
   ·exact nomatch e
  ·rcases keyIs_shape hb with ⟨j,u,rfl,e⟩ | ⟨y,u,rfl,e⟩
   ·exact nomatch e
   ·injection e with e1 _;rw [e1]
 byValue:=fun k v h=>by
  rcases keyIs_shape h with ⟨i,t,rfl,rfl⟩ | ⟨x,t,rfl,rfl⟩ <;> rfl
 pyHash:=fun hv h=>by
  rcases keyIs_shape hv with ⟨i,t,rfl,rfl⟩ | ⟨x,t,rfl,rfl⟩
  ·exact wpAny_pyHash_int h
  ·exact wpAny_pyHash_str h
 eqBool:=fun hu hv h=>by
  rcases keyIs_shape hu with ⟨i,t,rfl,rfl⟩ | ⟨x,t,rfl,rfl⟩
  ·rcases keyIs_shape hv with ⟨j,u,rfl,rfl⟩ | ⟨y,u,rfl,rfl⟩
   ·rw [key_ll] at h;exact wpAny_eqBool_int h
   ·rw [key_lr] at h;exact SeqAt.EqAt.int_str i t y u _ _ _ _ h
  ·rcases keyIs_shape hv with ⟨j,u,rfl,rfl⟩ | ⟨y,u,rfl,rfl⟩
   ·rw [key_rl] at h;exact SeqAt.EqAt.str_int x t j u _ _ _ _ h
   ·rw [key_rr] at h;exact wpAny_eqBool_str h
 «strs» := fun k x t v h=>by
  rcases keyIs_shape h with ⟨i,u,rfl,e⟩ | ⟨y,u,rfl,e⟩
  ·exact nomatch e
  ·injection e with e1 _
   subst e1
   cases v <;> rfl
end L2
namespace L2
open PySem PySem.Spec PyProof.Rows
inductive V where
 | non | bl (b:Bool) | int (i:Int) | str (x:Str) | byt (b:Array UInt8) | flt (b:UInt64) | ref (a:Addr) | ty (n:String)
 deriving DecidableEq
def RelV:V->Value->Prop
 | .non,u=>u=Value.none
 | .bl b,u=>u=Value.bool b
 | .int i,u=>∃ t,u=Value.int i t
 | .str x,u=>∃ t,u=Value.str x t
 | .byt b,u=>∃ t,u=Value.bytes b t
 | .flt b,u=>∃ t,u=Value.float b t
 | .ref a,u=>u=Value.ref a
 | .ty n,u=>u=Value.type n
abbrev Vals:List V->List Value->Prop:=Paired RelV
theorem Vals.length {xs:List V}{us:List Value}(r:Vals xs us):xs.length=us.length:=Paired.length r
theorem Vals.get:∀ {xs:List V} {us:List Value} {i:Nat} {x:V},Vals xs us->xs[i]?=some x->∃ u,us[i]?=some u∧RelV x u
 | _,_,_,_,.nil,e=>by simp at e
 | _,_,0,_,.cons r _,e=>by simp at e;subst e;exact ⟨_,rfl,r⟩
 | _,_,i+1,x,.cons _ t,e=>by
  obtain ⟨u,h1,h2⟩:=Vals.get (i:=i) (x:=x) t (by simpa using e)
  exact ⟨u,by simpa using h1,h2⟩
theorem Vals.append:∀ {xs ys:List V} {us ws:List Value},Vals xs us->Vals ys ws->Vals (xs++ys) (us++ws)
 | _,_,_,_,.nil,s=>s
 | _,_,_,_,.cons r t,s=>.cons r (Vals.append t s)
theorem Vals.take:∀ {xs:List V} {us:List Value} (n:Nat),Vals xs us->Vals (xs.take n) (us.take n)
 | _,_,0,_=>.nil
 | _,_,_+1,.nil=>.nil
 | _,_,n+1,.cons r t=>.cons r (Vals.take n t)
theorem Vals.drop:∀ {xs:List V} {us:List Value} (n:Nat),Vals xs us->Vals (xs.drop n) (us.drop n)
 | _,_,0,r=>r
 | _,_,_+1,.nil=>.nil
 | _,_,n+1,.cons _ t=>Vals.drop n t
def RelO:Option V->Option Value->Prop
 | some v,some u=>RelV v u
 | none,none=>True
 | _,_=>False
def KV {κ:Type}:List (κ×V)->List (κ×Value)->Prop:=Paired fun (p:κ×V) (q:κ×Value)=>p.1=q.1∧RelV p.2 q.2
def kV:Key->V
 | .inl i=>.int i
 | .inr x=>.str x
inductive HO where
 | lst (xs:List V)
 | tup (xs:List V)
 | dK (kvs:List (Key×V)) | dT (kvs:List (List Key×V))
 | set (S:Int->Bool) (n:Nat)
 | ins (C dx:Addr) (fs:List (Str×V))
 | own (x:Addr)
 | xd (fs:List (Str×V))
 | met (f x:Addr)
 | rng (lo hi:Int)
 | frz (o:Obj) (u:HO)
 | tbl (ps:Array Value)
 | ext (φ:Heap->Prop)
abbrev Hp:=Addr->Option HO
def upd (H:Hp)(a:Addr)(o:HO):Hp:=fun b=>if b=a then some o else H b
theorem upd_same {H:Hp}{a:Addr}{o:HO}:upd H a o a=some o:=by unfold upd;rw [if_pos rfl]
theorem upd_ne {H:Hp}{a b:Addr}{o:HO}(h:b≠a):upd H a o b=H b:=by unfold upd;rw [if_neg h]
theorem ne_of_none {H:Hp}{a b:Addr}{o:HO}(h:H a=some o)(h':H b=none):a≠b:=by
 intro e;subst e;rw [h] at h';cases h'
section
variable (P:Program)(w:World)
def ObjOk (H:Hp)(h:Heap)(a:Addr):HO->Prop
 | .lst xs=>xs.length<=sizeLine∧∃ (its:List Value) (n:Nat),Vals xs its∧h.get? a=some { cls:=.type "list",data:=.seq its.toArray n }
 | .tup xs=>xs.length<=sizeLine∧∃ its:List Value,Vals xs its∧IsTup h a its.toArray
 | .dK kvs=>kvs.length<=sizeLine∧(a==sysModules)=false∧∃ vs,KV kvs vs∧h.DictOf (mixKind P w) a vs
 | .dT kvs=>kvs.length<=sizeLine∧(a==sysModules)=false∧∃ xs:List (List Key×Addr×Value),
  Paired (fun (p:List Key×V) (q:List Key×Addr×Value)=>p.1=q.1∧H q.2.1=some (.tup (p.1.map kV))∧RelV p.2 q.2.2) kvs xs ∧
  ∃ o es ep,h.get? a=some o∧o.ExactDict∧o.data = .dict es ep∧es.toList=xs.map (entryOfKey (tupleKind (mixKind P w)))∧(xs.map (·.1)).Nodup
 | .set S n=>h.SetOf (intKind P w) a S n
 | .ins C dx fs=>H dx=some (.own a)∧fs.length<=1000∧dx≠a∧h.get? a=some (PySem.W.instObj C dx) ∧
  ∃ mA,h.Ns1 dx mA∧(∀ f,RelO (fs.lookup f) (mA f))∧PySem.Within mA (fs.map (·.1))
 | .own _=>∃ o,h.get? a=some o
 | .xd fs=>∃ mA,h.Ns1 a mA∧∀ f,RelO (fs.lookup f) (mA f)
 | .rng lo hi=>∃ t u v,h.get? a=some { cls:=.type "range",data:=.fields #[.int lo t,.int hi u,.int 1 v] }
 | .frz o u=>h.get? a=some o∧ObjOk H h a u
 | .tbl ps=>h.get? a=some { cls:=.none,data:=.fields ps }
 | .met f x=>h.get? a=some (PySem.W.methodObj (.ref f) (.ref x))
 | .ext φ=>φ h∧(∃ o,h.get? a=some o)∧∀ h1 h2:Heap,φ h1->(∀ o,h1.get? a=some o->h2.get? a=some o)->φ h2
def HOk (H:Hp)(h:Heap):Prop:=∀ a o,H a=some o->ObjOk P w H h a o
end
section
variable {P:Program}{w:World}{H H':Hp}{h h':Heap}{a:Addr}{o:HO}
theorem ObjOk.lt (x:ObjOk P w H h a o):a<h.objs.size:=by
 cases o with
 | lst xs=>obtain ⟨_,_,_,_,e⟩:=x;exact Heap.lt_size e
 | tup xs=>obtain ⟨_,_,_,p⟩:=x;exact p.lt
 | dK kvs=>obtain ⟨_,_,_,_,o,_,_,e,_⟩:=x;exact Heap.lt_size e
 | dT kvs=>obtain ⟨_,_,_,_,o,_,_,e,_⟩:=x;exact Heap.lt_size e
 | set S n=>obtain ⟨o,_,_,_,e,_⟩:=x;exact Heap.lt_size e
 | ins C dx fs=>obtain ⟨_,_,_,e,_⟩:=x;exact Heap.lt_size e
 | own y=>obtain ⟨_,e⟩:=x;exact Heap.lt_size e
 | xd fs=>obtain ⟨_,⟨_,_,_,e,_⟩,_⟩:=x;exact Heap.lt_size e
 | rng lo hi=>obtain ⟨_,_,_,e⟩:=x;exact Heap.lt_size e
 | frz ob u=>obtain ⟨e,_⟩:=x;exact Heap.lt_size e
 | tbl ps=>exact Heap.lt_size (show h.get? a=some _ from x)
 | met f y=>exact Heap.lt_size (show h.get? a=some _ from x)
 | ext φ=>obtain ⟨_,⟨_,e⟩,_⟩:=x;exact Heap.lt_size e
theorem Paired.mapP {α β:Type}{F G:α->β->Prop}:∀ {l₁:List α} {l₂:List β},Paired F l₁ l₂->(∀ a b,F a b->G a b)->Paired G l₁ l₂
 | _,_,.nil,_=>.nil
 | _,_,.cons r t,f=>.cons (f _ _ r) (Paired.mapP t f)
theorem ObjOk.stay (x:ObjOk P w H h a o)(k:∀ b u,(b=a∨H b=some (.own a))->h.get? b=some u->h'.get? b=some u)
  (ho:∀ b,H b=some (.own a)->H' b=some (.own a)) (ht:∀ b xs,H b=some (.tup xs)->H' b=some (.tup xs)):ObjOk P w H' h' a o:=by
 induction o with
 | lst xs=>obtain ⟨z,its,n,r,e⟩:=x;exact ⟨z,its,n,r,k _ _ (.inl rfl) e⟩
 | tup xs=>obtain ⟨z,its,r,ob,e,c⟩:=x;exact ⟨z,its,r,ob,k _ _ (.inl rfl) e,c⟩
 | dK kvs=>obtain ⟨z,y,vs,r,ob,es,ep,e,c⟩:=x;exact ⟨z,y,vs,r,ob,es,ep,k _ _ (.inl rfl) e,c⟩
 | dT kvs =>
  obtain ⟨z,y,xs,r,ob,es,ep,e,c⟩:=x
  exact ⟨z,y,xs,Paired.mapP r fun p q z=>⟨z.1,ht _ _ z.2.1,z.2.2⟩,ob,es,ep,k _ _ (.inl rfl) e,c⟩
 | set S n=>obtain ⟨ob,es,ep,t,e,c⟩:=x;exact ⟨ob,es,ep,t,k _ _ (.inl rfl) e,c⟩
 | ins C dx fs =>
  obtain ⟨d,z,ne,e,mA,⟨od,es,ep,e2,c⟩,r⟩:=x
  exact ⟨ho _ d,z,ne,k _ _ (.inl rfl) e,mA,⟨od,es,ep,k _ _ (.inr d) e2,c⟩,r⟩
 | own y=>obtain ⟨ob,e⟩:=x;exact ⟨ob,k _ _ (.inl rfl) e⟩
 | xd fs=>obtain ⟨mA,⟨od,es,ep,e,c⟩,r⟩:=x;exact ⟨mA,⟨od,es,ep,k _ _ (.inl rfl) e,c⟩,r⟩
 | rng lo hi=>obtain ⟨t,u,v,e⟩:=x;exact ⟨t,u,v,k _ _ (.inl rfl) e⟩
 | frz ob u ih=>obtain ⟨e,q⟩:=x;exact ⟨k _ _ (.inl rfl) e,ih q⟩
 | tbl ps =>
  have e:h.get? a=some { cls:=.none,data:=.fields ps }:=x
  show h'.get? a=some { cls:=.none,data:=.fields ps }
  exact k a _ (.inl rfl) e
 | met f y =>
  have e:h.get? a=some (PySem.W.methodObj (.ref f) (.ref y)):=x
  show h'.get? a=some (PySem.W.methodObj (.ref f) (.ref y))
  exact k a _ (.inl rfl) e
 | ext φ=>obtain ⟨p,⟨o,e⟩,st⟩:=x;exact ⟨st _ _ p fun o q=>k _ _ (.inl rfl) q,⟨o,k _ _ (.inl rfl) e⟩,st⟩
theorem HOk.lt (x:HOk P w H h)(e:H a=some o):a<h.objs.size:=(x a o e).lt
theorem HOk.fresh (x:HOk P w H h)(e:h.objs.size<=a):H a=none:=by
 cases q:H a with
 | none=>rfl
 | some u=>exact absurd (Nat.lt_of_lt_of_le (x.lt q) e) (Nat.lt_irrefl _)
theorem HOk.kept (x:HOk P w H h)(k:∀ b u,h.get? b=some u->h'.get? b=some u):HOk P w H h':=fun a o e =>
 (x a o e).stay (fun b u _ q=>k b u q) (fun _ q=>q) fun _ _ q=>q
theorem HOk.laid (x:HOk P w H h)(k:∀ b u,h.get? b=some u->h'.get? b=some u)(hp:h.objs.size<=a)(new:ObjOk P w (upd H a o) h' a o):HOk P w (upd H a o) h':=fun b u e=>by
 have hn:=x.fresh hp
 by_cases hb:b=a
 ·subst hb;rw [upd_same] at e;cases e;exact new
 ·rw [upd_ne hb] at e
  exact (x b u e).stay (fun c v _ q=>k c v q) (fun c q=>by rw [upd_ne (ne_of_none q hn)];exact q) fun c xs q=>by rw [upd_ne (ne_of_none q hn)];exact q
end
def Rd (H:Hp)(a:Addr)(u:HO):Prop:=H a=some u∨∃ o,H a=some (.frz o u)
theorem Rd.ok {P:Program}{w:World}{H:Hp}{h:Heap}{a:Addr}{u:HO}(r:Rd H a u)(x:HOk P w H h):ObjOk P w H h a u:=by
 rcases r with r | ⟨o,r⟩
 ·exact x a u r
 ·obtain ⟨_,q⟩:=x a _ r
  exact q
def Mut:Option HO->Prop
 | some (.lst _)=>True
 | some (.dK _)=>True
 | some (.dT _)=>True
 | some (.set _ _)=>True
 | some (.ins _ _ _)=>True
 | some (.ext _)=>True
 | _=>False
section
variable {P:Program}{w:World}{H:Hp}{h h':Heap}{x e:Addr}{o':HO}
theorem HOk.write (ok:HOk P w H h)(mu:Mut (H x))(he:e=x∨H e=some (.own x))(k:∀ b u,b≠e->h.get? b=some u->h'.get? b=some u)(heo:∃ u,h'.get? e=some u)
  (new:ObjOk P w (upd H x o') h' x o'):HOk P w (upd H x o') h':=fun b u q=>by
 have nown:∀ c y,H c=some (.own y)->c≠x:=fun c y r z=>by subst z;rw [r] at mu;exact mu
 have ntup:∀ c xs,H c=some (.tup xs)->c≠x:=fun c xs r z=>by subst z;rw [r] at mu;exact mu
 by_cases hb:b=x
 ·subst hb;rw [upd_same] at q;cases q;exact new
 ·rw [upd_ne hb] at q
  by_cases hbe:b=e
  ·have q':H b=some (.own x):=by
    rcases he with z | z
    ·exact absurd (hbe.trans z) hb
    ·rw [hbe];exact z
   rw [q] at q';cases q'
   obtain ⟨v,hv⟩:=heo
   exact ⟨v,by rw [hbe];exact hv⟩
  ·refine (ok b u q).stay (fun c v hc r=>k c v ?_ r) (fun c r=>by rw [upd_ne (nown c b r)];exact r) fun c xs r=>by rw [upd_ne (ntup c xs r)];exact r
   rcases hc with rfl | hc
   ·exact hbe
   ·rintro rfl
    rcases he with z | z
    ·exact nown c b hc z
    ·rw [hc] at z;cases z;exact hb rfl
end
set_option genInjectivity false in
structure Un (fs ex:List Addr)(H H':Hp)(h h':Heap):Prop where
 keep:∀ b o,h.get? b=some o->H b=none->b∉fs->b∉ex->h'.get? b=some o
 slot:∀ b o,h.get? b=some o->H b=none->b∈fs->b∉ex->∃ sl,h'.get? b=some { o with slots:=sl }
 free:∀ b o,h.get? b=some o->H b=none->b∉ex->H' b=none
 there:∀ b o,h.get? b=some o->b∉ex->∃ o',h'.get? b=some o'
 tups:∀ b xs,H b=some (.tup xs)->H' b=some (.tup xs)
 frzs:∀ b o u,H b=some (.frz o u)->H' b=some (.frz o u)
 tbls:∀ b ps,H b=some (.tbl ps)->∃ more,H' b=some (.tbl (ps++more))
section
variable {fs fs' ex ex':List Addr}{H H1 H2:Hp}{h h1 h2 h':Heap}{a x e:Addr}{o:HO}
theorem Un.any (u:Un fs ex H H1 h h1){b:Addr}{ob:Obj}(q:h.get? b=some ob)(n:H b=none)(hx:b∉ex):∃ sl,h1.get? b=some { ob with slots:=sl }:=by
 by_cases hb:b∈fs
 ·exact u.slot b ob q n hb hx
 ·exact ⟨ob.slots,u.keep b ob q n hb hx⟩
theorem Un.kept (k:∀ b u,h.get? b=some u->h'.get? b=some u):Un fs ex H H h h' :=
 ⟨fun b ob q _ _ _=>k b ob q,fun b ob q _ _ _=>⟨ob.slots,k b ob q⟩,fun _ _ _ n _=>n,fun b ob q _=>⟨ob,k b ob q⟩,fun _ _ q=>q,fun _ _ _ q=>q,fun _ ps q=>⟨#[],by rw [q];simp⟩⟩
theorem Un.refl:Un fs ex H H h h:=Un.kept fun _ _ q=>q
theorem Un.laid (k:∀ b u,h.get? b=some u->h'.get? b=some u)(hp:h.objs.size<=a)(hn:H a=none):Un fs ex H (upd H a o) h h' where
 keep:=fun b u q _ _ _=>k b u q
 slot:=fun b u q _ _ _=>⟨u.slots,k b u q⟩
 free:=fun b u q n _=>by rw [upd_ne (Nat.ne_of_lt (Nat.lt_of_lt_of_le (Heap.lt_size q) hp))];exact n
 there:=fun b u q _=>⟨u,k b u q⟩
 tups:=fun b xs q=>by rw [upd_ne (ne_of_none q hn)];exact q
 frzs:=fun b u xs q=>by rw [upd_ne (ne_of_none q hn)];exact q
 tbls:=fun b ps q=>⟨#[],by rw [upd_ne (ne_of_none q hn),q];simp⟩
theorem Un.write (mu:Mut (H x))(he:e=x∨H e=some (.own x))(k:∀ b u,b≠e->h.get? b=some u->h'.get? b=some u)(heo:∃ u,h'.get? e=some u):Un fs ex H (upd H x o) h h':=by
 have hx:∀ b,H b=none->b≠x:=fun b n z=>by subst z;rw [n] at mu;exact mu
 have hb:∀ b,H b=none->b≠e:=fun b n z=>by
  subst z
  rcases he with r | r
  ·exact hx b n r
  ·rw [n] at r;cases r
 have hm:∀ b u,H b=some u->¬ Mut (some u)->b≠x:=fun b u q nm z=>by subst z;rw [q] at mu;exact nm mu
 refine ⟨fun b u q n _ _=>k b u (hb b n) q,fun b u q n _ _=>⟨u.slots,k b u (hb b n) q⟩,fun b u q n _=>by rw [upd_ne (hx b n)];exact n,fun b u q _=>?_,
  fun b xs q=>by rw [upd_ne (hm b _ q fun z=>z)];exact q,fun b u xs q=>by rw [upd_ne (hm b _ q fun z=>z)];exact q,fun b ps q=>⟨#[],by rw [upd_ne (hm b _ q fun z=>z),q];simp⟩⟩
 by_cases hbe:b=e
 ·subst hbe;exact heo
 ·exact ⟨u,k b u hbe q⟩
end
def trk (h:Heap)(H:Hp):List Addr:=(List.range h.objs.size).filter fun a=>(H a).isSome
def hidT (h:Heap)(H:Hp):Heap:=PySem.W.hideAll h (trk h H)
theorem hidT_size (h:Heap)(H:Hp):(hidT h H).objs.size=h.objs.size:=PySem.W.hideAll_size _ _
theorem hidT_get {h:Heap}{H:Hp}{b:Addr}{o:Obj}(e:h.get? b=some o)(n:H b=none):(hidT h H).get? b=some o :=
 PySem.W.hideAll_get _ e fun hm=>by
  have q:(H b).isSome=true:=(List.mem_filter.mp hm).2
  rw [n] at q;simp at q
theorem of_hidT {h:Heap}{H:Hp}{b:Addr}{o:Obj}(e:(hidT h H).get? b=some o):h.get? b=some o∧H b=none:=by
 have e':h.get? b=some o:=PySem.W.of_hideAll (trk h H) e
 refine ⟨e',?_⟩
 cases q:H b with
 | none=>rfl
 | some x =>
  have hm:b∈trk h H:=List.mem_filter.mpr ⟨List.mem_range.mpr (Heap.lt_size e'),by simp [q]⟩
  have z:(hidT h H).get? b=none:=PySem.W.hideAll_none (trk h H) hm
  rw [z] at e;cases e
def allNews (g h:Heap)(L:Addr):List (Addr×Obj):=(List.range h.objs.size).filterMap fun a=>if a=L∨(g.get? a).isSome=true then none else (h.get? a).map fun o=>(a,o)
def rest (g h:Heap)(L d:Addr):List (Addr×Obj):=(allNews g h L).filter fun p=>decide (p.1≠d)
end L2
namespace L2
open PySem PySem.Spec PyProof.Rows
set_option genInjectivity false in
structure Mod (K:PySem.W.Frag)(mg:Str->Option Value)(base:Heap):Prop where
 kin:K.In base
 glob:base.Ns mainGlobals mg
 blt:∃ mb,base.Ns builtinsNs mb∧∀ x:Str,x ≠ "__name__" -> mb x=bootBuiltins x
 nolimit:base.NoLimit
set_option genInjectivity false in
structure Cx where
 prog:Program
 w:World
 K:PySem.W.Frag
 mg:Str->Option Value
 base:Heap
 A:Around
 N:List Str
 s₀:Shared
 H₀:Hp
 env:Env
 outer:List Env
 stack:List Env
 ex:List Addr
 fn:Str->Bool
 calm:Bool
 pn:List (Addr×Obj)
 xe:Value->Shared->Prop
def frs (l:List Env):List Addr:=l.filterMap (·.frame)
abbrev Cx.fs (X:Cx):List Addr:=frs X.outer
def Vis (sc:Scope)(x:Str):Prop:=sc.names.lookup x=some .local∨sc.names.lookup x=some .cell∨sc.names.lookup x=some .free
def Loc (sc:Scope)(x:Str):Prop:=sc.names.lookup x=some .local∨sc.names.lookup x=some .cell
def Look (env:Env)(h:Heap)(m:Str->Option Value)(x:Str)(u:Value):Prop :=
 (env.kindOf x=some .local∧m x=some u)∨((env.kindOf x=some .cell∨env.kindOf x=some .free)∧∃ c,env.cells.lookup x=some c∧h.IsCell c (some u))
set_option genInjectivity false in
structure Cx.Ok (X:Cx):Prop where
 mod:Mod X.K X.mg X.base
 kind:X.env.scope.kind = .function
 glob:X.env.globals=mainGlobals
 blt:X.env.builtins=builtinsNs
 above:X.s₀.heap.objs.size<=X.env.locals
 inj:∀ x y c,X.env.cells.lookup x=some c->X.env.cells.lookup y=some c->x=y
 has:∀ x,(X.env.kindOf x=some .cell∨X.env.kindOf x=some .free)->∃ c,X.env.cells.lookup x=some c
 cab:∀ x c,X.fn x=true->X.env.cells.lookup x=some c->X.s₀.heap.objs.size<=c
 hd:X.calm=true->X.A.handled=none
 frames:X.A.frames=some X.stack
 stk:X.stack=X.outer∨(X.stack=X.env::X.outer∧X.env.frame=some X.env.locals)
 exf:∀ b∈X.ex,b≠X.env.locals∧∀ x c,X.env.cells.lookup x=some c->c≠b
 bs:∀ b o,X.base.get? b=some o->X.s₀.heap.get? b=some o∧X.H₀ b=none
 bsz:X.base.objs.size<=X.s₀.heap.objs.size
 noex:∀ b o,X.base.get? b=some o->b∉X.ex
 exfs:∀ b∈X.ex,b∉X.fs
 funs:X.s₀.heap.FunFrames X.base X.outer
 frf:∀ b∈X.fs,X.H₀ b=none
set_option genInjectivity false in
structure Inv (X:Cx)(pins:List (Addr×Obj))(σ:List (Option V))(H:Hp)(s:Shared):Prop where
 ok:X.Ok
 os:s.os=X.s₀.os
 bare:AllBare s.gens
 base:Un X.fs X.ex X.H₀ H X.s₀.heap s.heap
 loc:∃ m,s.heap.Ns X.env.locals m∧∀ (i:Nat) (x:Str) (v:V),X.N[i]?=some x->σ[i]?=some (some v)->Vis X.env.scope x->∃ u,RelV v u∧Look X.env s.heap m x u
 cell:∀ x c,X.env.cells.lookup x=some c->∃ v,s.heap.IsCell c v
 free:H X.env.locals=none
 freeC:∀ x c,X.env.cells.lookup x=some c->H c=none
 pin:∀ p∈X.pn++pins,s.heap.get? p.1=some p.2∧H p.1=none∧p.1≠X.env.locals∧p.1∉X.fs∧∀ v,p.2.data≠.cell v
 hok:HOk X.prog X.w H s.heap
 len:σ.length=X.N.length
section
variable {X:Cx}{pins:List (Addr×Obj)}{σ:List (Option V)}{H H':Hp}{s:Shared}{h':Heap}
theorem Cx.Ok.nofr (ok:X.Ok){b:Addr}{o:Obj}(e:X.base.get? b=some o):b∉X.fs:=fun hb=>by
 have:=(ok.funs.mem hb).1
 rw [e] at this;cases this
theorem Inv.bs (I:Inv X pins σ H s):∀ b o,X.base.get? b=some o->s.heap.get? b=some o∧H b=none:=fun b o e =>
 ⟨I.base.keep b o (I.ok.bs b o e).1 (I.ok.bs b o e).2 (I.ok.nofr e) (I.ok.noex b o e),I.base.free b o (I.ok.bs b o e).1 (I.ok.bs b o e).2 (I.ok.noex b o e)⟩
theorem Inv.bk (I:Inv X pins σ H s):∀ b o,X.base.get? b=some o->s.heap.get? b=some o:=fun b o e=>(I.bs b o e).1
theorem Inv.mod (I:Inv X pins σ H s):Mod X.K X.mg X.base:=I.ok.mod
theorem Inv.kIn (I:Inv X pins σ H s):X.K.In s.heap:=I.ok.mod.kin.keeps I.bk
theorem Inv.lt (I:Inv X pins σ H s):X.env.locals<s.heap.objs.size:=let ⟨_,hn,_⟩:=I.loc;hn.lt
theorem Inv.sz (I:Inv X pins σ H s):X.s₀.heap.objs.size<=s.heap.objs.size:=Nat.le_trans I.ok.above (Nat.le_of_lt I.lt)
theorem Inv.nofs (I:Inv X pins σ H s){a:Addr}(h:s.heap.objs.size<=a):a∉X.fs:=fun hb=>by
 obtain ⟨_,o,ho,_⟩:=I.ok.funs.mem hb
 exact absurd (Nat.lt_of_lt_of_le (Heap.lt_size ho) (Nat.le_trans I.sz h)) (Nat.lt_irrefl _)
theorem Inv.cne (I:Inv X pins σ H s):∀ x c,X.env.cells.lookup x=some c->c≠X.env.locals:=fun x c e z=>by
 obtain ⟨v,o,ho,hd⟩:=I.cell x c e
 obtain ⟨m,⟨o',es,ep,ho',hd',_⟩,_⟩:=I.loc
 rw [z,ho'] at ho;cases ho;rw [hd'] at hd;cases hd
theorem Inv.funs (I:Inv X pins σ H s):s.heap.FunFrames X.base X.outer:=by
 have all:∀ (l:List Env),(∀ b∈frs l,b∈X.fs)->X.s₀.heap.FunFrames X.base l->s.heap.FunFrames X.base l:=by
  intro l
  induction l with
  | nil=>intro _ _;trivial
  | cons env r ih =>
   intro hs hl
   obtain ⟨hk,⟨L,o,hf,hn,ho,hd⟩,hr⟩:=hl
   have hL:L∈X.fs:=hs L (by unfold frs;rw [List.filterMap_cons,hf];exact List.mem_cons_self)
   obtain ⟨sl,e⟩:=I.base.slot L o ho (I.ok.frf L hL) hL fun z=>I.ok.exfs L z hL
   exact ⟨hk,⟨L,_,hf,hn,e,hd⟩,ih (fun b hb=>hs b (by unfold frs;rw [List.filterMap_cons,hf];exact List.mem_cons_of_mem _ hb)) hr⟩
 exact all X.outer (fun _ hb=>hb) I.ok.funs
theorem Inv.stack (I:Inv X pins σ H s):s.heap.FunFrames X.base X.stack:=by
 rcases I.ok.stk with e | ⟨e,hf⟩
 ·rw [e];exact I.funs
 ·rw [e]
  obtain ⟨m,hn,_⟩:=I.loc
  refine .cons (by rw [I.ok.kind];decide) hf hn ?_ I.funs
  exact Heap.get?_none_of_le (Nat.le_trans I.ok.bsz I.ok.above)
theorem Inv.stkSub (I:Inv X pins σ H s):∀ b∈frs X.stack,b∈X.env.locals::X.fs:=fun b hb=>by
 rcases I.ok.stk with e | ⟨e,hf⟩
 ·rw [e] at hb;exact List.mem_cons_of_mem _ hb
 ·rw [e] at hb
  unfold frs at hb
  rw [List.filterMap_cons,hf] at hb
  exact hb
theorem Inv.stkFree (I:Inv X pins σ H s):∀ b∈frs X.stack,H b=none:=fun b hb=>by
 rcases List.mem_cons.mp (I.stkSub b hb) with e | hb
 ·rw [e];exact I.free
 ·obtain ⟨_,o,ho,_⟩:=I.ok.funs.mem hb
  exact I.base.free b o ho (I.ok.frf b hb) fun z=>I.ok.exfs b z hb
theorem Inv.step {g':Array GenState}{t':Nat}{d':Drawn}{ch:List Addr}(I:Inv X pins σ H s)
  (hch:∀ b∈ch,(b∈X.ex∨X.s₀.heap.objs.size<=b)∧b≠X.env.locals∧(∀ x c,X.env.cells.lookup x=some c->c≠b)∧∀ p∈X.pn++pins,p.1≠b)
  (keep:∀ b o,b≠X.env.locals->b∉X.fs->b∉ch->s.heap.get? b=some o->H b=none->h'.get? b=some o)
  (slot:∀ b o,b≠X.env.locals->b∈X.fs->b∉ch->s.heap.get? b=some o->H b=none->∃ sl,h'.get? b=some { o with slots:=sl }) (free:∀ b o,b∉ch->s.heap.get? b=some o->H b=none->H' b=none)
  (there:∀ b o,b∉ch->s.heap.get? b=some o->∃ o',h'.get? b=some o')
  (tups:∀ b xs,H b=some (.tup xs)->H' b=some (.tup xs)) (frzs:∀ b o u,H b=some (.frz o u)->H' b=some (.frz o u)) (tbls:∀ b ps,H b=some (.tbl ps)->∃ more,H' b=some (.tbl (ps++more)))
  (ns:∀ m,s.heap.Ns X.env.locals m->h'.Ns X.env.locals m) (hok:HOk X.prog X.w H' h') (hg:AllBare g') :
  Inv X pins σ H' { s with heap:=h',gens:=g',drawn:=d',toks:=t' }:=by
 have neL:∀ b o,X.s₀.heap.get? b=some o->b≠X.env.locals:=fun b o e=>Nat.ne_of_lt (Nat.lt_of_lt_of_le (Heap.lt_size e) I.ok.above)
 have neC:∀ b o,X.s₀.heap.get? b=some o->b∉X.ex->b∉ch:=fun b o e hx hb=>by
  rcases (hch b hb).1 with z | z
  ·exact hx z
  ·exact absurd (Nat.lt_of_lt_of_le (Heap.lt_size e) z) (Nat.lt_irrefl _)
 have cellK:∀ x c,X.env.cells.lookup x=some c->∀ v,s.heap.IsCell c v->h'.IsCell c v:=fun x c e v ⟨o,ho,hd⟩=>by
  have nch:c∉ch:=fun z=>(hch c z).2.2.1 x c e rfl
  by_cases hc:c∈X.fs
  ·obtain ⟨sl,q⟩:=slot c o (I.cne x c e) hc nch ho (I.freeC x c e)
   exact ⟨_,q,hd⟩
  ·exact ⟨o,keep c o (I.cne x c e) hc nch ho (I.freeC x c e),hd⟩
 refine ⟨I.ok,I.os,hg,⟨fun b o e n hb hx=>?_,fun b o e n hb hx=>?_,fun b o e n hx=>?_,fun b o e hx=>?_,fun b xs e=>tups b xs (I.base.tups b xs e),fun b o xs e=>frzs b o xs (I.base.frzs b o xs e),fun b ps e=>?_⟩,?_,fun x c e=>?_,?_,fun x c e=>?_,fun p hp=>?_,hok,I.len⟩
 ·exact keep b o (neL b o e) hb (neC b o e hx) (I.base.keep b o e n hb hx) (I.base.free b o e n hx)
 ·obtain ⟨sl,e1⟩:=I.base.slot b o e n hb hx
  obtain ⟨sl',e2⟩:=slot b _ (neL b o e) hb (neC b o e hx) e1 (I.base.free b o e n hx)
  exact ⟨sl',e2⟩
 ·obtain ⟨o',e1⟩:=I.base.there b o e hx
  exact free b o' (neC b o e hx) e1 (I.base.free b o e n hx)
 ·obtain ⟨o',e1⟩:=I.base.there b o e hx
  exact there b o' (neC b o e hx) e1
 ·obtain ⟨m1,e1⟩:=I.base.tbls b ps e
  obtain ⟨m2,e2⟩:=tbls b _ e1
  exact ⟨m1++m2,by rw [e2,Array.append_assoc]⟩
 ·obtain ⟨m,hn,hl⟩:=I.loc
  refine ⟨m,ns m hn,fun i x v e1 e2 e3=>?_⟩
  obtain ⟨u,r,l⟩:=hl i x v e1 e2 e3
  refine ⟨u,r,?_⟩
  rcases l with l | ⟨k,c,e,z⟩
  ·exact .inl l
  ·exact .inr ⟨k,c,e,cellK x c e _ z⟩
 ·obtain ⟨v,z⟩:=I.cell x c e
  exact ⟨v,cellK x c e v z⟩
 ·obtain ⟨m,⟨o,_,_,ho,_⟩,_⟩:=I.loc
  exact free _ o (fun z=>(hch _ z).2.1 rfl) ho I.free
 ·obtain ⟨v,o,ho,hd⟩:=I.cell x c e
  exact free c o (fun z=>(hch c z).2.2.1 x c e rfl) ho (I.freeC x c e)
 ·obtain ⟨e,n,ne,nf,d⟩:=I.pin p hp
  have nch:p.1∉ch:=fun z=>(hch p.1 z).2.2.2 p hp rfl
  exact ⟨keep p.1 p.2 ne nf nch e n,free p.1 p.2 nch e n,ne,nf,d⟩
theorem Inv.un {t':Nat}(I:Inv X pins σ H s)(u:Un X.fs [] H H' s.heap h')(hok:HOk X.prog X.w H' h'):Inv X pins σ H' { s with heap:=h',toks:=t' }:=by
 obtain ⟨m,⟨o,es,ep,ho,r⟩,_⟩:=id I.loc
 obtain ⟨sl,hL⟩:=u.any ho I.free (by simp)
 exact I.step (g':=s.gens) (d':=s.drawn) (ch:=[]) (fun _ z=>nomatch z) (fun b o _ hb _ e n=>u.keep b o e n hb (by simp)) (fun b o _ hb _ e n=>u.slot b o e n hb (by simp)) (fun b o _ e n=>u.free b o e n (by simp)) (fun b o _ e=>u.there b o e (by simp)) u.tups u.frzs u.tbls (fun m' hm=>by
  obtain ⟨o',es',ep',ho',r'⟩:=hm
  rw [ho] at ho';cases ho'
  exact ⟨_,es',ep',hL,r'⟩) hok I.bare
theorem Inv.call {g':Array GenState}{t':Nat}{d':Drawn}{ch:List Addr}(I:Inv X pins σ H s)(u:Un (frs X.stack) ch H H' s.heap h')(hok:HOk X.prog X.w H' h')(hg:AllBare g')
  (hch:∀ b∈ch,(b∈X.ex∨X.s₀.heap.objs.size<=b)∧b≠X.env.locals∧(∀ x c,X.env.cells.lookup x=some c->c≠b)∧∀ p∈X.pn++pins,p.1≠b) :
  Inv X pins σ H' { s with heap:=h',gens:=g',drawn:=d',toks:=t' }:=by
 obtain ⟨m,⟨o,es,ep,ho,r⟩,_⟩:=id I.loc
 obtain ⟨sl,hL⟩:=u.any ho I.free fun z=>(hch _ z).2.1 rfl
 exact I.step (ch:=ch) hch (fun b o hL hb hc e n=>u.keep b o e n (fun z=>(List.mem_cons.mp (I.stkSub b z)).elim hL hb) hc) (fun b o _ _ hc e n=>u.any e n hc) (fun b o hc e n=>u.free b o e n hc) (fun b o hc e=>u.there b o e hc) u.tups u.frzs u.tbls (fun m' hm=>by
  obtain ⟨o',es',ep',ho',r'⟩:=hm
  rw [ho] at ho';cases ho'
  exact ⟨_,es',ep',hL,r'⟩) hok hg
theorem Inv.turned {t':Nat}{it:Addr}(I:Inv X pins σ H s)(k:∀ b o,b≠it->s.heap.get? b=some o->h'.get? b=some o)(hn:H it=none)(hL:it≠X.env.locals)
  (h1:it∈X.ex∨X.s₀.heap.objs.size<=it) (h2:∀ x c,X.env.cells.lookup x=some c->c≠it) (h3:∀ p∈X.pn++pins,p.1≠it):Inv X pins σ H { s with heap:=h',toks:=t' }:=by
 have nit:∀ b u,H b=some u->b≠it:=fun b u e z=>by rw [z,hn] at e;cases e
 refine I.step (g':=s.gens) (d':=s.drawn) (ch:=[it]) (fun b hb=>?_) (fun b o _ _ hc e _=>k b o (fun z=>hc (by simp [z])) e) (fun b o _ _ hc e _=>⟨o.slots,k b o (fun z=>hc (by simp [z])) e⟩) (fun _ _ _ _ n=>n)
  (fun b o hc e=>⟨o,k b o (fun z=>hc (by simp [z])) e⟩) (fun _ _ e=>e) (fun _ _ _ e=>e) (fun b ps e=>⟨#[],by rw [e];simp⟩) (fun m hm=>?_) (fun b u e=>?_) I.bare
 ·have e:b=it:=by simpa using hb
  subst e
  exact ⟨h1,hL,h2,h3⟩
 ·obtain ⟨o,es,ep,ho,r⟩:=hm
  exact ⟨o,es,ep,k _ o (Ne.symm hL) ho,r⟩
 ·refine (I.hok b u e).stay (fun c v hc q=>k c v ?_ q) (fun _ q=>q) fun _ _ q=>q
  rcases hc with z | z
  ·rw [z];exact nit b u e
  ·exact nit c _ z
theorem Inv.tok (I:Inv X pins σ H s)(t:Nat):Inv X pins σ H { s with toks:=t }:=I.un (h':=s.heap) (t':=t) Un.refl I.hok
theorem Inv.kept {t':Nat}(I:Inv X pins σ H s)(k:∀ b u,s.heap.get? b=some u->h'.get? b=some u):Inv X pins σ H { s with heap:=h',toks:=t' }:=I.un (Un.kept k) (I.hok.kept k)
theorem Inv.laid {a:Addr}{o:HO}{t':Nat}(I:Inv X pins σ H s)(k:∀ b u,s.heap.get? b=some u->h'.get? b=some u)(hp:s.heap.objs.size<=a)(new:ObjOk X.prog X.w (upd H a o) h' a o) :
 Inv X pins σ (upd H a o) { s with heap:=h',toks:=t' }:=I.un (Un.laid k hp (I.hok.fresh hp)) (I.hok.laid k hp new)
theorem Inv.write {x e:Addr}{o:HO}{t':Nat}(I:Inv X pins σ H s)(mu:Mut (H x))(he:e=x∨H e=some (.own x))(k:∀ b u,b≠e->s.heap.get? b=some u->h'.get? b=some u)(heo:∃ u,h'.get? e=some u)
 (new:ObjOk X.prog X.w (upd H x o) h' x o):Inv X pins σ (upd H x o) { s with heap:=h',toks:=t' }:=I.un (Un.write mu he k heo) (I.hok.write mu he k heo new)
theorem Inv.pins_of {pins':List (Addr×Obj)}(I:Inv X pins σ H s)(h:∀ p∈pins',s.heap.get? p.1=some p.2∧H p.1=none∧p.1≠X.env.locals∧p.1∉X.fs∧∀ v,p.2.data≠.cell v):Inv X pins' σ H s :=
 ⟨I.ok,I.os,I.bare,I.base,I.loc,I.cell,I.free,I.freeC,fun p hp=>(List.mem_append.mp hp).elim (fun z=>I.pin p (List.mem_append_left _ z)) (h p),I.hok,I.len⟩
theorem nodup_ix {N:List Str}(hN:N.Nodup){i j:Nat}{x:Str}(a:N[i]?=some x)(b:N[j]?=some x):i=j:=by
 obtain ⟨h1,e1⟩:=List.getElem?_eq_some_iff.mp a
 obtain ⟨h2,e2⟩:=List.getElem?_eq_some_iff.mp b
 exact (List.getElem_inj hN).mp (e1.trans e2.symm)
theorem store_ok2 {M:Model}{A:Around}{E:Value->Shared->Prop}{i:Nat}{x:Str}{v:V}{u:Value}{Q:Unit->Shared->Prop}(I:Inv X pins σ H s)(hN:X.N.Nodup)(hi:X.N[i]?=some x)(hx:Loc X.env.scope x)(r:RelV v u)
  (h:∀ s',Inv X pins (σ.set i (some v)) H s'->(∃ a,Heap.SameBut a s.heap s'.heap∧(a=X.env.locals∨X.env.cells.lookup x=some a))->Q () s') (hf:X.fn x=true∨X.env.scope.names.lookup x=some .local:=by first | exact .inl rfl | exact .inr rfl | assumption):wpAny M A (storeName X.env x u) Q E s:=by
 obtain ⟨m,hn,hl⟩:=id I.loc
 have hcls:(X.env.scope.kind == .class||(X.env.scope.kind == .module&&X.env.locals != X.env.globals))=false:=by rw [I.ok.kind];rfl
 have hiσ:i<σ.length:=by rw [I.len];exact (List.getElem?_eq_some_iff.mp hi).1
 have cne:=I.cne
 have tracked:∀ {a:Addr} {h':Heap},(∃ o,s.heap.get? a=some o∧H a=none)->Heap.SameBut a s.heap h'->HOk X.prog X.w H h':=fun {a h'} ha hs b ob e=>by
  obtain ⟨_,_,hfree⟩:=ha
  refine (I.hok b ob e).stay (fun c w' hc q=>(hs.2 c ?_).trans q) (fun _ q=>q) fun _ _ q=>q
  rintro rfl
  rcases hc with rfl | hc
  ·rw [hfree] at e;cases e
  ·rw [hfree] at hc;cases hc
 rcases hx with hk | hk
 ·refine wpAny_storeName_local hk hn (fun h' hn' hs=>?_) hcls
  obtain ⟨oL,_,_,hoL,_⟩:=id hn
  refine h _ ⟨I.ok,I.os,I.bare,⟨fun b o e n hb hx=>?_,fun b o e n hb hx=>?_,I.base.free,fun b o e hx=>?_,I.base.tups,I.base.frzs,I.base.tbls⟩,⟨_,hn',fun j y v' e1 e2 e3=>?_⟩,fun y c e=>?_,I.free,I.freeC,fun p hp=>?_,tracked ⟨oL,hoL,I.free⟩ hs,by simpa using I.len⟩ ⟨_,hs,.inl rfl⟩
  ·exact (hs.2 b (Nat.ne_of_lt (Nat.lt_of_lt_of_le (Heap.lt_size e) I.ok.above))).trans (I.base.keep b o e n hb hx)
  ·obtain ⟨sl,e1⟩:=I.base.slot b o e n hb hx
   exact ⟨sl,(hs.2 b (Nat.ne_of_lt (Nat.lt_of_lt_of_le (Heap.lt_size e) I.ok.above))).trans e1⟩
  ·obtain ⟨o',e1⟩:=I.base.there b o e hx
   exact ⟨o',(hs.2 b (Nat.ne_of_lt (Nat.lt_of_lt_of_le (Heap.lt_size e) I.ok.above))).trans e1⟩
  ·by_cases hj:j=i
   ·subst hj
    rw [hi] at e1;cases e1
    rw [List.getElem?_set_self hiσ] at e2
    cases e2
    exact ⟨u,r,.inl ⟨hk,by simp⟩⟩
   ·rw [List.getElem?_set_ne (Ne.symm hj)] at e2
    obtain ⟨u',r',q⟩:=hl j y v' e1 e2 e3
    refine ⟨u',r',?_⟩
    rcases q with ⟨k,e⟩ | ⟨k,c,e,z⟩
    ·refine .inl ⟨k,?_⟩
     have:y≠x:=fun e=>hj (nodup_ix hN e1 (e▸hi))
     simp [this,e]
    ·exact .inr ⟨k,c,e,z.sameBut hs (cne y c e)⟩
  ·obtain ⟨w',z⟩:=I.cell y c e
   exact ⟨w',z.sameBut hs (cne y c e)⟩
  ·obtain ⟨e,n,ne,nf,d⟩:=I.pin p hp
   exact ⟨(hs.2 p.1 ne).trans e,n,ne,nf,d⟩
 ·have hfn:X.fn x=true:=by
   rcases hf with z | z
   ·exact z
   ·rw [z] at hk;cases hk
  obtain ⟨c,hc⟩:=I.ok.has x (.inl hk)
  obtain ⟨w',z⟩:=I.cell x c hc
  refine wpAny_storeName_cell I.ok.kind hk hc z (fun h' hc' hs=>?_)
  obtain ⟨oc,hoc,hocd⟩:=id z
  refine h { s with heap:=h' } ⟨I.ok,I.os,I.bare,⟨fun b o e n hb hx=>?_,fun b o e n hb hx=>?_,I.base.free,fun b o e hx=>?_,I.base.tups,I.base.frzs,I.base.tbls⟩,⟨m,hn.sameBut hs (Ne.symm (cne x c hc)),fun j y v' e1 e2 e3=>?_⟩,fun y c' e=>?_,I.free,I.freeC,fun p hp=>?_,tracked ⟨oc,hoc,I.freeC x c hc⟩ hs,by simpa using I.len⟩ ⟨c,hs,.inr hc⟩
  ·exact (hs.2 b (Nat.ne_of_lt (Nat.lt_of_lt_of_le (Heap.lt_size e) (I.ok.cab x c hfn hc)))).trans (I.base.keep b o e n hb hx)
  ·obtain ⟨sl,e1⟩:=I.base.slot b o e n hb hx
   exact ⟨sl,(hs.2 b (Nat.ne_of_lt (Nat.lt_of_lt_of_le (Heap.lt_size e) (I.ok.cab x c hfn hc)))).trans e1⟩
  ·obtain ⟨o',e1⟩:=I.base.there b o e hx
   exact ⟨o',(hs.2 b (Nat.ne_of_lt (Nat.lt_of_lt_of_le (Heap.lt_size e) (I.ok.cab x c hfn hc)))).trans e1⟩
  ·by_cases hj:j=i
   ·subst hj
    rw [hi] at e1;cases e1
    rw [List.getElem?_set_self hiσ] at e2
    cases e2
    exact ⟨u,r,.inr ⟨.inl hk,c,hc,hc'⟩⟩
   ·rw [List.getElem?_set_ne (Ne.symm hj)] at e2
    obtain ⟨u',r',q⟩:=hl j y v' e1 e2 e3
    refine ⟨u',r',?_⟩
    rcases q with q | ⟨k,c',e,z'⟩
    ·exact .inl q
    ·refine .inr ⟨k,c',e,z'.sameBut hs ?_⟩
     rintro rfl
     exact hj (nodup_ix hN e1 (I.ok.inj _ _ _ e hc▸hi))
  ·by_cases hcc:c'=c
   ·subst hcc;exact ⟨_,hc'⟩
   ·obtain ⟨w2,z2⟩:=I.cell y c' e
    exact ⟨w2,z2.sameBut hs hcc⟩
  ·obtain ⟨e,n,ne,nf,d⟩:=I.pin p hp
   refine ⟨(hs.2 p.1 ?_).trans e,n,ne,nf,d⟩
   intro q
   rw [q,hoc] at e
   have q':oc=p.2:=Option.some.inj e
   exact d w' (by rw [<- q'];exact hocd)
theorem store_ok {M:Model}{A:Around}{E:Value->Shared->Prop}{i:Nat}{x:Str}{v:V}{u:Value}{Q:Unit->Shared->Prop}(I:Inv X pins σ H s)(hN:X.N.Nodup)(hi:X.N[i]?=some x)(hx:Loc X.env.scope x)(r:RelV v u)
  (h:∀ s',Inv X pins (σ.set i (some v)) H s'->Q () s') (hf:X.fn x=true∨X.env.scope.names.lookup x=some .local:=by first | exact .inl rfl | exact .inr rfl | assumption):wpAny M A (storeName X.env x u) Q E s :=
 store_ok2 I hN hi hx r (fun s' I' _=>h s' I') hf
theorem Inv.call' {s':Shared}{ch:List Addr}(I:Inv X pins σ H s)(ho:s'.os=s.os)(u:Un (frs X.stack) ch H H' s.heap s'.heap)(hok:HOk X.prog X.w H' s'.heap)(hg:AllBare s'.gens)
  (hch:∀ b∈ch,(b∈X.ex∨X.s₀.heap.objs.size<=b)∧b≠X.env.locals∧(∀ x c,X.env.cells.lookup x=some c->c≠b)∧∀ p∈X.pn++pins,p.1≠b):Inv X pins σ H' s':=by
 obtain ⟨h',g',d',t',o'⟩:=s'
 have e:o'=s.os:=ho
 subst e
 exact I.call (g':=g') (t':=t') (d':=d') u hok hg hch
end
abbrev XK:=Value->Option Addr->Hp->Prop
abbrev St:=List (Option V)
abbrev VK:=V->Hp->Prop
abbrev TE:=St->Hp->VK->Prop
abbrev TT:=St->Hp->(Bool->Hp->Prop)->Prop
abbrev TA:=St->Hp->(List V->Hp->Prop)->Prop
set_option genInjectivity false in
structure Ends where
 nx:St->Hp->Prop
 rt:VK
 bk:St->Hp->Prop:=fun _ _=>False
 ct:St->Hp->Prop:=fun _ _=>False
abbrev TS:=Ends->St->Hp->Prop
def EP (X:Cx)(pins:List (Addr×Obj))(σ:St)(Q:VK)(u:Value)(s':Shared):Prop:=∃ v H',Inv X pins σ H' s'∧RelV v u∧Q v H'
def TP (X:Cx)(pins:List (Addr×Obj))(σ:St)(Q:Bool->Hp->Prop)(b:Bool)(s':Shared):Prop:=∃ H',Inv X pins σ H' s'∧Q b H'
def AP (X:Cx)(pins:List (Addr×Obj))(σ:St)(Q:List V->Hp->Prop)(us:List Value)(s':Shared):Prop:=∃ vs H',Inv X pins σ H' s'∧Vals vs us∧Q vs H'
def SP (X:Cx)(pins:List (Addr×Obj))(D:Ends)(f:Flow)(s':Shared):Prop :=
 match f with
 | .next=>∃ σ' H',Inv X pins σ' H' s'∧D.nx σ' H'
 | .brk=>∃ σ' H',Inv X pins σ' H' s'∧D.bk σ' H'
 | .cont=>∃ σ' H',Inv X pins σ' H' s'∧D.ct σ' H'
 | .ret u=>∃ v σ' H',Inv X pins σ' H' s'∧RelV v u∧D.rt v H'
def PE (X:Cx)(e:Expr)(t:TE):Prop :=
 ∀ (pins:List (Addr×Obj)) (s:Shared) (σ:St) (H:Hp) (Q:VK),Inv X pins σ H s->t σ H Q->wpAny (model X.prog X.w) X.A (eval e X.env) (EP X pins σ Q) X.xe s
def PT (X:Cx)(e:Expr)(t:TT):Prop :=
 ∀ (pins:List (Addr×Obj)) (s:Shared) (σ:St) (H:Hp) (Q:Bool->Hp->Prop),Inv X pins σ H s->t σ H Q->wpAny (model X.prog X.w) X.A (isTrue e X.env (eval e X.env)) (TP X pins σ Q) X.xe s
def PW (X:Cx)(e:Expr)(t:TT):Prop :=
 ∀ (whole:Sem Value) (pins:List (Addr×Obj)) (s:Shared) (σ:St) (H:Hp) (Q:Bool->Hp->Prop),Inv X pins σ H s->t σ H Q->wpAny (model X.prog X.w) X.A (isTrue e X.env whole) (TP X pins σ Q) X.xe s
theorem PW.pt {X:Cx}{e:Expr}{t:TT}(h:PW X e t):PT X e t:=h _
def PA (X:Cx)(es:List Expr)(t:TA):Prop :=
 ∀ (pos:Pos) (pins:List (Addr×Obj)) (s:Shared) (σ:St) (H:Hp) (Q:List V->Hp->Prop),Inv X pins σ H s->t σ H Q->wpAny (model X.prog X.w) X.A (spliced (backTo pos (starEach es X.env))) (AP X pins σ Q) X.xe s
def PS (X:Cx)(st:Stmt)(t:TS):Prop :=
 ∀ (pins:List (Addr×Obj)) (s:Shared) (σ:St) (H:Hp) (D:Ends),Inv X pins σ H s->t D σ H->wpAny (model X.prog X.w) X.A (exec st X.env) (SP X pins D) X.xe s
def PSs (X:Cx)(st:List Stmt)(t:TS):Prop :=
 ∀ (pins:List (Addr×Obj)) (s:Shared) (σ:St) (H:Hp) (D:Ends),Inv X pins σ H s->t D σ H->wpAny (model X.prog X.w) X.A (execs st X.env) (SP X pins D) X.xe s
theorem thn {α:Type}{t:Sem α}{Q Q':α->Shared->Prop}{M:Model}{A:Around}{E:Value->Shared->Prop}{s:Shared}(h:wpAny M A t Q E s)(hQ:∀ a s,Q a s->Q' a s):wpAny M A t Q' E s:=wpAny_mono h hQ fun _ _ x=>x
end L2
namespace L2
open PySem PySem.Spec PyProof.Rows
section
variable {X:Cx}
def tVar (i:Nat):TE:=fun σ H Q=>∃ v,σ[i]?=some (some v)∧Q v H
def tC (v:V):TE:=fun _ H Q=>Q v H
theorem pe_var {i:Nat}{x:Str}{pos:Pos}(hN:X.N[i]?=some x)(hv:Vis X.env.scope x)(hd:(x==("__debug__" : Str))=false:=by decide)(hcd:(x==("__classdict__" : Str))=false:=by decide):PE X (.Name x pos) (tVar i):=by
 intro pins s σ H Q I h
 obtain ⟨v,e,h⟩:=h
 obtain ⟨m,hn,hl⟩:=I.loc
 obtain ⟨u,r,l⟩:=hl i x v hN e hv
 have fin:EP X pins σ Q u s:=⟨v,H,I,r,h⟩
 rcases l with ⟨hk,hm⟩ | ⟨hk,c,hc,hcell⟩
 ·exact wpAny_Name (wpAny_loadName_local I.ok.kind hk hn hm fin) hd
 ·rcases hk with hk | hk
  ·exact wpAny_Name (wpAny_loadName_cell I.ok.kind hk hc hcell fin) hd
  ·exact wpAny_Name (wpAny_loadName_free I.ok.kind hk hc hcell fin hcd) hd
theorem pe_int {i j pos}:PE X (.Constant (.int i) j pos) (tC (.int i)):=fun _ _ _ H _ I h=>wpAny_Constant_int ⟨.int i,H,I.tok _,⟨_,rfl⟩,h⟩
theorem pe_bl {b j pos}:PE X (.Constant (.bool b) j pos) (tC (.bl b)):=fun _ _ _ H _ I h=>Constant_bool ⟨.bl b,H,I,rfl,h⟩
theorem pe_non {j pos}:PE X (.Constant .none j pos) (tC .non):=fun _ _ _ H _ I h=>Constant_none ⟨.non,H,I,rfl,h⟩
theorem pe_str {x j pos}:PE X (.Constant (.str x) j pos) (tC (.str x)):=fun _ _ _ H _ I h=>Calls.Constant_str ⟨.str x,H,I.tok _,⟨_,rfl⟩,h⟩
def Gl (X:Cx)(x:Str):Prop:=X.env.kindOf x=some .globalImplicit
theorem ld_glob {E:Value->Shared->Prop}{pins:List (Addr×Obj)}{s:Shared}{σ:St}{H:Hp}{x:Str}{u:Value}{pos:Pos}{Q:Value->Shared->Prop}(I:Inv X pins σ H s)(hg:Gl X x)(hm:X.mg x=some u)(h:Q u s)
  (hd:(x==("__debug__" : Str))=false:=by decide):wpAny (model X.prog X.w) X.A (eval (.Name x pos) X.env) Q E s :=
 Calls.Name_function_global I.ok.kind hg (Calls.loadGlobal_global (by rw [I.ok.glob];exact I.mod.glob.keeps I.bk) hm h) hd
theorem ld_blt {E:Value->Shared->Prop}{pins:List (Addr×Obj)}{s:Shared}{σ:St}{H:Hp}{x:Str}{u:Value}{pos:Pos}{Q:Value->Shared->Prop}(I:Inv X pins σ H s)(hg:Gl X x)(hm:X.mg x=none)(hv:bootBuiltins x=some u)(h:Q u s)
  (hn:x ≠ "__name__" := by decide) (hd:(x==("__debug__" : Str))=false:=by decide):wpAny (model X.prog X.w) X.A (eval (.Name x pos) X.env) Q E s:=by
 obtain ⟨mb,h1,h2⟩:=I.mod.blt
 exact Calls.Name_function_global I.ok.kind hg (Calls.loadGlobal_builtin (by rw [I.ok.glob];exact I.mod.glob.keeps I.bk) hm (by rw [I.ok.blt];exact h1.keeps I.bk) ((h2 x hn).trans hv) h) hd
theorem pe_glob {x:Str}{v:V}{u:Value}{pos:Pos}(hg:Gl X x)(hm:X.mg x=some u)(r:RelV v u)(hd:(x==("__debug__" : Str))=false:=by decide):PE X (.Name x pos) (tC v) :=
 fun _ _ _ H _ I h=>ld_glob I hg hm ⟨v,H,I,r,h⟩ hd
theorem pe_bltn {x:Str}{v:V}{u:Value}{pos:Pos}(hg:Gl X x)(hm:X.mg x=none)(hv:bootBuiltins x=some u)(r:RelV v u)(hn:x ≠ "__name__" := by decide)(hd:(x==("__debug__" : Str))=false:=by decide):PE X (.Name x pos) (tC v) :=
 fun _ _ _ H _ I h=>ld_blt I hg hm hv ⟨v,H,I,r,h⟩ hn hd
variable {a b:Expr}{ta tb:TE}{pos:Pos}
def PC (X:Cx)(op:CmpOp)(a b:Expr)(t:TE):Prop :=
 ∀ (pins:List (Addr×Obj)) (s:Shared) (σ:St) (H:Hp) (Q:VK),Inv X pins σ H s->t σ H Q ->
  wpAny (model X.prog X.w) X.A (eval a X.env) (fun v s₁=>wpAny (model X.prog X.w) X.A (eval b X.env) (fun u s₂=>wpAny (model X.prog X.w) X.A (compareOp op v u) (EP X pins σ Q) X.xe s₂) X.xe s₁) X.xe s
theorem nobehind (b:Expr){op:CmpOp}(h:op≠.In)(h2:op≠.NotIn):behindInMarks op b=false:=by
 have e1:(op==CmpOp.In)=false:=by cases op <;> first | rfl | exact absurd rfl h
 have e2:(op==CmpOp.NotIn)=false:=by cases op <;> first | rfl | exact absurd rfl h2
 cases b <;> simp [behindInMarks,e1,e2]
def tIsN (ta:TE):TE:=fun σ H Q=>ta σ H fun x H1=>Q (.bl (decide (x = .non))) H1
theorem RelV.none_iff {x:V}{v:Value}(r:RelV x v):(v==Value.none)=decide (x = .non):=by
 cases x with
 | non=>cases r;rfl
 | bl _=>cases r;rfl
 | int _=>obtain ⟨t,rfl⟩:=r;rfl
 | str _=>obtain ⟨t,rfl⟩:=r;rfl
 | byt _=>obtain ⟨t,rfl⟩:=r;rfl
 | flt _=>obtain ⟨t,rfl⟩:=r;rfl
 | ref _=>cases r;rfl
 | ty _=>cases r;rfl
theorem pc_isN {j pos'}(ha:PE X a ta):PC X .Is a (.Constant .none j pos') (tIsN ta):=by
 intro pins s σ H Q I h
 refine thn (ha pins s σ H _ I h) fun v s1 ⟨x,H1,I1,r1,q1⟩=>?_
 exact Constant_none (is_none_gen ⟨.bl _,H1,I1,by rw [r1.none_iff];rfl,q1⟩)
def tB (t:TE):TT:=fun σ H Q=>t σ H fun x H1=>∃ c,x = .bl c∧Q c H1
theorem pt_cmp {op:CmpOp}{t:TE}(h:PC X op a b t)(h1:behindInMarks op b=false:=by first | exact nobehind _ (by decide) (by decide) | rfl):PT X (.Compare a [op] [b] pos) (tB t):=by
 intro pins s σ H Q I hw
 refine wpAny_isTrue_Compare1 (thn (h pins s σ H _ I hw) fun v s1 h1=>thn h1 fun u s2 h2=>thn h2 fun c s3 ⟨x,H1,I1,r1,q1⟩=>?_) h1
 obtain ⟨d,rfl,q⟩:=q1
 cases r1
 exact wpAny_truthy_bool ⟨H1,I1,q⟩
theorem pt_val {e:Expr}{t:TE}(h:PE X e t)(he:∀ whole,isTrue e X.env whole=(do let v <- whole;standAt e.pos;holding [v] (truthy v)):=by intro _;rfl):PT X e (tB t):=by
 intro pins s σ H Q I hw
 refine isTrue_plain (thn (h pins s σ H _ I hw) fun v s1 ⟨x,H1,I1,r1,q1⟩=>?_) (he _)
 obtain ⟨d,rfl,q⟩:=q1
 cases r1
 exact wpAny_truthy_bool ⟨H1,I1,q⟩
variable {tA tB':TT}{rest:List Expr}
def tAnd (t u:TT):TT:=fun σ H Q=>t σ H fun c H1=>if c=true then u σ H1 Q else Q false H1
def tOr (t u:TT):TT:=fun σ H Q=>t σ H fun c H1=>if c=true then Q true H1 else u σ H1 Q
def tNot (t:TT):TT:=fun σ H Q=>t σ H fun c H1=>Q (!c) H1
theorem pw_and1 (ha:PT X a tA):PW X (.BoolOp .And [a] pos) tA:=by
 intro wh pins s σ H Q I h
 refine isTrue_and (thn (ha pins s σ H Q I h) fun c s1 e=>?_)
 cases c with
 | true=>exact isTrue_and_nil e
 | false=>exact e
theorem pw_or1 (ha:PT X a tA):PW X (.BoolOp .Or [a] pos) tA:=by
 intro wh pins s σ H Q I h
 refine isTrue_or (thn (ha pins s σ H Q I h) fun c s1 e=>?_)
 cases c with
 | false=>exact isTrue_or_nil e
 | true=>exact e
theorem pw_and (ha:PT X a tA)(hb:PW X (.BoolOp .And (b::rest) pos) tB'):PW X (.BoolOp .And (a::b::rest) pos) (tAnd tA tB'):=by
 intro wh pins s σ H Q I h
 refine isTrue_and (thn (ha pins s σ H _ I h) fun c s1 ⟨H1,I1,q1⟩=>?_)
 cases c with
 | true=>exact hb wh pins s1 σ H1 Q I1 q1
 | false=>exact ⟨H1,I1,q1⟩
theorem pw_or (ha:PT X a tA)(hb:PW X (.BoolOp .Or (b::rest) pos) tB'):PW X (.BoolOp .Or (a::b::rest) pos) (tOr tA tB'):=by
 intro wh pins s σ H Q I h
 refine isTrue_or (thn (ha pins s σ H _ I h) fun c s1 ⟨H1,I1,q1⟩=>?_)
 cases c with
 | true=>exact ⟨H1,I1,q1⟩
 | false=>exact hb wh pins s1 σ H1 Q I1 q1
theorem pt_not (ha:PT X a tA):PT X (.UnaryOp .Not a pos) (tNot tA):=by
 intro pins s σ H Q I h
 exact isTrue_not (ha pins s σ H (fun c H1=>Q (!c) H1) I h)
def tAndV (ta tb:TE):TE:=fun σ H Q=>ta σ H fun x H1=>∃ c,x = .bl c∧if c=true then tb σ H1 Q else Q (.bl false) H1
def tOrV (ta tb:TE):TE:=fun σ H Q=>ta σ H fun x H1=>∃ c,x = .bl c∧if c=true then Q (.bl true) H1 else tb σ H1 Q
theorem pe_one {op}{t:TE}(h:PE X a t):PE X (.BoolOp op [a] pos) t:=fun pins s σ H Q I hw=>BoolOp_one (h pins s σ H Q I hw)
theorem pe_and (ha:PE X a ta)(hb:PE X (.BoolOp .And (b::rest) pos) tb):PE X (.BoolOp .And (a::b::rest) pos) (tAndV ta tb):=by
 intro pins s σ H Q I h
 refine BoolOp_and (thn (ha pins s σ H _ I h) fun v s1 ⟨x,H1,I1,r1,q1⟩=>?_)
 obtain ⟨c,rfl,q1⟩:=q1
 cases r1
 refine wpAny_truthy_bool ?_
 cases c with
 | true=>exact hb pins s1 σ H1 Q I1 q1
 | false=>exact ⟨.bl false,H1,I1,rfl,q1⟩
theorem pe_or (ha:PE X a ta)(hb:PE X (.BoolOp .Or (b::rest) pos) tb):PE X (.BoolOp .Or (a::b::rest) pos) (tOrV ta tb):=by
 intro pins s σ H Q I h
 refine BoolOp_or (thn (ha pins s σ H _ I h) fun v s1 ⟨x,H1,I1,r1,q1⟩=>?_)
 obtain ⟨c,rfl,q1⟩:=q1
 cases r1
 refine wpAny_truthy_bool ?_
 cases c with
 | false=>exact hb pins s1 σ H1 Q I1 q1
 | true=>exact ⟨.bl true,H1,I1,rfl,q1⟩
def tIf (t:TT)(ta tb:TE):TE:=fun σ H Q=>t σ H fun c H1=>if c=true then ta σ H1 Q else tb σ H1 Q
theorem pe_ifExp {c:Expr}(hc:PT X c tA)(ha:PE X a ta)(hb:PE X b tb):PE X (.IfExp c a b pos) (tIf tA ta tb):=by
 intro pins s σ H Q I h
 refine wpAny_IfExp (thn (hc pins s σ H _ I h) fun d s1 ⟨H1,I1,q1⟩=>?_)
 cases d with
 | true=>exact ha pins s1 σ H1 Q I1 q1
 | false=>exact hb pins s1 σ H1 Q I1 q1
end
end L2
namespace L2
open PySem PySem.Spec PyProof.Rows
def SqL (K:PySem.W.Frag)(H:Hp)(a:Addr)(xs:List V):Prop :=
 Rd H a (.lst xs) ∨
  ∃ (o:Obj) (its:Array Value) (n:Nat),K.lookup a=some o∧o.cls = .type "list" ∧ o.dict=none∧o.data = .seq its n∧its.size<=sizeLine∧Vals xs its.toList
def SqT (K:PySem.W.Frag)(H:Hp)(a:Addr)(xs:List V):Prop :=
 Rd H a (.tup xs) ∨
  ∃ (o:Obj) (its:Array Value) (n:Nat),K.lookup a=some o∧o.cls = .type "tuple" ∧ o.data = .seq its n∧its.size<=sizeLine∧Vals xs its.toList
def absV:Value->Option V
 | .none=>some .non
 | .bool b=>some (.bl b)
 | .int i _=>some (.int i)
 | .str x _=>some (.str x)
 | .bytes b _=>some (.byt b)
 | .float b _=>some (.flt b)
 | .ref a=>some (.ref a)
 | .type n=>some (.ty n)
 | _=>none
theorem RelV.abs {x:V}{u:Value}(r:RelV x u):absV u=some x:=by
 cases x with
 | non=>cases r;rfl
 | bl _=>cases r;rfl
 | int _=>obtain ⟨t,rfl⟩:=r;rfl
 | str _=>obtain ⟨t,rfl⟩:=r;rfl
 | byt _=>obtain ⟨t,rfl⟩:=r;rfl
 | flt _=>obtain ⟨t,rfl⟩:=r;rfl
 | ref _=>cases r;rfl
 | ty _=>cases r;rfl
theorem RelV.inj {x y:V}{u:Value}(r:RelV x u)(q:RelV y u):x=y:=Option.some.inj (r.abs.symm.trans q.abs)
theorem Vals.inj:∀ {xs ys:List V} {us:List Value},Vals xs us->Vals ys us->xs=ys
 | _,_,_,.nil,.nil=>rfl
 | _,_,_,.cons r t,.cons r' t'=>by rw [r.inj r',Vals.inj t t']
section
variable {X:Cx}{pins:List (Addr×Obj)}{σ:St}{H:Hp}{s:Shared}{a:Addr}{xs ys:List V}
theorem SqL.of {K:PySem.W.Frag}(h:H a=some (.lst xs)):SqL K H a xs:=.inl (.inl h)
theorem SqT.of {K:PySem.W.Frag}(h:H a=some (.tup xs)):SqT K H a xs:=.inl (.inl h)
theorem Inv.list (I:Inv X pins σ H s)(h:SqL X.K H a xs):∃ its:List Value,Vals xs its∧PlainL s.heap a its.toArray∧xs.length<=sizeLine:=by
 rcases h with h | ⟨o,its,n,hk,hc,hd,hs,hz,r⟩
 ·obtain ⟨z,its,n,r,e⟩:=h.ok I.hok
  exact ⟨its,r,⟨_,n,e,rfl,rfl,rfl⟩,z⟩
 ·refine ⟨its.toList,r,⟨o,n,I.kIn a o hk,hc,hd,by simpa using hs⟩,?_⟩
  have e:=r.length
  simp only [Array.length_toList] at e
  omega
theorem Inv.tuple (I:Inv X pins σ H s)(h:SqT X.K H a xs):∃ its:List Value,Vals xs its∧IsTup s.heap a its.toArray∧xs.length<=sizeLine:=by
 rcases h with h | ⟨o,its,n,hk,hc,hs,hz,r⟩
 ·obtain ⟨z,its,r,p⟩:=h.ok I.hok
  exact ⟨its,r,p,z⟩
 ·refine ⟨its.toList,r,⟨o,I.kIn a o hk,hc,n,by simpa using hs⟩,?_⟩
  have e:=r.length
  simp only [Array.length_toList] at e
  omega
theorem Inv.list_inj (I:Inv X pins σ H s)(h:SqL X.K H a xs)(h':SqL X.K H a ys):xs=ys:=by
 obtain ⟨its,r,⟨o,n,e,_,_,d⟩,_⟩:=I.list h
 obtain ⟨its',r',⟨o',n',e',_,_,d'⟩,_⟩:=I.list h'
 rw [e] at e';cases e'
 rw [d] at d'
 injection d' with d1 _
 have:its=its':=by simpa using congrArg Array.toList d1
 subst this
 exact r.inj r'
theorem Inv.tuple_inj (I:Inv X pins σ H s)(h:SqT X.K H a xs)(h':SqT X.K H a ys):xs=ys:=by
 obtain ⟨its,r,⟨o,e,_,n,d⟩,_⟩:=I.tuple h
 obtain ⟨its',r',⟨o',e',_,n',d'⟩,_⟩:=I.tuple h'
 rw [e] at e';cases e'
 rw [d] at d'
 injection d' with d1 _
 have:its=its':=by simpa using congrArg Array.toList d1
 subst this
 exact r.inj r'
end
abbrev Cx.wish (X:Cx)(E:Value->Shared->Prop):Cx:={ X with xe:=E }
abbrev Cx.nox (X:Cx):Cx:=X.wish fun _ _=>False
theorem Cx.Ok.wish {X:Cx}(ok:X.Ok)(E:Value->Shared->Prop):(X.wish E).Ok :=
 ⟨ok.mod,ok.kind,ok.glob,ok.blt,ok.above,ok.inj,ok.has,ok.cab,ok.hd,ok.frames,ok.stk,ok.exf,ok.bs,ok.bsz,ok.noex,ok.exfs,ok.funs,ok.frf⟩
theorem Cx.Ok.unwish {X:Cx}{E:Value->Shared->Prop}(ok:(X.wish E).Ok):X.Ok :=
 ⟨ok.mod,ok.kind,ok.glob,ok.blt,ok.above,ok.inj,ok.has,ok.cab,ok.hd,ok.frames,ok.stk,ok.exf,ok.bs,ok.bsz,ok.noex,ok.exfs,ok.funs,ok.frf⟩
section
variable {X:Cx}{pins:List (Addr×Obj)}{σ:St}{H:Hp}{s:Shared}{E:Value->Shared->Prop}
theorem Inv.wish (I:Inv X pins σ H s)(E:Value->Shared->Prop):Inv (X.wish E) pins σ H s:=⟨I.ok.wish E,I.os,I.bare,I.base,I.loc,I.cell,I.free,I.freeC,I.pin,I.hok,I.len⟩
theorem Inv.unwish (I:Inv (X.wish E) pins σ H s):Inv X pins σ H s:=⟨I.ok.unwish,I.os,I.bare,I.base,I.loc,I.cell,I.free,I.freeC,I.pin,I.hok,I.len⟩
theorem SP.unwish {D:Ends}{f:Flow}{s':Shared}(h:SP (X.wish E) pins D f s'):SP X pins D f s':=by
 cases f with
 | next=>obtain ⟨σ',H',I,q⟩:=h;exact ⟨σ',H',I.unwish,q⟩
 | brk=>obtain ⟨σ',H',I,q⟩:=h;exact ⟨σ',H',I.unwish,q⟩
 | cont=>obtain ⟨σ',H',I,q⟩:=h;exact ⟨σ',H',I.unwish,q⟩
 | ret u=>obtain ⟨v,σ',H',I,r,q⟩:=h;exact ⟨v,σ',H',I.unwish,r,q⟩
theorem PSs.nox {st:List Stmt}{t:TS}(h:PSs X.nox st t):PSs X st t:=fun pins s σ H D I hw =>
 wpAny_mono (h pins s σ H D (I.wish _) hw) (fun _ _ q=>q.unwish) fun _ _ z=>False.elim z
end
section
variable {X:Cx}{st:Stmt}{rest:List Stmt}{t u:TS}{e:Expr}{te:TE}{pos:Pos}
def tNext:TS:=fun D σ H=>D.nx σ H
def tSeq (t u:TS):TS:=fun D σ H=>t { D with nx:=u D } σ H
theorem pss_nil:PSs X [] tNext:=fun _ _ σ H _ I h=>wpAny_execs_nil ⟨σ,H,I,h⟩
theorem pss_cons (h1:PS X st t)(h2:PSs X rest u):PSs X (st::rest) (tSeq t u):=by
 intro pins s σ H D I h
 refine wpAny_execs_cons (thn (h1 pins s σ H { D with nx:=u D } I h) fun f s1 q=>?_)
 cases f with
 | next =>
  obtain ⟨σ',H',I',q⟩:=q
  exact h2 pins s1 σ' H' D I' q
 | ret v=>exact q
 | brk=>exact q
 | cont=>exact q
theorem pss_one (h1:PS X st t):PSs X [st] t:=by
 intro pins s σ H D I h
 refine wpAny_execs_cons (thn (h1 pins s σ H D I h) fun f s1 q=>?_)
 cases f with
 | next=>exact wpAny_execs_nil q
 | ret v=>exact q
 | brk=>exact q
 | cont=>exact q
theorem Inv.quiet {pins:List (Addr×Obj)}{σ:St}{H:Hp}{s:Shared}(I:Inv X pins σ H s):interactive X.env=false:=by simp [interactive,I.ok.kind]
def tDrop (te:TE):TS:=fun D σ H=>te σ H fun _ H1=>D.nx σ H1
theorem ps_expr (he:PE X e te)(hs:swapsWith e none pos.line X.env=pure false:=by rfl):PS X (.Expr e pos) (tDrop te):=by
 intro pins s σ H D I h
 exact wpAny_Expr_any (thn (he pins s σ H _ I h) fun v s1 ⟨x,H1,I1,r1,q1⟩=>⟨σ,H1,I1,q1⟩) I.quiet hs
def tRet (te:TE):TS:=fun D σ H=>te σ H D.rt
theorem ps_ret (he:PE X e te):PS X (.Return (some e) pos) (tRet te):=by
 intro pins s σ H D I h
 exact wpAny_Return_some (thn (he pins s σ H _ I h) fun v s1 ⟨x,H1,I1,r1,q1⟩=>⟨x,σ,H1,I1,r1,q1⟩)
def tIfS (c:TT)(t u:TS):TS:=fun D σ H=>c σ H fun b H1=>if b=true then t D σ H1 else u D σ H1
theorem ps_if {c:Expr}{a b:List Stmt}{tc:TT}(hc:PT X c tc)(ha:PSs X a t)(hb:PSs X b u):PS X (.If c a b pos) (tIfS tc t u):=by
 intro pins s σ H D I h
 refine wpAny_If (thn (hc pins s σ H _ I h) fun d s1 ⟨H1,I1,q1⟩=>?_)
 cases d with
 | true=>exact ha pins s1 σ H1 D I1 q1
 | false=>exact hb pins s1 σ H1 D I1 q1
end
abbrev TG:=V->St->Hp->(St->Hp->Prop)->Prop
abbrev TGs:=List V->St->Hp->(St->Hp->Prop)->Prop
def PG (X:Cx)(target:Expr)(t:TG):Prop :=
 ∀ (pins:List (Addr×Obj)) (s:Shared) (σ:St) (H:Hp) (v:V) (u:Value) (Q:St->Hp->Prop),Inv X pins σ H s->RelV v u->t v σ H Q ->
  wpAny (model X.prog X.w) X.A (assign target X.env u) (fun _ s'=>∃ σ' H',Inv X pins σ' H' s'∧Q σ' H') X.xe s
def PGs (X:Cx)(ts:List Expr)(t:TGs):Prop :=
 ∀ (pins:List (Addr×Obj)) (s:Shared) (σ:St) (H:Hp) (vs:List V) (us:List Value) (Q:St->Hp->Prop),Inv X pins σ H s->Vals vs us->t vs σ H Q ->
  wpAny (model X.prog X.w) X.A (assignInOrder ((assignEach ts X.env).map (·.2)) us) (fun _ s'=>∃ σ' H',Inv X pins σ' H' s'∧Q σ' H') X.xe s
abbrev TSet:=V->V->V->Hp->(Hp->Prop)->Prop
def PSet (X:Cx)(t:TSet):Prop :=
 ∀ (pins:List (Addr×Obj)) (s:Shared) (σ:St) (H:Hp) (o i v:V) (ov iv u:Value) (Q:Hp->Prop),Inv X pins σ H s->RelV o ov->RelV i iv->RelV v u->t o i v H Q ->
  wpAny (model X.prog X.w) X.A (setItem ov iv u) (fun _ s'=>∃ H',Inv X pins σ H' s'∧Q H') X.xe s
section
variable {X:Cx}{pos:Pos}
def gName (i:Nat):TG:=fun v σ H Q=>Q (σ.set i (some v)) H
theorem pg_name {i:Nat}{x:Str}(hN:X.N.Nodup)(hi:X.N[i]?=some x)(hx:Loc X.env.scope x)(hf:X.fn x=true∨X.env.scope.names.lookup x=some .local:=by first | exact .inl rfl | exact .inr rfl | assumption):PG X (.Name x pos) (gName i):=by
 intro pins s σ H v u Q I r h
 exact wpAny_assign_Name (store_ok I hN hi hx r (fun s' I'=>⟨_,H,I',h⟩) hf)
def gNil:TGs:=fun vs σ H Q=>vs=[]∧Q σ H
def gCons (t:TG)(u:TGs):TGs:=fun vs σ H Q=>∃ v r,vs=v::r∧t v σ H fun σ' H'=>u r σ' H' Q
theorem pgs_nil:PGs X [] gNil:=by
 intro pins s σ H vs us Q I r h
 obtain ⟨e,h⟩:=h
 subst e
 cases r
 exact assignInOrder_nil ⟨σ,H,I,h⟩
theorem pgs_cons {e:Expr}{es:List Expr}{t:TG}{u:TGs}(h1:PG X e t)(h2:PGs X es u)
  (hs:(assignEach (e::es) X.env).map (·.2)=assign e X.env::(assignEach es X.env).map (·.2):=by rfl):PGs X (e::es) (gCons t u):=by
 intro pins s σ H vs us Q I r h
 obtain ⟨v,vr,e1,h⟩:=h
 subst e1
 cases r with
 | cons r rr =>
  rw [hs]
  refine assignInOrder_cons (thn (h1 pins s σ H _ _ _ I r h) fun _ s1 ⟨σ1,H1,I1,q1⟩=>?_)
  exact h2 pins s1 σ1 H1 _ _ Q I1 rr q1
def gTup (K:PySem.W.Frag)(n:Nat)(t:TGs):TG:=fun v σ H Q=>∃ a xs,v = .ref a∧SqT K H a xs∧xs.length=n∧t xs σ H Q
theorem pg_tup {es:List Expr}{k:Nat}{t:TGs}{n:Nat}(hc:X.calm=true)(h:PGs X es t)
  (hn:(assignEach es X.env).length=n:=by rfl) (hst:(assignEach es X.env).findIdx? (·.1)=none:=by rfl):PG X (.Tuple es k pos) (gTup X.K n t):=by
 intro pins s σ H v u Q I r hw
 obtain ⟨a,xs,e1,hq,hl,hw⟩:=hw
 subst e1
 cases r
 obtain ⟨its,rv,ht,hz⟩:=I.tuple hq
 refine assign_Tuple_tuple (I.ok.hd hc) ht (by simp [hn,<- hl,rv.length]) hst fun h' hx=>?_
 have I1:Inv X pins σ H { s with heap:=h' }:=I.kept (t':=s.toks) fun b o e=>hx b o (Nat.ne_of_lt (Heap.lt_size e)) e
 exact h pins _ σ H xs _ Q I1 (by simpa using rv) hw
def tAsg (te:TE)(g:TG):TS:=fun D σ H=>te σ H fun x H1=>g x σ H1 D.nx
theorem ps_set {i:Nat}{x:Str}{e:Expr}{te:TE}{pos':Pos}(hN:X.N.Nodup)(hi:X.N[i]?=some x)(hx:Loc X.env.scope x)(he:PE X e te)(hs:swapsWith e (some (.Name x pos')) pos.line X.env=pure false:=by rfl)(hf:X.fn x=true∨X.env.scope.names.lookup x=some .local:=by first | exact .inl rfl | exact .inr rfl | assumption) :
  PS X (.Assign [.Name x pos'] e pos) (tAsg te (gName i)):=by
 intro pins s σ H D I h
 refine wpAny_Assign_Name (thn (he pins s σ H _ I h) fun v s1 ⟨y,H1,I1,r1,q1⟩=>?_) hs
 exact store_ok I1 hN hi hx r1 (fun s2 I2=>⟨_,H1,I2,q1⟩) hf
end
section
variable {X:Cx}{pos:Pos}
def tWhile (c:TT)(tb:TS):TS:=fun D σ H=>∃ W:Nat->St->Hp->Prop,(∃ m,W m σ H)∧∀ m σ H,W m σ H ->
 c σ H fun b H1=>if b=true then ∃ N:St->Hp->Prop,(∀ σ' H',N σ' H'->∃ m',m'<m∧W m' σ' H')∧tb { D with nx:=N,ct:=N,bk:=D.nx } σ H1 else D.nx σ H1
theorem ps_while {c:Expr}{body:List Stmt}{tc:TT}{tb:TS}(hp:PassesOwn (model X.prog X.w) X.A X.env X.xe)(hc:PT X c tc)(hb:PSs X body tb):PS X (.While c body [] pos) (tWhile tc tb):=by
 intro pins s σ H D I h
 obtain ⟨W,⟨m0,w0⟩,turn⟩:=h
 refine wpAny_While (codeAny_whileLoop (fun n s'=>∃ σ' H',Inv X pins σ' H' s'∧W n σ' H') ?_ m0 ⟨σ,H,I,w0⟩)
 rintro n s1 ⟨σ1,H1,I1,w1⟩
 refine wpAny_passesOwn hp (thn (hc pins s1 σ1 H1 _ I1 (turn n σ1 H1 w1)) fun b s2 ⟨H2,I2,q2⟩=>?_)
 cases b with
 | true =>
  obtain ⟨N,hN,q2⟩:=q2
  rw [if_pos rfl]
  refine wpAny_passesOwn hp (thn (hb pins s2 σ1 H2 _ I2 q2) fun f s3 q3=>?_)
  cases f with
  | next =>
   obtain ⟨σ3,H3,I3,n3⟩:=q3
   obtain ⟨m',hm,w3⟩:=hN σ3 H3 n3
   exact ⟨m',hm,σ3,H3,I3,w3⟩
  | cont =>
   obtain ⟨σ3,H3,I3,n3⟩:=q3
   obtain ⟨m',hm,w3⟩:=hN σ3 H3 n3
   exact ⟨m',hm,σ3,H3,I3,w3⟩
  | brk=>exact q3
  | ret v=>exact q3
 | false =>
  rw [if_neg Bool.false_ne_true]
  exact wpAny_execs_nil ⟨σ1,H2,I2,q2⟩
end
set_option genInjectivity false in
structure It where
 go:Nat->Hp->Prop
 yld:Nat->Hp->V->Hp->Prop
 stop:Nat->Hp->Prop
def FpOk (X:Cx)(pins:List (Addr×Obj))(H:Hp)(b:Addr):Prop :=
 H b=none∧b≠X.env.locals∧b∉X.fs∧(b∈X.ex∨X.s₀.heap.objs.size<=b)∧(∀ x c,X.env.cells.lookup x=some c->c≠b)∧∀ p∈X.pn++pins,p.1≠b
theorem Inv.fpOk {X:Cx}{pins:List (Addr×Obj)}{σ:St}{H H':Hp}{s:Shared}{b:Addr}(I:Inv X pins σ H s)(hb:s.heap.objs.size<=b)(hn:H' b=none):FpOk X pins H' b:=by
 refine ⟨hn,Nat.ne_of_gt (Nat.lt_of_lt_of_le I.lt hb),I.nofs hb,.inr (Nat.le_trans I.sz hb),fun x c e z=>?_,fun p hp z=>?_⟩
 ·obtain ⟨v,q⟩:=I.cell x c e
  exact absurd (Nat.lt_of_lt_of_le q.lt (by rw [z];exact hb)) (Nat.lt_irrefl _)
 ·exact absurd (Nat.lt_of_lt_of_le (Heap.lt_size (I.pin p hp).1) (by rw [z];exact hb)) (Nat.lt_irrefl _)
set_option genInjectivity false in
structure Turn (P:Program)(w:World)(K:PySem.W.Frag)(tg:Expr)(J:It)(fp:List Addr)(it:Addr)(tn:Nat->Heap->Prop):Prop where
 mem:it∈fp
 obj:∀ i h,tn i h->∀ b∈fp,∃ o,h.get? b=some o∧∀ v,o.data≠.cell v
 keep:∀ i h h',tn i h->(∀ b∈fp,∀ o,h.get? b=some o->h'.get? b=some o)->tn i h'
 item:∀ (X:Cx),X.prog=P->X.w=w->X.K=K->X.calm=true->∀ (i:Nat) (pins:List (Addr×Obj)) (s:Shared) (σ:St) (H:Hp) (E:Value->Shared->Prop),Inv X pins σ H s->(∀ b∈fp,FpOk X pins H b)->tn i s.heap->J.go i H ->
  wpAny (model P w) X.A (pyNext (.ref it)) (fun r s1=>∃ u,r=some u ∧
   wpAny (model P w) X.A (letOwnedTupleGo tg (.ref it) u) (fun _ s2=>∃ x H',Inv X pins σ H' s2∧RelV x u∧J.yld i H x H'∧tn (i+1) s2.heap∧∀ b∈fp,H' b=none) E s1) E s
 done:∀ (X:Cx),X.prog=P->X.w=w->X.K=K->X.calm=true->∀ (i:Nat) (pins:List (Addr×Obj)) (s:Shared) (σ:St) (H:Hp) (E:Value->Shared->Prop),Inv X pins σ H s->(∀ b∈fp,FpOk X pins H b)->tn i s.heap->J.stop i H ->
  wpAny (model P w) X.A (pyNext (.ref it)) (fun r s1=>r=none∧Inv X pins σ H s1) E s
 self:∀ (A:Around) (i:Nat) (s:Shared) (Q:Value->Shared->Prop) (E:Value->Shared->Prop),tn i s.heap->Q (.ref it) s->wpAny (model P w) A (pyIter (.ref it)) Q E s
abbrev TI:=St->Hp->(It->Hp->Prop)->Prop
def PIE (X:Cx)(pins:List (Addr×Obj))(σ:St)(tg:Expr)(R:It->Hp->Prop)(itv:Value)(s2:Shared):Prop :=
 ∃ (it:Addr) (fp:List Addr) (tn:Nat->Heap->Prop) (J:It) (H':Hp),itv = .ref it∧Inv X pins σ H' s2∧Turn X.prog X.w X.K tg J fp it tn∧tn 0 s2.heap∧(∀ b∈fp,FpOk X pins H' b)∧R J H'
def PI (X:Cx)(tg iter:Expr)(wi:TI):Prop :=
 ∀ (pins:List (Addr×Obj)) (s:Shared) (σ:St) (H:Hp) (R:It->Hp->Prop),Inv X pins σ H s->wi σ H R ->
  wpAny (model X.prog X.w) X.A (eval iter X.env) (fun v s1=>wpAny (model X.prog X.w) X.A (pyIter v) (PIE X pins σ tg R) X.xe s1) X.xe s
theorem go_of {M : Model} {A : Around} {E : Value → Shared → Prop} {s : Shared} {tg : Expr} {it : Addr} {u : Value} {o : Obj} {n : String} {vs : Array Value} {Q : Unit → Shared → Prop} (ho : s.heap.get? it = some o) (hc : o.cls = .type n) (hd : o.data = .fields vs)
    (hn : ["enumerate", "zip", "dict_itemiterator", "dict_reverseitemiterator", "odict_iterator", "itertools.zip_longest", "itertools.pairwise"].contains n = false) (hQ : Q () s) : wpAny M A (letOwnedTupleGo tg (.ref it) u) Q E s := by
  unfold letOwnedTupleGo
  cases tg <;> first
    | exact wpAny_pure hQ
    | (cases u <;> first
        | exact wpAny_pure hQ
        | (refine wpAny_bind (wpAny_load ho ?_)
           rw [hc, hd]
           show wpAny M A (if (["enumerate", "zip", "dict_itemiterator", "dict_reverseitemiterator", "odict_iterator", "itertools.zip_longest", "itertools.pairwise"].contains n && vs[0]? == some (rawInt _)) = true then _ else _) Q E s
           rw [if_neg (by intro h; rw [hn, Bool.false_and] at h; cases h)]
           exact wpAny_pure hQ))
def Itl (K:PySem.W.Frag)(a:Addr):It :=
 ⟨fun i H=>∃ xs x,SqL K H a xs∧xs[i]?=some x,fun i H x H'=>H'=H∧∀ xs,SqL K H a xs->xs[i]?=some x,fun i H=>∃ xs,SqL K H a xs∧xs.length<=i⟩
def Itt (K:PySem.W.Frag)(a:Addr):It :=
 ⟨fun i H=>∃ xs x,SqT K H a xs∧xs[i]?=some x,fun i H x H'=>H'=H∧∀ xs,SqT K H a xs->xs[i]?=some x,fun i H=>∃ xs,SqT K H a xs∧xs.length<=i⟩
def Itr (lo:Int)(n:Nat):It:=⟨fun i _=>i<n,fun i H x H'=>H'=H∧x = .int (lo+i),fun i _=>n<=i⟩
theorem turn_list {P:Program}{w:World}{K:PySem.W.Frag}{tg:Expr}(a it:Addr):Turn P w K tg (Itl K a) [it] it (fun i h=>h.IsListIter it a i) where
 mem:=by simp
 obj:=fun i h st b hb=>by
  have e:b=it:=by simpa using hb
  subst e
  obtain ⟨o,e,c,d⟩:=st
  exact ⟨o,e,fun v z=>by rw [d] at z;cases z⟩
 keep:=fun i h h' st k=>st.at fun o e=>k it (by simp) o e
 item:=by
  intro X hP hw hK hc i pins s σ H E I hf st hg
  subst hP hw hK
  obtain ⟨xs,x,hq,hx⟩:=hg
  obtain ⟨its,rv,p,hz⟩:=I.list hq
  obtain ⟨u,hu,ru⟩:=rv.get hx
  obtain ⟨f0,f1,f2,f3,f4,f5⟩:=hf it (by simp)
  refine wpAny_pyNext_list_item st p.isList (x:=u) (by simpa using hu) fun h' st' sb=>?_
  have I1:Inv X pins σ H { s with heap:=h' }:=I.turned (t':=s.toks) (fun b o hb e=>(sb.2 b hb).trans e) f0 f1 f3 f4 f5
  obtain ⟨o,e,c,d⟩:=id st'
  exact ⟨u,rfl,go_of (s:={ s with heap:=h' }) e c d (by decide) ⟨x,H,I1,ru,⟨rfl,fun ys hy=>by rw [I.list_inj hy hq];exact hx⟩,st',fun b hb=>(hf b hb).1⟩⟩
 done:=by
  intro X hP hw hK hc i pins s σ H E I hf st hg
  subst hP hw hK
  obtain ⟨xs,hq,hx⟩:=hg
  obtain ⟨its,rv,p,hz⟩:=I.list hq
  obtain ⟨f0,f1,f2,f3,f4,f5⟩:=hf it (by simp)
  have hl:=rv.length
  exact wpAny_pyNext_list_end (I.ok.hd hc) st p.isList (by simp;omega) fun h' eb=>⟨rfl,I.turned (t':=s.toks) (fun b o hb e=>eb b o hb e) f0 f1 f3 f4 f5⟩
 self:=fun _ _ _ _ _ st h=>wpAny_pyIter_listiter st h
theorem turn_tuple {P:Program}{w:World}{K:PySem.W.Frag}{tg:Expr}(a it:Addr):Turn P w K tg (Itt K a) [it] it (fun i h=>h.IsTupleIter it a i) where
 mem:=by simp
 obj:=fun i h st b hb=>by
  have e:b=it:=by simpa using hb
  subst e
  obtain ⟨o,e,c,d⟩:=st
  exact ⟨o,e,fun v z=>by rw [d] at z;cases z⟩
 keep:=fun i h h' st k=>st.at fun o e=>k it (by simp) o e
 item:=by
  intro X hP hw hK hc i pins s σ H E I hf st hg
  subst hP hw hK
  obtain ⟨xs,x,hq,hx⟩:=hg
  obtain ⟨its,rv,p,hz⟩:=I.tuple hq
  obtain ⟨u,hu,ru⟩:=rv.get hx
  obtain ⟨f0,f1,f2,f3,f4,f5⟩:=hf it (by simp)
  refine wpAny_pyNext_tuple_item st (show s.heap.IsTuple a its.toArray from p) (x:=u) (by simpa using hu) fun h' st' sb=>?_
  have I1:Inv X pins σ H { s with heap:=h' }:=I.turned (t':=s.toks) (fun b o hb e=>(sb.2 b hb).trans e) f0 f1 f3 f4 f5
  obtain ⟨o,e,c,d⟩:=id st'
  exact ⟨u,rfl,go_of (s:={ s with heap:=h' }) e c d (by decide) ⟨x,H,I1,ru,⟨rfl,fun ys hy=>by rw [I.tuple_inj hy hq];exact hx⟩,st',fun b hb=>(hf b hb).1⟩⟩
 done:=by
  intro X hP hw hK hc i pins s σ H E I hf st hg
  subst hP hw hK
  obtain ⟨xs,hq,hx⟩:=hg
  obtain ⟨its,rv,p,hz⟩:=I.tuple hq
  obtain ⟨f0,f1,f2,f3,f4,f5⟩:=hf it (by simp)
  have hl:=rv.length
  exact wpAny_pyNext_tuple_end (I.ok.hd hc) st (show s.heap.IsTuple a its.toArray from p) (by simp;omega) fun h' eb=>⟨rfl,I.turned (t':=s.toks) (fun b o hb e=>eb b o hb e) f0 f1 f3 f4 f5⟩
 self:=fun _ _ _ _ _ st h=>wpAny_pyIter_tupleiter st h
theorem turn_range {P:Program}{w:World}{K:PySem.W.Frag}{tg:Expr}(it:Addr)(lo:Int)(n:Nat):Turn P w K tg (Itr lo n) [it] it (fun i h=>IsRangeIter h it (lo+(i:Nat)*1) ((n:Int)-(i:Nat)) 1) where
 mem:=by simp
 obj:=fun i h st b hb=>by
  have e:b=it:=by simpa using hb
  subst e
  exact ⟨_,st,fun v z=>by
   have z':Data.fields _=Data.cell v:=z
   cases z'⟩
 keep:=fun i h h' st k=>k it (by simp) _ st
 item:=by
  intro X hP hw hK hc i pins s σ H E I hf st hg
  subst hP hw hK
  obtain ⟨f0,f1,f2,f3,f4,f5⟩:=hf it (by simp)
  have W:=Walks.range (prog:=X.prog) (w:=X.w) (I.ok.hd hc) it lo 1 n
  refine W.item i s _ _ hg st fun v h' tk hv st' kk=>?_
  obtain ⟨t,rfl⟩:=hv
  have I1:Inv X pins σ H { s with heap:=h',toks:=tk }:=I.turned (fun b o hb e=>kk b o (by simpa using hb) e) f0 f1 f3 f4 f5
  refine ⟨_,rfl,go_of (s:={ s with heap:=h',toks:=tk }) (n := "range_iterator") st' rfl rfl (by decide) ⟨.int (lo+i),H,I1,⟨t,?_⟩,⟨rfl,rfl⟩,st',fun b hb=>(hf b hb).1⟩⟩
  rw [Int.mul_one]
 done:=by
  intro X hP hw hK hc i pins s σ H E I hf st hg
  subst hP hw hK
  obtain ⟨f0,f1,f2,f3,f4,f5⟩:=hf it (by simp)
  exact wpAny_pyNext_range_end (I.ok.hd hc) st (by have:n<=i:=hg;omega) fun h' eb=>⟨rfl,I.turned (t':=s.toks) (fun b o hb e=>eb b o hb e) f0 f1 f3 f4 f5⟩
 self:=fun _ _ _ _ _ st h=>wpAny_pyIter_rangeiter st h
end L2
namespace L2
open PySem PySem.Spec PyProof.Rows
section
variable {X:Cx}{tg:Expr}
def iList (K:PySem.W.Frag)(tl:TE):TI:=fun σ H R=>tl σ H fun x H1=>∃ a,x = .ref a∧(∃ xs,SqL K H1 a xs)∧R (Itl K a) H1
theorem pi_list {l:Expr}{tl:TE}(hl:PE X l tl):PI X tg l (iList X.K tl):=by
 intro pins s σ H R I h
 refine thn (hl pins s σ H _ I h) fun v s1 ⟨x,H1,I1,r1,q1⟩=>?_
 obtain ⟨a,e,⟨xs,hq⟩,q⟩:=q1
 subst e
 cases r1
 obtain ⟨its,rv,p,hz⟩:=I1.list hq
 refine wpAny_pyIter_list p.isList ?_
 refine ⟨s1.heap.objs.size,[s1.heap.objs.size],_,_,H1,rfl,I1.kept (t':=s1.toks) fun b o e=>Heap.get?_push_of_some _ e,turn_list a _,⟨_,Heap.get?_push_size _ rfl,rfl,rfl⟩,fun b hb=>?_,q⟩
 have e:b=s1.heap.objs.size:=by simpa using hb
 subst e
 exact I1.fpOk (Nat.le_refl _) (I1.hok.fresh (Nat.le_refl _))
theorem range_it {pins:List (Addr×Obj)}{σ:St}{H:Hp}{s:Shared}{R:It->Hp->Prop}{E:Value->Shared->Prop}{lo hi:Int}{t u v:Tok}{tk:Nat}(I:Inv X pins σ H s)(h1 : -(2 ^ 62)<=lo)(h2:lo<2 ^ 62)(h3 : -(2 ^ 62)<=hi)(h4:hi<2 ^ 62)
  (q:R (Itr lo (hi-lo).toNat) H):wpAny (model X.prog X.w) X.A (pyIter (.ref s.heap.objs.size)) (PIE X pins σ tg R) E { s with heap:=s.heap.push { cls:=.type "range",data:=.fields #[.int lo t,.int hi u,.int 1 v] },toks:=tk }:=by
 refine wpAny_pyIter_range (IsRange.new ..) (small_one h1 h2 h3 h4) ?_
 have I1:Inv X pins σ H { s with heap:=s.heap.push { cls:=.type "range",data:=.fields #[.int lo t,.int hi u,.int 1 v] },toks:=tk }:=I.kept fun b o e=>Heap.get?_push_of_some _ e
 refine ⟨(s.heap.push { cls:=.type "range",data:=.fields #[.int lo t,.int hi u,.int 1 v] }).objs.size,[(s.heap.push { cls:=.type "range",data:=.fields #[.int lo t,.int hi u,.int 1 v] }).objs.size],_,_,H,rfl,
  I1.kept (t':=tk) fun b o e=>Heap.get?_push_of_some _ e,turn_range _ lo (hi-lo).toNat,?_,fun b hb=>?_,q⟩
 ·have e1:lo+((0:Nat):Int)*1=lo:=by simp
  have e2:(((hi-lo).toNat:Nat):Int)-((0:Nat):Int)=Builtin.Range.rangeSize lo hi 1:=by rw [rangeSize_one];split <;> omega
  show IsRangeIter _ _ (lo+((0:Nat):Int)*1) ((((hi-lo).toNat:Nat):Int)-((0:Nat):Int)) 1
  rw [e1,e2]
  exact Heap.get?_push_size _ rfl
 ·have e:b=(s.heap.push { cls:=.type "range",data:=.fields #[.int lo t,.int hi u,.int 1 v] }).objs.size:=by simpa using hb
  subst e
  exact I1.fpOk (Nat.le_refl _) (I1.hok.fresh (Nat.le_refl _))
def iRng1 (ta:TA):TI:=fun σ H R=>ta σ H fun vs H1=>∃ j:Int,vs=[.int j]∧-(2 ^ 62)<=j∧j<2 ^ 62∧R (Itr 0 j.toNat) H1
def iRng2 (ta:TA):TI:=fun σ H R=>ta σ H fun vs H1=>∃ i j:Int,vs=[.int i,.int j]∧(-(2 ^ 62)<=i∧i<2 ^ 62∧-(2 ^ 62)<=j∧j<2 ^ 62)∧R (Itr i (j-i).toNat) H1
theorem pi_range1 {a:Expr}{ta:TA}{p pos:Pos}(hg:Gl X "range")(hm:X.mg "range" = none)(ha:PA X [a] ta)(hs:starEach [a] X.env=[(false,eval a X.env)]:=by rfl):PI X tg (.Call (.Name "range" p) [a] [] pos) (iRng1 ta):=by
 intro pins s σ H R I h
 refine Call_ (ld_blt I hg hm boot_range (PyProof.Rows.callWith_type1 (thn (ha pos pins s σ H _ I h) fun us s1 ⟨vs,H1,I1,r1,q1⟩=>?_) hs rfl))
 obtain ⟨j,e,q1,q2,q⟩:=q1
 subst e
 cases r1 with
 | cons r rr =>
  cases rr
  obtain ⟨t,rfl⟩:=r
  exact call_range_1 (range_it I1 (by omega) (by omega) q1 q2 (by simpa using q))
theorem pi_range2 {a b:Expr}{ta:TA}{p pos:Pos}(hg:Gl X "range")(hm:X.mg "range" = none)(ha:PA X [a,b] ta)(hs:starEach [a,b] X.env=[(false,eval a X.env),(false,eval b X.env)]:=by rfl)(hs2:starEach [b] X.env=[(false,eval b X.env)]:=by rfl) :
  PI X tg (.Call (.Name "range" p) [a,b] [] pos) (iRng2 ta):=by
 intro pins s σ H R I h
 refine Call_ (ld_blt I hg hm boot_range (PyProof.Rows.callWith_type1 (thn (ha pos pins s σ H _ I h) fun us s1 ⟨vs,H1,I1,r1,q1⟩=>?_) (by rw [hs,hs2]) (by rw [hs2];rfl)))
 obtain ⟨i,j,e,⟨q1,q2,q3,q4⟩,q⟩:=q1
 subst e
 cases r1 with
 | cons r rr =>
  cases rr with
  | cons r' rr =>
   cases rr
   obtain ⟨t,rfl⟩:=r
   obtain ⟨t',rfl⟩:=r'
   exact call_range_2 (range_it I1 q1 q2 q3 q4 q)
def tFor (wi:TI)(g:TG)(tb:TS):TS:=fun D σ H=>wi σ H fun J H1=>∃ W:Nat->Nat->St->Hp->Prop,(∃ m,W 0 m σ H1)∧∀ i m σ H,W i m σ H ->
 (J.stop i H∧D.nx σ H)∨(J.go i H∧∃ N:St->Hp->Prop,(∀ σ' H',N σ' H'->∃ m',m'<m∧W (i+1) m' σ' H')∧∀ x H',J.yld i H x H'->g x σ H' fun σ2 H2=>tb { D with nx:=N,ct:=N,bk:=D.nx } σ2 H2)
def pinsAt (fp:List Addr)(h:Heap):List (Addr×Obj):=fp.filterMap fun b=>(h.get? b).map fun o=>(b,o)
theorem mem_pinsAt {fp:List Addr}{h:Heap}{b:Addr}{o:Obj}(hb:b∈fp)(e:h.get? b=some o):(b,o)∈pinsAt fp h:=List.mem_filterMap.mpr ⟨b,hb,by rw [e];rfl⟩
theorem of_pinsAt {fp:List Addr}{h:Heap}{p:Addr×Obj}(hp:p∈pinsAt fp h):p.1∈fp∧h.get? p.1=some p.2:=by
 obtain ⟨b,hb,e⟩:=List.mem_filterMap.mp hp
 cases q:h.get? b with
 | none=>rw [q] at e;cases e
 | some o =>
  rw [q] at e
  have e':(b,o)=p:=Option.some.inj e
  subst e'
  exact ⟨hb,q⟩
theorem Inv.pinned {pins:List (Addr×Obj)}{σ:St}{H:Hp}{s:Shared}{fp:List Addr}(I:Inv X pins σ H s)(hf:∀ b∈fp,FpOk X pins H b)(ho:∀ b∈fp,∃ o,s.heap.get? b=some o∧∀ v,o.data≠.cell v):Inv X (pins++pinsAt fp s.heap) σ H s :=
 I.pins_of fun p hp=>(List.mem_append.mp hp).elim (fun z=>I.pin p (List.mem_append_right _ z)) fun z=>by
  obtain ⟨hb,e⟩:=of_pinsAt z
  obtain ⟨f0,f1,f2,_⟩:=hf p.1 hb
  obtain ⟨o,e',d⟩:=ho p.1 hb
  rw [e] at e';cases e'
  exact ⟨e,f0,f1,f2,d⟩
theorem Inv.unpinned {pins pl:List (Addr×Obj)}{σ:St}{H:Hp}{s:Shared}(I:Inv X (pins++pl) σ H s):Inv X pins σ H s:=I.pins_of fun p hp=>I.pin p (List.mem_append_right _ (List.mem_append_left _ hp))
theorem ps_for {iter:Expr}{body:List Stmt}{wi:TI}{g:TG}{tb:TS}{pos:Pos}(hp:PassesOwn (model X.prog X.w) X.A X.env X.xe)(hc:X.calm=true)(hi:PI X tg iter wi)(hg:PG X tg g)(hb:PSs X body tb)
  (hs:∀ x,foldedSetIterable iter X.env x=pure x:=by intro _;rfl):PS X (.For tg iter body [] pos) (tFor wi g tb):=by
 intro pins s σ H D I h
 refine wpAny_For (thn (hi pins s σ H _ I h) fun v s1 h1=>thn h1 fun itv s2 h2=>?_) hs
 obtain ⟨it,fp,tn,J,H2,e,I2,T,st2,f2,W,⟨m0,w0⟩,turn⟩:=h2
 subst e
 have stat:∀ {H':Hp},(∀ b∈fp,H' b=none)->∀ b∈fp,FpOk X pins H' b:=fun hn b hb=>⟨hn b hb,(f2 b hb).2⟩
 refine codeAny_forLoop_any (fun n s'=>∃ i σ' H',Inv X pins σ' H' s'∧tn i s'.heap∧(∀ b∈fp,H' b=none)∧W i n σ' H') ?_ m0 ⟨0,σ,H2,I2,st2,fun b hb=>(f2 b hb).1,w0⟩
 rintro n s3 ⟨i,σ3,H3,I3,st3,fr3,w3⟩
 rcases turn i n σ3 H3 w3 with ⟨stop,qn⟩ | ⟨go,N,hN,step⟩
 ·refine wpAny_passesOwn hp (thn (T.done X rfl rfl rfl hc i pins s3 σ3 H3 X.xe I3 (stat fr3) st3 stop) fun r s4 ⟨hr,I4⟩=>?_)
  subst hr
  exact wpAny_execs_nil ⟨σ3,H3,I4,qn⟩
 ·refine wpAny_passesOwn hp (thn (T.item X rfl rfl rfl hc i pins s3 σ3 H3 X.xe I3 (stat fr3) st3 go) fun r s4 ⟨u,hr,h4⟩=>?_)
  subst hr
  refine wpAny_passesOwn hp (thn h4 fun _ s5 ⟨x,H5,I5,r5,y5,st5,fr5⟩=>?_)
  have I5':=I5.pinned (stat fr5) (T.obj _ _ st5)
  refine wpAny_passesOwn hp (thn (hg _ s5 σ3 H5 x u _ I5' r5 (step x H5 y5)) fun _ s6 ⟨σ6,H6,I6,q6⟩=>?_)
  refine wpAny_passesOwn hp (thn (hb _ s6 σ6 H6 _ I6 q6) fun f s7 q7=>?_)
  have again:∀ {σ7:St} {H7:Hp},Inv X (pins++pinsAt fp s5.heap) σ7 H7 s7->N σ7 H7->∃ m,m<n∧∃ i σ' H',Inv X pins σ' H' s7∧tn i s7.heap∧(∀ b∈fp,H' b=none)∧W i m σ' H':=fun {σ7 H7} I7 n7=>by
   obtain ⟨m',hm,w7⟩:=hN σ7 H7 n7
   refine ⟨m',hm,i+1,σ7,H7,I7.unpinned,T.keep _ _ _ st5 fun b hb o e=>(I7.pin (b,o) (List.mem_append_right _ (List.mem_append_right _ (mem_pinsAt hb e)))).1,fun b hb=>?_,w7⟩
   obtain ⟨o,e,d⟩:=T.obj _ _ st5 b hb
   exact (I7.pin (b,o) (List.mem_append_right _ (List.mem_append_right _ (mem_pinsAt hb e)))).2.1
  cases f with
  | next=>obtain ⟨σ7,H7,I7,n7⟩:=q7;exact again I7 n7
  | cont=>obtain ⟨σ7,H7,I7,n7⟩:=q7;exact again I7 n7
  | brk=>obtain ⟨σ7,H7,I7,q7⟩:=q7;exact ⟨σ7,H7,I7.unpinned,q7⟩
  | ret v=>obtain ⟨x7,σ7,H7,I7,r7,q7⟩:=q7;exact ⟨x7,σ7,H7,I7.unpinned,r7,q7⟩
end
theorem for_list {K:PySem.W.Frag}{a:Addr}{xs:List V}{g:TG}{tb:TS}{D:Ends}{σ:St}{H:Hp}(Pv:Nat->St->Hp->Prop)(h0:Pv 0 σ H)(hl:∀ i σ H,i<=xs.length->Pv i σ H->SqL K H a xs)
  (hs:∀ i x σ H,xs[i]?=some x->Pv i σ H->g x σ H fun σ2 H2=>tb { D with nx:=Pv (i+1),ct:=Pv (i+1),bk:=D.nx } σ2 H2) (hd:∀ σ H,Pv xs.length σ H->D.nx σ H) :
  ∃ W:Nat->Nat->St->Hp->Prop,(∃ m,W 0 m σ H)∧∀ i m σ H,W i m σ H ->
   ((Itl K a).stop i H∧D.nx σ H)∨((Itl K a).go i H∧∃ N:St->Hp->Prop,(∀ σ' H',N σ' H'->∃ m',m'<m∧W (i+1) m' σ' H')∧∀ x H',(Itl K a).yld i H x H'->g x σ H' fun σ2 H2=>tb { D with nx:=N,ct:=N,bk:=D.nx } σ2 H2):=by
 refine ⟨fun i m σ H=>m=xs.length-i∧i<=xs.length∧Pv i σ H,⟨xs.length,by simp,Nat.zero_le _,h0⟩,?_⟩
 rintro i m σ H ⟨rfl,hi,p⟩
 have q:=hl i σ H hi p
 by_cases hlt:i<xs.length
 ·refine .inr ⟨⟨xs,xs[i],q,by simp [hlt]⟩,Pv (i+1),fun σ' H' p'=>⟨xs.length-(i+1),by omega,rfl,hlt,p'⟩,fun x H' y=>?_⟩
  obtain ⟨e,y⟩:=y
  subst e
  exact hs i x σ _ (y xs q) p
 ·have e:i=xs.length:=by omega
  subst e
  exact .inl ⟨⟨xs,q,Nat.le_refl _⟩,hd σ H p⟩
theorem for_range {lo:Int}{n:Nat}{g:TG}{tb:TS}{D:Ends}{σ:St}{H:Hp}(Pv:Nat->St->Hp->Prop)(h0:Pv 0 σ H)
  (hs:∀ i σ H,i<n->Pv i σ H->g (.int (lo+i)) σ H fun σ2 H2=>tb { D with nx:=Pv (i+1),ct:=Pv (i+1),bk:=D.nx } σ2 H2) (hd:∀ σ H,Pv n σ H->D.nx σ H) :
  ∃ W:Nat->Nat->St->Hp->Prop,(∃ m,W 0 m σ H)∧∀ i m σ H,W i m σ H ->
   ((Itr lo n).stop i H∧D.nx σ H)∨((Itr lo n).go i H∧∃ N:St->Hp->Prop,(∀ σ' H',N σ' H'->∃ m',m'<m∧W (i+1) m' σ' H')∧∀ x H',(Itr lo n).yld i H x H'->g x σ H' fun σ2 H2=>tb { D with nx:=N,ct:=N,bk:=D.nx } σ2 H2):=by
 refine ⟨fun i m σ H=>m=n-i∧i<=n∧Pv i σ H,⟨n,by simp,Nat.zero_le _,h0⟩,?_⟩
 rintro i m σ H ⟨rfl,hi,p⟩
 by_cases hlt:i<n
 ·refine .inr ⟨hlt,Pv (i+1),fun σ' H' p'=>⟨n-(i+1),by omega,rfl,hlt,p'⟩,fun x H' y=>?_⟩
  obtain ⟨e,y⟩:=y
  subst e y
  exact hs i σ _ hlt p
 ·have e:i=n:=by omega
  subst e
  exact .inl ⟨Nat.le_refl _,hd σ H p⟩
end L2
namespace L2
open PySem PySem.Spec PyProof.Rows
abbrev R2:=V->V->Hp->VK->Prop
def OpR (X:Cx)(f:Value->Value->Sem Value)(r:R2):Prop :=
 ∀ (pins:List (Addr×Obj)) (s:Shared) (σ:St) (H:Hp) (x y:V) (v u:Value) (Q:VK),Inv X pins σ H s->RelV x v->RelV y u->r x y H Q ->
  wpAny (model X.prog X.w) X.A (f v u) (EP X pins σ Q) X.xe s
def UnR (X:Cx)(f:Value->Sem Value)(r:V->Hp->VK->Prop):Prop :=
 ∀ (pins:List (Addr×Obj)) (s:Shared) (σ:St) (H:Hp) (x:V) (v:Value) (Q:VK),Inv X pins σ H s->RelV x v->r x H Q ->
  wpAny (model X.prog X.w) X.A (f v) (EP X pins σ Q) X.xe s
def CallR (X:Cx)(f:Value)(r:List V->Hp->VK->Prop):Prop :=
 ∀ (pins:List (Addr×Obj)) (s:Shared) (σ:St) (H:Hp) (xs:List V) (us:List Value) (Q:VK),Inv X pins σ H s->Vals xs us->r xs H Q ->
  wpAny (model X.prog X.w) X.A (call f us) (EP X pins σ Q) X.xe s
def tOp (r:R2)(ta tb:TE):TE:=fun σ H Q=>ta σ H fun x H1=>tb σ H1 fun y H2=>r x y H2 Q
def tUn (r:V->Hp->VK->Prop)(ta:TE):TE:=fun σ H Q=>ta σ H fun x H1=>r x H1 Q
def rI (C:Int->Int->Prop)(g:Int->Int->V):R2:=fun x y H Q=>∃ i j,x = .int i∧y = .int j∧C i j∧Q (g i j) H
def rI0 (g:Int->Int->V):R2:=fun x y H Q=>∃ i j,x = .int i∧y = .int j∧Q (g i j) H
def rU (g:Int->V):V->Hp->VK->Prop:=fun x H Q=>∃ i,x = .int i∧Q (g i) H
section
variable {X:Cx}{a b c:Expr}{ta tb tc:TE}{pos:Pos}
theorem binT (ha:PE X a ta)(hb:PE X b tb){pins:List (Addr×Obj)}{s:Shared}{σ:St}{H:Hp}{R:V->V->Hp->Prop}(I:Inv X pins σ H s)
  (h:ta σ H fun x H1=>tb σ H1 fun y H2=>R x y H2) {Q:Value->Shared->Prop} {f:Value->Value->Sem Value}
  (hf:∀ v u s2 x y H2,Inv X pins σ H2 s2->RelV x v->RelV y u->R x y H2->wpAny (model X.prog X.w) X.A (f v u) Q X.xe s2) :
  wpAny (model X.prog X.w) X.A (eval a X.env) (fun v s₁=>wpAny (model X.prog X.w) X.A (eval b X.env) (fun u s₂=>wpAny (model X.prog X.w) X.A (f v u) Q X.xe s₂) X.xe s₁) X.xe s:=by
 refine thn (ha pins s σ H _ I h) fun v s1 ⟨x,H1,I1,r1,q1⟩=>?_
 refine thn (hb pins s1 σ H1 _ I1 q1) fun u s2 ⟨y,H2,I2,r2,q2⟩=>?_
 exact hf v u s2 x y H2 I2 r1 r2 q2
theorem pe_op {op:Operator}{r:R2}(ho:OpR X (binaryOp op) r)(ha:PE X a ta)(hb:PE X b tb):PE X (.BinOp a op b pos) (tOp r ta tb):=by
 intro pins s σ H Q I h
 exact wpAny_BinOp (binT ha hb I h fun v u s2 x y H2 I2 rx ry q=>ho pins s2 σ H2 x y v u Q I2 rx ry q)
theorem pe_un {op:UnaryOp}{r:V->Hp->VK->Prop}(ho:UnR X (unaryOp op) r)(ha:PE X a ta):PE X (.UnaryOp op a pos) (tUn r ta):=by
 intro pins s σ H Q I h
 exact UnaryOp_ (thn (ha pins s σ H _ I h) fun v s1 ⟨x,H1,I1,r1,q1⟩=>ho pins s1 σ H1 x v Q I1 r1 q1)
theorem opI {f:Value->Value->Sem Value}{C:Int->Int->Prop}{g:Int->Int->Int}
  (rule:∀ (i j:Int) (t u:Tok) (s:Shared) (Q:Value->Shared->Prop) (E:Value->Shared->Prop),C i j->Q (.int (g i j) s.toks) { s with toks:=s.toks+1 }->wpAny (model X.prog X.w) X.A (f (.int i t) (.int j u)) Q E s) :
  OpR X f (rI C fun i j=>.int (g i j)):=by
 intro pins s σ H x y v u Q I rx ry h
 obtain ⟨i,j,rfl,rfl,hc,q⟩:=h
 obtain ⟨t,rfl⟩:=rx
 obtain ⟨t',rfl⟩:=ry
 exact rule i j t t' s _ _ hc ⟨.int (g i j),H,I.tok _,⟨_,rfl⟩,q⟩
theorem opI0 {f:Value->Value->Sem Value}{g:Int->Int->Int}
  (rule:∀ (i j:Int) (t u:Tok) (s:Shared) (Q:Value->Shared->Prop) (E:Value->Shared->Prop),Q (.int (g i j) s.toks) { s with toks:=s.toks+1 }->wpAny (model X.prog X.w) X.A (f (.int i t) (.int j u)) Q E s) :
  OpR X f (rI0 fun i j=>.int (g i j)):=by
 intro pins s σ H x y v u Q I rx ry h
 obtain ⟨i,j,rfl,rfl,q⟩:=h
 obtain ⟨t,rfl⟩:=rx
 obtain ⟨t',rfl⟩:=ry
 exact rule i j t t' s _ _ ⟨.int (g i j),H,I.tok _,⟨_,rfl⟩,q⟩
theorem opB0 {f:Value->Value->Sem Value}{g:Int->Int->Bool}
  (rule:∀ (i j:Int) (t u:Tok) (s:Shared) (Q:Value->Shared->Prop) (E:Value->Shared->Prop),Q (.bool (g i j)) s->wpAny (model X.prog X.w) X.A (f (.int i t) (.int j u)) Q E s) :
  OpR X f (rI0 fun i j=>.bl (g i j)):=by
 intro pins s σ H x y v u Q I rx ry h
 obtain ⟨i,j,rfl,rfl,q⟩:=h
 obtain ⟨t,rfl⟩:=rx
 obtain ⟨t',rfl⟩:=ry
 exact rule i j t t' s _ _ ⟨.bl (g i j),H,I,rfl,q⟩
def CDiv (i j:Int):Prop:=0<j∧j<1073741824
def CPow (i j:Int):Prop:=0<=j∧j<=1000000∧i.natAbs<2 ^ 64
def CMul (i j:Int):Prop:=(-(2 ^ 64)<i∧i<2 ^ 64)∨(-(2 ^ 64)<j∧j<2 ^ 64)
theorem CMul.ok {i j:Int}(h:CMul i j):IntMulOk i j:=by
 rcases h with ⟨h1,h2⟩ | ⟨h1,h2⟩
 ·exact .of_left (intBits_le_64 h1 h2)
 ·exact .of_right (intBits_le_64 h1 h2)
theorem op_add:OpR X (binaryOp .Add) (rI0 fun i j=>.int (i+j)):=opI0 fun _ _ _ _ _ _ _ q=>add_int q
theorem op_sub:OpR X (binaryOp .Sub) (rI0 fun i j=>.int (i-j)):=opI0 fun _ _ _ _ _ _ _ q=>sub_int q
theorem op_mul:OpR X (binaryOp .Mult) (rI CMul fun i j=>.int (i*j)):=opI fun _ _ _ _ _ _ _ hc q=>mul_int q hc.ok
theorem op_fdiv:OpR X (binaryOp .FloorDiv) (rI CDiv fun i j=>.int (i/j)):=opI fun i j _ _ _ _ _ hc q=>by
 have h1:(0:Int)<j:=hc.1
 have h2:j<1073741824:=hc.2
 exact floordiv_int (by omega) (by rw [Int.fdiv_eq_ediv_of_nonneg i (by omega)];exact q) (.inl (PyProof.noPylong_small (by omega)))
theorem op_mod:OpR X (binaryOp .Mod) (rI (fun _ j=>0<j) fun i j=>.int (i % j)):=opI fun i j _ _ _ _ _ hc q=>by
 have h1:(0:Int)<j:=hc
 exact mod_int' (by omega) (by rw [Int.fmod_eq_emod_of_nonneg i (by omega)];exact q)
theorem op_pow:OpR X (binaryOp .Pow) (rI CPow fun i j=>.int (i ^ j.toNat)):=opI fun _ _ _ _ _ _ _ hc q=>pow_int_small hc.1 hc.2.1 hc.2.2 q
theorem unI {f:Value->Sem Value}{g:Int->Int}
  (rule:∀ (i:Int) (t:Tok) (s:Shared) (Q:Value->Shared->Prop) (E:Value->Shared->Prop),Q (.int (g i) s.toks) { s with toks:=s.toks+1 }->wpAny (model X.prog X.w) X.A (f (.int i t)) Q E s) :
  UnR X f (rU fun i=>.int (g i)):=by
 intro pins s σ H x v Q I rx h
 obtain ⟨i,rfl,q⟩:=h
 obtain ⟨t,rfl⟩:=rx
 exact rule i t s _ _ ⟨.int (g i),H,I.tok _,⟨_,rfl⟩,q⟩
theorem un_neg:UnR X (unaryOp .USub) (rU fun i=>.int (-i)):=unI fun _ _ _ _ _ q=>neg_int q
end
def scal:V->V->Bool
 | .non,.non=>true | .non,.int _=>true | .int _,.non=>true | .non,.bl _=>true | .bl _,.non=>true | .non,.str _=>true | .str _,.non=>true
 | .int _,.int _=>true | .bl _,.bl _=>true | .str _,.str _=>true | .byt _,.byt _=>true
 | .int _,.str _=>true | .str _,.int _=>true | .bl _,.str _=>true | .str _,.bl _=>true
 | _,_=>false
def rEq:R2:=fun x y H Q=>scal x y=true∧Q (.bl (decide (x=y))) H
def rNe:R2:=fun x y H Q=>scal x y=true∧Q (.bl (!decide (x=y))) H
theorem dec_int {i j:Int}:decide (V.int i=V.int j)=(i==j):=by
 rw [Bool.eq_iff_iff]
 simp
theorem dec_bl {i j:Bool}:decide (V.bl i=V.bl j)=(i==j):=by
 rw [Bool.eq_iff_iff]
 simp
theorem dec_str {i j:Str}:decide (V.str i=V.str j)=(i==j):=by
 rw [Bool.eq_iff_iff]
 simp
theorem dec_byt {i j:Array UInt8}:decide (V.byt i=V.byt j)=(i.toList==j.toList):=by
 rw [Bool.eq_iff_iff]
 cases i
 cases j
 simp
section
variable {X:Cx}{a b c:Expr}{ta tb tc:TE}{pos:Pos}
theorem fin_bl {pins:List (Addr×Obj)}{σ:St}{H:Hp}{s:Shared}{Q:VK}{k k':Bool}(I:Inv X pins σ H s)(q:Q (.bl k) H)(e:k=k'):EP X pins σ Q (.bool k') s:=by
 subst e
 exact ⟨.bl k,H,I,rfl,q⟩
theorem op_eq:OpR X (compareOp .Eq) rEq:=by
 intro pins s σ H x y v u Q I rx ry h
 obtain ⟨hs,q⟩:=h
 cases x with
 | non =>
  cases rx
  cases y with
  | non=>cases ry;exact PySem.EqNone.eq_none_none (fin_bl I q (by simp))
  | bl j=>cases ry;exact PySem.EqNone.eq_none_bool (fin_bl I q (by simp))
  | int j=>obtain ⟨t',rfl⟩:=ry;exact PySem.EqNone.eq_none_int (fin_bl I q (by simp))
  | str j=>obtain ⟨t',rfl⟩:=ry;exact PySem.EqNone.eq_none_str (fin_bl I q (by simp))
  | _=>exact absurd (show false=true from hs) Bool.false_ne_true
 | bl i =>
  cases rx
  cases y with
  | non=>cases ry;exact PySem.EqNone.eq_bool_none (fin_bl I q (by simp))
  | bl j=>cases ry;exact eq_bool (fin_bl I q dec_bl)
  | str j=>obtain ⟨t',rfl⟩:=ry;exact PySem.EqMixed.eq_bool_str (fin_bl I q (by simp))
  | _=>exact absurd (show false=true from hs) Bool.false_ne_true
 | int i =>
  obtain ⟨t,rfl⟩:=rx
  cases y with
  | non=>cases ry;exact PySem.EqNone.eq_int_none (fin_bl I q (by simp))
  | int j=>obtain ⟨t',rfl⟩:=ry;exact eq_int (fin_bl I q dec_int)
  | str j=>obtain ⟨t',rfl⟩:=ry;exact PySem.EqMixed.eq_int_str (fin_bl I q (by simp))
  | _=>exact absurd (show false=true from hs) Bool.false_ne_true
 | str i =>
  obtain ⟨t,rfl⟩:=rx
  cases y with
  | non=>cases ry;exact PySem.EqNone.eq_str_none (fin_bl I q (by simp))
  | bl j=>cases ry;exact PySem.EqMixed.eq_str_bool (fin_bl I q (by simp))
  | int j=>obtain ⟨t',rfl⟩:=ry;exact PySem.EqMixed.eq_str_int (fin_bl I q (by simp))
  | str j=>obtain ⟨t',rfl⟩:=ry;exact eq_str (fin_bl I q dec_str)
  | _=>exact absurd (show false=true from hs) Bool.false_ne_true
 | byt i =>
  obtain ⟨t,rfl⟩:=rx
  cases y with
  | byt j=>obtain ⟨t',rfl⟩:=ry;exact PySem.W.eq_bytes (fin_bl I q dec_byt)
  | _=>exact absurd (show false=true from hs) Bool.false_ne_true
 | _=>cases y <;> exact absurd (show false=true from hs) Bool.false_ne_true
theorem op_ne:OpR X (compareOp .NotEq) rNe:=by
 intro pins s σ H x y v u Q I rx ry h
 obtain ⟨hs,q⟩:=h
 cases x with
 | non =>
  cases rx
  cases y with
  | non=>cases ry;exact PySem.EqNone.ne_none_none (fin_bl I q (by simp))
  | bl j=>cases ry;exact PySem.EqNone.ne_none_bool (fin_bl I q (by simp))
  | int j=>obtain ⟨t',rfl⟩:=ry;exact PySem.EqNone.ne_none_int (fin_bl I q (by simp))
  | str j=>obtain ⟨t',rfl⟩:=ry;exact PySem.EqNone.ne_none_str (fin_bl I q (by simp))
  | _=>exact absurd (show false=true from hs) Bool.false_ne_true
 | bl i =>
  cases rx
  cases y with
  | non=>cases ry;exact PySem.EqNone.ne_bool_none (fin_bl I q (by simp))
  | bl j=>cases ry;exact ne_bool (fin_bl I q (congrArg not dec_bl))
  | str j=>obtain ⟨t',rfl⟩:=ry;exact PySem.EqMixed.ne_bool_str (fin_bl I q (by simp))
  | _=>exact absurd (show false=true from hs) Bool.false_ne_true
 | int i =>
  obtain ⟨t,rfl⟩:=rx
  cases y with
  | non=>cases ry;exact PySem.EqNone.ne_int_none (fin_bl I q (by simp))
  | int j=>obtain ⟨t',rfl⟩:=ry;exact ne_int (fin_bl I q (congrArg not dec_int))
  | str j=>obtain ⟨t',rfl⟩:=ry;exact PySem.EqMixed.ne_int_str (fin_bl I q (by simp))
  | _=>exact absurd (show false=true from hs) Bool.false_ne_true
 | str i =>
  obtain ⟨t,rfl⟩:=rx
  cases y with
  | non=>cases ry;exact PySem.EqNone.ne_str_none (fin_bl I q (by simp))
  | bl j=>cases ry;exact PySem.EqMixed.ne_str_bool (fin_bl I q (by simp))
  | int j=>obtain ⟨t',rfl⟩:=ry;exact PySem.EqMixed.ne_str_int (fin_bl I q (by simp))
  | str j=>obtain ⟨t',rfl⟩:=ry;exact ne_str (fin_bl I q (congrArg not dec_str))
  | _=>exact absurd (show false=true from hs) Bool.false_ne_true
 | byt i =>
  obtain ⟨t,rfl⟩:=rx
  cases y with
  | byt j=>obtain ⟨t',rfl⟩:=ry;exact PySem.W.ne_bytes (fin_bl I q (congrArg not dec_byt))
  | _=>exact absurd (show false=true from hs) Bool.false_ne_true
 | _=>cases y <;> exact absurd (show false=true from hs) Bool.false_ne_true
theorem op_lt:OpR X (compareOp .Lt) (rI0 fun i j=>.bl (decide (i<j))):=opB0 fun _ _ _ _ _ _ _ q=>lt_int q
theorem op_le:OpR X (compareOp .LtE) (rI0 fun i j=>.bl (decide (i<=j))):=opB0 fun _ _ _ _ _ _ _ q=>le_int q
theorem op_gt:OpR X (compareOp .Gt) (rI0 fun i j=>.bl (decide (j<i))):=opB0 fun _ _ _ _ _ _ _ q=>gt_int q
theorem op_ge:OpR X (compareOp .GtE) (rI0 fun i j=>.bl (decide (j<=i))):=opB0 fun _ _ _ _ _ _ _ q=>ge_int q
theorem op_lt_str:OpR X (compareOp .Lt) (fun x y H Q=>∃ i j,x = .str i∧y = .str j∧Q (.bl (decide (i.cps.toList<j.cps.toList))) H):=by
 intro pins s σ H x y v u Q I rx ry h
 obtain ⟨i,j,rfl,rfl,q⟩:=h
 obtain ⟨t,rfl⟩:=rx
 obtain ⟨t',rfl⟩:=ry
 exact lt_str (fin_bl I q rfl)
theorem op_in_str:OpR X (compareOp .In) (fun x y H Q=>∃ i j,x = .str i∧y = .str j∧Q (.bl (!(Builtin.Str.occurrences j i 0 j.length 1).isEmpty)) H):=by
 intro pins s σ H x y v u Q I rx ry h
 obtain ⟨i,j,rfl,rfl,q⟩:=h
 obtain ⟨t,rfl⟩:=rx
 obtain ⟨t',rfl⟩:=ry
 exact in_str (fin_bl I q rfl)
theorem op_notin_str:OpR X (compareOp .NotIn) (fun x y H Q=>∃ i j,x = .str i∧y = .str j∧Q (.bl (!(!(Builtin.Str.occurrences j i 0 j.length 1).isEmpty))) H):=by
 intro pins s σ H x y v u Q I rx ry h
 obtain ⟨i,j,rfl,rfl,q⟩:=h
 obtain ⟨t,rfl⟩:=rx
 obtain ⟨t',rfl⟩:=ry
 exact notIn_str (fin_bl I q rfl)
theorem nomark (b:Expr){op:CmpOp}(h:op≠.In:=by decide)(h2:op≠.NotIn:=by decide):behindInMarks op b=false:=by
 have e1:(op==CmpOp.In)=false:=by cases op <;> first | rfl | exact absurd rfl h
 have e2:(op==CmpOp.NotIn)=false:=by cases op <;> first | rfl | exact absurd rfl h2
 cases b <;> simp [behindInMarks,e1,e2]
theorem pe_cmpR {op:CmpOp}{r:R2}(ho:OpR X (compareOp op) r)(ha:PE X a ta)(hb:PE X b tb)(hm:behindInMarks op b=false):PE X (.Compare a [op] [b] pos) (tOp r ta tb):=by
 intro pins s σ H Q I h
 exact wpAny_Compare1 (binT ha hb I h fun v u s2 x y H2 I2 rx ry q=>ho pins s2 σ H2 x y v u Q I2 rx ry q) hm
def tTest (t:TE):TT:=fun σ H Q=>t σ H fun x H'=>∃ k,x = .bl k∧Q k H'
theorem pt_cmpR {op:CmpOp}{r:R2}(ho:OpR X (compareOp op) r)(ha:PE X a ta)(hb:PE X b tb)(hm:behindInMarks op b=false):PT X (.Compare a [op] [b] pos) (tTest (tOp r ta tb)):=by
 intro pins s σ H Q I h
 refine wpAny_isTrue_Compare1 (thn (ha pins s σ H _ I h) fun v s1 ⟨x,H1,I1,r1,q1⟩=>thn (hb pins s1 σ H1 _ I1 q1) fun u s2 ⟨y,H2,I2,r2,q2⟩ =>
  thn (ho pins s2 σ H2 x y v u _ I2 r1 r2 q2) fun c s3 ⟨z,H3,I3,r3,k,e,q3⟩=>?_) hm
 subst e
 cases r3
 exact wpAny_truthy_bool ⟨H3,I3,q3⟩
def tChain (r r':R2)(ta tb tc:TE):TE:=fun σ H Q=>ta σ H fun x H1=>tb σ H1 fun y H2=>r x y H2 fun z H3=>∃ k,z = .bl k ∧
 (if k=true then tc σ H3 fun w' H4=>r' y w' H4 Q else Q (.bl false) H3)
theorem pt_chain {op op':CmpOp}{r r':R2}(ho:OpR X (compareOp op) r)(ho':OpR X (compareOp op') r')(ha:PE X a ta)(hb:PE X b tb)(hc:PE X c tc)
  (hm:lastMarks [op,op'] [b,c]=false:=by with_unfolding_all rfl):PT X (.Compare a [op,op'] [b,c] pos) (tTest (tChain r r' ta tb tc)):=by
 intro pins s σ H Q I h
 refine isTrue_chain (thn (ha pins s σ H _ I h) fun v s1 ⟨x,H1,I1,r1,q1⟩=>test_link (thn (hb pins s1 σ H1 _ I1 q1) fun u s2 ⟨y,H2,I2,r2,q2⟩ =>
  thn (ho pins s2 σ H2 x y v u _ I2 r1 r2 q2) fun d s3 ⟨z,H3,I3,r3,k,e,q3⟩=>?_)) hm
 subst e
 cases r3
 refine wpAny_truthy_bool ?_
 cases k with
 | false =>
  obtain ⟨k',e',q'⟩:=q3
  cases e'
  exact ite_ff ⟨H3,I3,q'⟩
 | true =>
  refine ite_tt (test_last (thn (hc pins s3 σ H3 _ I3 q3) fun w' s4 ⟨z',H4,I4,r4,q4⟩=>thn (ho' pins s4 σ H4 y z' u w' _ I4 r2 r4 q4) fun d' s5 ⟨z2,H5,I5,r5,k2,e2,q5⟩=>?_))
  subst e2
  cases r5
  exact wpAny_truthy_bool ⟨H5,I5,q5⟩
theorem line63:(sizeLine:Nat)<2 ^ 63:=by rw [sizeLine_eq];decide
theorem op_add_str:OpR X (binaryOp .Add) (fun x y H Q=>∃ i j,x = .str i∧y = .str j∧i.length+j.length<=sizeLine∧Q (.str (i++j)) H):=by
 intro pins s σ H x y v u Q I rx ry h
 obtain ⟨i,j,rfl,rfl,hz,q⟩:=h
 obtain ⟨t,rfl⟩:=rx
 obtain ⟨t',rfl⟩:=ry
 exact add_str (fun t' tk=>⟨.str (i++j),H,I.tok _,⟨_,rfl⟩,q⟩) hz
theorem vals1 {x:V}{us:List Value}(r:Vals [x] us):∃ u,us=[u]∧RelV x u:=by
 cases r with
 | cons r1 r2=>cases r2;exact ⟨_,rfl,r1⟩
theorem vals2 {x y:V}{us:List Value}(r:Vals [x,y] us):∃ u w',us=[u,w']∧RelV x u∧RelV y w':=by
 cases r with
 | cons r1 r2 =>
  cases r2 with
  | cons r3 r4=>cases r4;exact ⟨_,_,rfl,r1,r3⟩
theorem call_max2 (hc:X.calm=true):CallR X (.builtin "max") (fun xs H Q=>∃ i j,xs=[.int i,.int j]∧Q (.int (if j>i then j else i)) H):=by
 intro pins s σ H xs us Q I r h
 obtain ⟨i,j,rfl,q⟩:=h
 obtain ⟨u,w',rfl,⟨t,rfl⟩,⟨t',rfl⟩⟩:=vals2 r
 refine max_two_ints (I.ok.hd hc) fun h' tk k=>⟨_,H,I.kept k,?_,q⟩
 by_cases hj:j>i
 ·rw [if_pos hj,if_pos hj];exact ⟨_,rfl⟩
 ·rw [if_neg hj,if_neg hj];exact ⟨_,rfl⟩
theorem call_min2 (hc:X.calm=true):CallR X (.builtin "min") (fun xs H Q=>∃ i j,xs=[.int i,.int j]∧Q (.int (if j<i then j else i)) H):=by
 intro pins s σ H xs us Q I r h
 obtain ⟨i,j,rfl,q⟩:=h
 obtain ⟨u,w',rfl,⟨t,rfl⟩,⟨t',rfl⟩⟩:=vals2 r
 refine min_two_ints (I.ok.hd hc) fun h' tk k=>⟨_,H,I.kept k,?_,q⟩
 by_cases hj:j<i
 ·rw [if_pos hj,if_pos hj];exact ⟨_,rfl⟩
 ·rw [if_neg hj,if_neg hj];exact ⟨_,rfl⟩
end
end L2
namespace L2
open PySem PySem.Spec PyProof.Rows
set_option genInjectivity false in
structure ObjM (h:Heap)(x dx C:Addr)(mA:Str->Option Value):Prop where
 obj:h.get? x=some (PySem.W.instObj C dx)
 ns:h.Ns1 dx mA
 ne:dx≠x
theorem lookIn_ns {h:Heap}{dx:Addr}{mA:Str->Option Value}(n:h.Ns1 dx mA):∃ od,h.get? dx=some od∧∀ name,PySem.W.lookIn name od=some (mA name):=by
 obtain ⟨o,es,ep,ho,hd,hk,_,hm⟩:=n
 refine ⟨o,ho,fun name=>?_⟩
 have e:=hm name
 unfold nsFind findBy at e
 rw [<- Array.find?_toList] at e
 unfold PySem.W.lookIn
 rw [hd]
 dsimp only
 split
 ·rename_i y q
  rw [q] at e
  exact congrArg some e
 ·rename_i q
  rw [q] at e
  have a:es.toList.any (·.refKey)=false:=by
   rw [List.any_eq_false]
   intro y hy
   obtain ⟨z,t,hkey⟩:=hk y (Array.mem_toList_iff.mp hy)
   simp [DictEntry.refKey,hkey]
  have a':¬ es.toList.any (·.refKey)=true:=by rw [a];exact Bool.false_ne_true
  rw [if_neg a']
  exact congrArg some e
theorem ObjM.look {h:Heap}{x dx C:Addr}{mA:Str->Option Value}(I:ObjM h x dx C mA):∃ od,PySem.W.InstAt h x (PySem.W.instObj C dx) C (some od)∧∀ name,PySem.W.lookIn name od=some (mA name) :=
 let ⟨od,ho,hl⟩:=lookIn_ns I.ns
 ⟨od,⟨I.obj,rfl,rfl,ho⟩,hl⟩
section
variable {prog:Program}{w:World}{A:Around}{E:Value->Shared->Prop}{s:Shared}{K:PySem.W.Frag}{x dx C f:Addr}{mA:Str->Option Value}{name:Str}{v:Value}
theorem set_map {ns:List Str}{Q:Unit->Shared->Prop}(X:K.In s.heap)(I:ObjM s.heap x dx C mA)
  (hs:PySem.W.findIn K (.ref C) "__setattr__" = some (some (.builtin "object.__setattr__"))) (hp:PySem.W.plainOver K C=true) (ht:PySem.W.takerIn K C name=some none) (hh:PySem.W.hasDictIn K C=true)
  (hw:PySem.Within mA ns) (hsz:ns.length<=sizeLine)
  (h:∀ h',ObjM h' x dx C (fun y=>if y=name then some v else mA y)->Heap.SameBut dx s.heap h'->Q () { s with heap:=h',toks:=s.toks+2 }) :
  wpAny (model prog w) A (setAttr (.ref x) name v) Q E s:=by
 obtain ⟨od,J,hl⟩:=I.look
 refine PySem.W.set_plain X J hs (PySem.W.osa_open (s:={ s with toks:=s.toks+1 }) (r:=none) X J hp ht fun b=>?_)
 obtain ⟨cd,hc,hd'⟩:=PySem.W.any_some hh
 have hx:s.heap.get? x=some ⟨.ref C,some dx,.plain,#[]⟩:=I.obj
 refine wpAny_bind (wpAny_pure (wpAny_bind (wpAny_bind (wpAny_loadPart hx (wpAny_bind (PySem.W.Looks.here (s:={ s with toks:=s.toks+1 }) (PySem.W.looks_clsIn X hc) ?_))))))
 rw [hd']
 refine wpAny_pure (a:=some dx) (wpAny_bind (wpAny_pure (wpAny_bind ?_)))
 refine wpAny_nsSet1 (s:={ s with toks:=s.toks+1 }) I.ns fun h' hn2 hs2=>?_
 obtain ⟨oD,esD,epD,hoD,hdD,hcD⟩:=hn2.count (PySem.Within.cons name v hw)
 refine wpAny_bind (wpAny_lookBehind hoD (by rw [hdD];exact pastItsLine_dict (Nat.le_trans hcD (by rw [List.length_cons];omega))) ?_)
 exact wpAny_pure (h _ ⟨(hs2.2 _ (Ne.symm I.ne)).trans I.obj,hn2,I.ne⟩ hs2)
theorem make_map {R:Result->Shared->Prop}{vs:List Value}{kw:List (Str×Value)}(X:K.In s.heap)(hm:PySem.W.makesIn K C=true)
  (hi:PySem.W.findIn K (.ref C) "__init__" = some (some (.ref f))) (hf:PySem.W.typeIn K (.ref f)=some (.type "function"))
  (h:codeAny (model prog w) (A.under (.builtin "type.__call__" ⟨.ref C::vs,kw⟩)) (.call (.ref f) ⟨.ref (s.heap.objs.size+1)::vs,kw⟩) (PySem.W.InitBack (s.heap.objs.size+1) R)
   { s with heap:=(s.heap.push PySem.W.emptyDict).push (PySem.W.instObj C s.heap.objs.size) }) :
  codeAny (model prog w) A (.call (.ref C) ⟨vs,kw⟩) R s:=by
 obtain ⟨hh,g,d,t,os⟩:=s
 exact PySem.W.make_core (PySem.W.makes_of X hm) (PySem.W.looks_findIn X hi) (fun self=>PySem.W.bind_fn X self hf) (.inl rfl) h
end
def putF (f:Str)(v:V):List (Str×V)->List (Str×V)
 | []=>[(f,v)]
 | (g,x)::r=>if g=f then (g,v)::r else (g,x)::putF f v r
theorem lookup_putF (f g:Str)(v:V):∀ fs:List (Str×V),(putF f v fs).lookup g=if g=f then some v else fs.lookup g
 | []=>by
  show List.lookup g [(f,v)]=_
  by_cases h:g=f
  ·have hb:(g==f)=true:=beq_iff_eq.mpr h
   simp only [List.lookup,hb,if_pos h]
  ·have hb:(g==f)=false:=beq_eq_false_iff_ne.mpr h
   simp only [List.lookup,hb,if_neg h]
 | (k,x)::r=>by
  have ih:=lookup_putF f g v r
  rw [show putF f v ((k,x)::r)=(if k=f then (k,v)::r else (k,x)::putF f v r) from rfl]
  by_cases hk:k=f
  ·rw [if_pos hk]
   by_cases h:g=k
   ·have hb:(g==k)=true:=beq_iff_eq.mpr h
    simp only [List.lookup,hb,if_pos (h.trans hk)]
   ·have hb:(g==k)=false:=beq_eq_false_iff_ne.mpr h
    simp only [List.lookup,hb,if_neg (fun e:g=f=>h (e.trans hk.symm))]
  ·rw [if_neg hk]
   by_cases h:g=k
   ·have hb:(g==k)=true:=beq_iff_eq.mpr h
    simp only [List.lookup,hb,if_neg (fun e:g=f=>hk (h.symm.trans e))]
   ·have hb:(g==k)=false:=beq_eq_false_iff_ne.mpr h
    simp only [List.lookup,hb]
    exact ih
theorem keys_putF (f:Str)(v:V):∀ fs:List (Str×V),f∈(putF f v fs).map (·.1)∧∀ g,g∈fs.map (·.1)->g∈(putF f v fs).map (·.1)
 | []=>⟨by simp [putF],fun g h=>by simp at h⟩
 | (k,x)::r=>by
  obtain ⟨i1,i2⟩:=keys_putF f v r
  rw [show putF f v ((k,x)::r)=(if k=f then (k,v)::r else (k,x)::putF f v r) from rfl]
  by_cases hk:k=f
  ·rw [if_pos hk]
   subst hk
   exact ⟨by simp,fun g h=>by simpa using h⟩
  ·rw [if_neg hk]
   refine ⟨?_,fun g h=>?_⟩
   ·rw [List.map_cons]
    exact List.mem_cons_of_mem _ i1
   ·rw [List.map_cons] at h ⊢
    rcases List.mem_cons.mp h with e | e
    ·exact List.mem_cons.mpr (.inl e)
    ·exact List.mem_cons_of_mem _ (i2 g e)
theorem length_putF (f:Str)(v:V):∀ fs:List (Str×V),(putF f v fs).length<=fs.length+1
 | []=>by simp [putF]
 | (k,x)::r=>by
  have ih:=length_putF f v r
  rw [show putF f v ((k,x)::r)=(if k=f then (k,v)::r else (k,x)::putF f v r) from rfl]
  by_cases hk:k=f
  ·rw [if_pos hk,List.length_cons,List.length_cons];omega
  ·rw [if_neg hk,List.length_cons,List.length_cons];omega
section
variable {P:Program}{w:World}{H H':Hp}{h h':Heap}{a C dx:Addr}{fs fs':List (Str×V)}
theorem ins_get (hok:HOk P w H h)(e:H a=some (.ins C dx fs)):∃ mA,ObjM h a dx C mA∧(∀ f,RelO (fs.lookup f) (mA f))∧PySem.Within mA (fs.map (·.1))∧fs.length<=1000∧H dx=some (.own a):=by
 obtain ⟨d,z,ne,ob,mA,n,r,q⟩:=(show ObjOk P w H h a (.ins C dx fs) from hok a _ e)
 exact ⟨mA,⟨ob,n,ne⟩,r,q,z,d⟩
end
set_option genInjectivity false in
structure Cls (K:PySem.W.Frag)(C:Addr):Prop where
 pg:PySem.W.plainGet K C Str.empty=true
 hd:PySem.W.hasDictIn K C=true
 po:PySem.W.plainOver K C=true
 sa:PySem.W.findIn K (.ref C) "__setattr__" = some (some (.builtin "object.__setattr__"))
theorem Cls.get {K:PySem.W.Frag}{C:Addr}(c:Cls K C)(f:Str):PySem.W.plainGet K C f=true:=c.pg
def NoAttr (K:PySem.W.Frag)(C:Addr)(f:Str):Prop:=PySem.W.findIn K (.ref C) f=some none
theorem NoAttr.taker {K:PySem.W.Frag}{C:Addr}{f:Str}(n:NoAttr K C f):PySem.W.takerIn K C f=some none:=by
 unfold PySem.W.takerIn
 rw [show PySem.W.findIn K (.ref C) f=some none from n]
 rfl
set_option genInjectivity false in
structure Meth (K:PySem.W.Frag)(C:Addr)(m:Str)(f:Addr):Prop where
 at_:PySem.W.findIn K (.ref C) m=some (some (.ref f))
 fn:PySem.W.isFn K (.ref f)=true
 kp:PySem.W.keepIn K (.ref f)=true
section
variable {X:Cx}{pins:List (Addr×Obj)}{σ:St}{H:Hp}{s:Shared}{a C dx:Addr}{fs:List (Str×V)}{f:Str}{v:V}{A:Around}{E:Value->Shared->Prop}
theorem setattr_ok {y:V}{u:Value}{Q:Unit->Shared->Prop}(I:Inv X pins σ H s)(e:H a=some (.ins C dx fs))(c:Cls X.K C)(n:NoAttr X.K C f)(hl:fs.length<1000)(ry:RelV y u)
  (h:∀ s',Inv X pins σ (upd H a (.ins C dx (putF f y fs))) s'->Q () s'):wpAny (model X.prog X.w) A (setAttr (.ref a) f u) Q E s:=by
 obtain ⟨mA,O,r,wi,_,ho⟩:=ins_get I.hok e
 have hz:(fs.map (·.1)).length<=sizeLine:=by rw [List.length_map,sizeLine_eq];omega
 refine set_map I.kIn O c.sa c.po n.taker c.hd wi hz fun h' O' sb=>h _ ?_
 have hd:∃ o,h'.get? dx=some o:=let ⟨o,_,_,e',_⟩:=O'.ns;⟨o,e'⟩
 refine I.write (x:=a) (e:=dx) (by rw [e];exact True.intro) (.inr ho) (fun b q hb z=>(sb.2 b hb).trans z) hd ?_
 refine ⟨by rw [upd_ne O.ne];exact ho,?_,O.ne,O'.obj,_,O'.ns,fun g=>?_,fun g hg=>?_⟩
 ·have:=length_putF f y fs;omega
 ·show RelO ((putF f y fs).lookup g) (if g=f then some u else mA g)
  rw [lookup_putF]
  by_cases q:g=f
  ·rw [if_pos q,if_pos q];exact ry
  ·rw [if_neg q,if_neg q];exact r g
 ·by_cases q:g=f
  ·rw [q];exact (keys_putF f y fs).1
  ·refine (keys_putF f y fs).2 g (wi g fun z=>hg ?_)
   show (if g=f then some u else mA g)=none
   rw [if_neg q];exact z
theorem Inv.made (I:Inv X pins σ H s):Inv X pins σ (upd (upd H s.heap.objs.size (.own (s.heap.objs.size+1))) (s.heap.objs.size+1) (.ins C s.heap.objs.size []))
  { s with heap:=(s.heap.push PySem.W.emptyDict).push (PySem.W.instObj C s.heap.objs.size) }:=by
 have e1:(s.heap.push PySem.W.emptyDict).get? s.heap.objs.size=some PySem.W.emptyDict:=Heap.get?_push_size s.heap rfl
 have e2:((s.heap.push PySem.W.emptyDict).push (PySem.W.instObj C s.heap.objs.size)).get? (s.heap.objs.size+1)=some (PySem.W.instObj C s.heap.objs.size):=by
  have:=Heap.get?_push_size (s.heap.push PySem.W.emptyDict) (o:=PySem.W.instObj C s.heap.objs.size) rfl
  rwa [Heap.size_push] at this
 have e3:(s.heap.push PySem.W.emptyDict).Ns s.heap.objs.size (fun _=>none):=⟨PySem.W.emptyDict,#[],_,e1,rfl,(fun e he=>absurd he (by simp)),fun _=>rfl⟩
 have I1:=I.laid (a:=s.heap.objs.size) (o:=.own (s.heap.objs.size+1)) (h':=s.heap.push PySem.W.emptyDict) (t':=s.toks) (fun b u q=>Heap.get?_push_of_some _ q) (Nat.le_refl _) ⟨_,e1⟩
 refine I1.laid (a:=s.heap.objs.size+1) (o:=.ins C s.heap.objs.size []) (t':=s.toks) (fun b u q=>Heap.get?_push_of_some _ q) (Nat.le_of_eq (Heap.size_push _ _)) ?_
 have ne:s.heap.objs.size≠s.heap.objs.size+1:=Nat.ne_of_lt (Nat.lt_succ_self _)
 refine ⟨by rw [upd_ne ne,upd_same],Nat.zero_le _,ne,e2,fun _=>none,(Heap.Ns1.of_empty e3).at fun o q=>Heap.get?_push_of_some _ q,fun _=>True.intro,fun y hy=>absurd rfl hy⟩
end
def sFld (K:PySem.W.Frag)(ta tv:TE)(f:Str):TS:=fun D σ H=>tv σ H fun y H1=>ta σ H1 fun x H2=>∃ a C dx fs,x = .ref a∧H2 a=some (.ins C dx fs)∧Cls K C∧NoAttr K C f∧fs.length<1000 ∧
 D.nx σ (upd H2 a (.ins C dx (putF f y fs)))
section
variable {X:Cx}{o e value:Expr}{f:Str}{pos pos' tpos:Pos}{ta tv:TE}
theorem ps_fld (ha:PE X o ta)(hv:PE X value tv)(hs:swapsWith value (some (.Attribute o f pos')) pos.line X.env=pure false):PS X (.Assign [.Attribute o f pos'] value pos) (sFld X.K ta tv f):=by
 intro pins s σ H D I h
 refine plainObj_wpAny_Assign_Attribute (thn (hv pins s σ H _ I h) fun u s1 ⟨y,H1,I1,ry,q⟩=>thn (ha pins s1 σ H1 _ I1 q) fun ov s2 ⟨x,H2,I2,rx,a,C,dx,fs,ex,ea,c,n,l,q2⟩=>?_) hs
 subst ex
 obtain rfl:ov=Value.ref a:=rx
 exact setattr_ok I2 ea c n l ry fun s3 I3=>⟨σ,_,I3,q2⟩
end
section
variable {X:Cx}{pins:List (Addr×Obj)}{σ:St}{H:Hp}{s:Shared}{A:Around}{E:Value->Shared->Prop}{Q:Value->Shared->Prop}{c:Value}{b:Bool}
inductive TyOf (K:PySem.W.Frag)(H:Hp):V->Value->Prop where
 | non:TyOf K H .non (.type "NoneType")
 | bl (x:Bool):TyOf K H (.bl x) (.type "bool")
 | int (i:Int):TyOf K H (.int i) (.type "int")
 | str (x:Str):TyOf K H (.str x) (.type "str")
 | flt (x:UInt64):TyOf K H (.flt x) (.type "float")
 | lst {a:Addr} {xs:List V} (e:H a=some (.lst xs)):TyOf K H (.ref a) (.type "list")
 | frz {a:Addr} {o:Obj} {xs:List V} (e:H a=some (.frz o (.lst xs))):TyOf K H (.ref a) (.type "list")
 | tup {a:Addr} {xs:List V} (e:H a=some (.tup xs)):TyOf K H (.ref a) (.type "tuple")
 | dK {a:Addr} {kvs:List (Key×V)} (e:H a=some (.dK kvs)):TyOf K H (.ref a) (.type "dict")
 | dT {a:Addr} {kvs:List (List Key×V)} (e:H a=some (.dT kvs)):TyOf K H (.ref a) (.type "dict")
 | ins {a C dx:Addr} {fs:List (Str×V)} (e:H a=some (.ins C dx fs)) (cl:Cls K C) (ha:PySem.W.findIn K (.ref C) "__class__" = some (some (.builtin "object.__class__")))
  (hn:PySem.W.specialIn K (.builtin "object.__class__") "__get__" = some (some (.builtin "getset_descriptor.__get__"))) (htk:PySem.W.takesIn K (.builtin "object.__class__")=some true)
  (hm:PySem.W.mroIn K C (.type "object")=some true):TyOf K H (.ref a) (.ref C)
theorem isinst_ok {x:V}{u t:Value}(I:Inv X pins σ H s)(rx:RelV x u)(ty:TyOf X.K H x t)(e:PySem.W.kitOne X.K t c=some b)(h:∀ tk,Q (.bool b) { s with toks:=tk }) :
  wpAny (model X.prog X.w) A (call (.builtin "isinstance") [u,c]) Q E s:=by
 cases ty with
 | non=>cases (show u=Value.none from rx);exact PySem.W.kia_one PySem.W.kitx_none I.kIn True.intro e (fun z=>nomatch z) h
 | bl y=>cases (show u=Value.bool y from rx);exact PySem.W.kia_one PySem.W.kitx_bool I.kIn True.intro e (fun z=>nomatch z) h
 | int i=>obtain ⟨t,q⟩:=(show ∃ t,u=Value.int i t from rx);cases q;exact PySem.W.kia_one PySem.W.kitx_int I.kIn True.intro e (fun z=>nomatch z) h
 | str y=>obtain ⟨t,q⟩:=(show ∃ t,u=Value.str y t from rx);cases q;exact PySem.W.kia_one PySem.W.kitx_str I.kIn True.intro e (fun z=>nomatch z) h
 | flt y=>obtain ⟨t,q⟩:=(show ∃ t,u=Value.float y t from rx);cases q;exact PySem.W.kia_one PySem.W.kitx_float I.kIn True.intro e (fun z=>nomatch z) h
 | @lst a xs ea =>
  cases (show u=Value.ref a from rx)
  obtain ⟨_,_,n,_,h1⟩:=(show ObjOk X.prog X.w H s.heap a (.lst xs) from I.hok a _ ea)
  exact PySem.W.kia_one PySem.W.kitx_list I.kIn ⟨_,h1,rfl⟩ e (fun z=>nomatch z) h
 | @frz a ob xs ea =>
  cases (show u=Value.ref a from rx)
  obtain ⟨_,_,_,n,_,h1⟩:=(show ObjOk X.prog X.w H s.heap a (.frz ob (.lst xs)) from I.hok a _ ea)
  exact PySem.W.kia_one PySem.W.kitx_list I.kIn ⟨_,h1,rfl⟩ e (fun z=>nomatch z) h
 | @tup a xs ea =>
  cases (show u=Value.ref a from rx)
  obtain ⟨_,_,_,p⟩:=(show ObjOk X.prog X.w H s.heap a (.tup xs) from I.hok a _ ea)
  obtain ⟨o,h1,h2,_⟩:=p
  exact PySem.W.kia_one PySem.W.kitx_tuple I.kIn ⟨o,h1,h2⟩ e (fun z=>nomatch z) h
 | @dK a kvs ea =>
  cases (show u=Value.ref a from rx)
  obtain ⟨_,_,vs,_,p⟩:=(show ObjOk X.prog X.w H s.heap a (.dK kvs) from I.hok a _ ea)
  obtain ⟨o,es,ep,h1,h2,_⟩:=p
  exact PySem.W.kia_one PySem.W.kitx_dict I.kIn ⟨o,h1,h2.1⟩ e (fun z=>nomatch z) h
 | @dT a kvs ea =>
  cases (show u=Value.ref a from rx)
  obtain ⟨_,_,xs,_,o,es,ep,h1,h2,_⟩:=(show ObjOk X.prog X.w H s.heap a (.dT kvs) from I.hok a _ ea)
  exact PySem.W.kia_one PySem.W.kitx_dict I.kIn ⟨o,h1,h2.1⟩ e (fun z=>nomatch z) h
 | @ins a C dx fs ea cl ha hn htk hm =>
  cases (show u=Value.ref a from rx)
  obtain ⟨mA,O,_⟩:=ins_get I.hok ea
  obtain ⟨od,J,_⟩:=O.look
  exact PySem.W.kia_one (PySem.W.kitx_own (cl.get _) cl.hd ha hn htk hm) I.kIn J e (fun z=>nomatch z) h
end
end L2
namespace L2
open PySem PySem.Spec PyProof.Rows
set_option genInjectivity false in
structure Room (k:Nat)(A:Around):Prop where
 hd:A.handled=none
 dp:A.depth+3*k+5<recursionLimit
 un:A.units+16*k+200<cLine
theorem Room.mono {j k:Nat}{A:Around}(r:Room k A)(h:j<=k):Room j A:=⟨r.hd,by have:=r.dp;omega,by have:=r.un;omega⟩
theorem Room.deeper {k:Nat}{A:Around}(r:Room (k+1) A)(env:Env):Room k (A.deeper env) :=
 ⟨r.hd,by have:=r.dp;show A.depth+1+3*k+5<_;omega,by have:=r.un;show A.units+3+16*k+200<_;omega⟩
theorem make_depth {A:Around}{C:Addr}{us:List Value}{kw:List (Str×Value)}:(A.under (.builtin "type.__call__" ⟨.ref C::us,kw⟩)).depth=A.depth+1:=by
 first | rfl | simp [Around.under,Code.weight,Code.isCreation,Code.isGuard,Code.isCaller,Code.frames,Code.isFrame,guardIds]
theorem make_units {A:Around}{C:Addr}{us:List Value}{kw:List (Str×Value)}:(A.under (.builtin "type.__call__" ⟨.ref C::us,kw⟩)).units=A.units+1:=by
 first | rfl | simp [Around.under,Code.cUnits,Code.frames,Code.isFrame]
theorem Room.make {k:Nat}{A:Around}(r:Room (k+1) A)(C:Addr)(us:List Value)(kw:List (Str×Value)):Room k (A.under (.builtin "type.__call__" ⟨.ref C::us,kw⟩)) :=
 ⟨r.hd,by have:=r.dp;rw [make_depth];omega,by have:=r.un;rw [make_units];omega⟩
theorem Room.depth {k:Nat}{A:Around}(r:Room k A):A.depth<recursionLimit:=by have:=r.dp;omega
theorem Room.units {k:Nat}{A:Around}(r:Room k A):A.units+64<cLine:=by have:=r.un;omega
def tNil:TA:=fun _ H Q=>Q [] H
def tCons (ta:TE)(tr:TA):TA:=fun σ H Q=>ta σ H fun x H1=>tr σ H1 fun xs H2=>Q (x::xs) H2
section
variable {X:Cx}{e:Expr}{es:List Expr}{te:TE}{t:TA}{pos:Pos}
theorem pa_nil:PA X [] tNil:=fun _ _ _ _ H Q I h=>Calls.spliced_nil ⟨[],H,I,.nil,h⟩
theorem pa_cons (ha:PE X e te)(hr:PA X es t)(hs:starEach (e::es) X.env=(false,eval e X.env)::starEach es X.env:=by rfl):PA X (e::es) (tCons te t):=by
 intro pos pins s σ H Q I h
 rw [hs]
 show wpAny _ _ (spliced ((false,eval e X.env)::backTo pos (starEach es X.env))) _ _ s
 refine Calls.spliced_cons (thn (ha pins s σ H _ I h) fun u s1 ⟨x,H1,I1,r1,q1⟩=>?_)
 exact thn (hr pos pins s1 σ H1 _ I1 q1) fun us s2 ⟨xs,H2,I2,r2,q2⟩=>⟨x::xs,H2,I2,.cons r1 r2,q2⟩
def tTup (t:TA):TE:=fun σ H Q=>t σ H fun xs H1=>xs.length<=sizeLine∧∀ p,H1 p=none->Q (.ref p) (upd H1 p (.tup xs))
def tLst (t:TA):TE:=fun σ H Q=>t σ H fun xs H1=>xs.length<=sizeLine∧∀ p,H1 p=none->Q (.ref p) (upd H1 p (.lst xs))
theorem pe_tup {x1}(h:PA X es t):PE X (.Tuple es x1 pos) (tTup t):=by
 intro pins s σ H Q I hq
 refine wpAny_Tuple_spliced (thn (h pos pins s σ H _ I hq) fun us s1 ⟨xs,H1,I1,r,z,q⟩=>⟨by rw [<- r.length];exact z,?_⟩)
 have hf:H1 s1.heap.objs.size=none:=I1.hok.fresh (Nat.le_refl _)
 refine ⟨.ref s1.heap.objs.size,upd H1 s1.heap.objs.size (.tup xs),I1.laid (t':=s1.toks) (fun b u e=>Heap.get?_push_of_some _ e) (Nat.le_refl _) ?_,rfl,q _ hf⟩
 exact ⟨z,us,r,⟨_,Heap.get?_push_size _ rfl,rfl,_,rfl⟩⟩
theorem pe_lst (h:PA X es t):PE X (.List es pos) (tLst t):=by
 intro pins s σ H Q I hq
 refine wpAny_List_spliced (thn (h pos pins s σ H _ I hq) fun us s1 ⟨xs,H1,I1,r,z,q⟩=>⟨by rw [<- r.length];exact z,?_⟩)
 have hf:H1 s1.heap.objs.size=none:=I1.hok.fresh (Nat.le_refl _)
 refine ⟨.ref s1.heap.objs.size,upd H1 s1.heap.objs.size (.lst xs),I1.laid (t':=s1.toks) (fun b u e=>Heap.get?_push_of_some _ e) (Nat.le_refl _) ?_,rfl,q _ hf⟩
 exact ⟨z,us,0,r,Heap.get?_push_size _ rfl⟩
end
abbrev Sp:=List V->Hp->VK->XK->Prop
abbrev CXT:=List Env->Hp->Shared->XK->Value->Shared->Prop
set_option genInjectivity false in
structure Env0 (P:Program)(w:World)(K:PySem.W.Frag)(mg:Str->Option Value)(base:Heap)(A:Around)(outer:List Env)(s:Shared)(H:Hp):Prop where
 frames:A.frames=some outer
 mod:Mod K mg base
 bs:∀ b o,base.get? b=some o->s.heap.get? b=some o∧H b=none
 bsz:base.objs.size<=s.heap.objs.size
 funs:s.heap.FunFrames base outer
 frf:∀ b∈frs outer,H b=none
 hok:HOk P w H s.heap
 bare:AllBare s.gens
def CE (outer:List Env)(P:Program)(w:World)(H:Hp)(s:Shared)(Q:VK)(u:Value)(s':Shared):Prop :=
 ∃ v H',s'.os=s.os∧AllBare s'.gens∧Un (frs outer) [] H H' s.heap s'.heap∧HOk P w H' s'.heap∧RelV v u∧Q v H'
def CR (CX:CXT)(outer:List Env)(P:Program)(w:World)(H:Hp)(s:Shared)(Q:VK)(E:XK)(r:Result)(s':Shared):Prop :=
 match r with
 | .ok (.ret u)=>CE outer P w H s Q u s'
 | .ok _=>False
 | .error e=>CX outer H s E e s'
set_option genInjectivity false in
structure FnOk (P:Program)(w:World)(K:PySem.W.Frag)(mg:Str->Option Value)(base:Heap)(CX:CXT)(k:Nat)(f:Addr)(fd:FuncData)(ps:List Str)(sp:Sp):Prop where
 len:∀ vs H Q E,sp vs H Q E->vs.length=ps.length
 run:∀ (A:Around) (outer:List Env) (s:Shared) (H:Hp) (args:Args) (us:List Value) (vs:List V) (Q:VK) (E:XK),Room k A->Env0 P w K mg base A outer s H->BindsTo s fd args (ps.zip us)->Vals vs us->sp vs H Q E ->
  codeAny (model P w) A (.call (.ref f) args) (CR CX outer P w H s Q E) s
theorem Env0.make {P:Program}{w:World}{K:PySem.W.Frag}{mg:Str->Option Value}{base:Heap}{A:Around}{outer:List Env}{s:Shared}{H:Hp}(e:Env0 P w K mg base A outer s H)(C:Addr)(us:List Value)(kw:List (Str×Value)) :
 Env0 P w K mg base (A.under (.builtin "type.__call__" ⟨.ref C::us,kw⟩)) outer s H:=⟨by first | exact e.frames | (simpa [Around.under,Code.envs,Code.isFrame,pushEnvs] using e.frames),e.mod,e.bs,e.bsz,e.funs,e.frf,e.hok,e.bare⟩
section
variable {X:Cx}{pins:List (Addr×Obj)}{σ:St}{H:Hp}{s s':Shared}
theorem Inv.env0 (I:Inv X pins σ H s):Env0 X.prog X.w X.K X.mg X.base X.A X.stack s H :=
 ⟨I.ok.frames,I.ok.mod,I.bs,Nat.le_trans I.ok.bsz I.sz,I.stack,I.stkFree,I.hok,I.bare⟩
theorem Inv.after {Q:VK}{u:Value}(I:Inv X pins σ H s)(h:CE X.stack X.prog X.w H s Q u s'):EP X pins σ Q u s':=by
 obtain ⟨v,H',os,bare,un,hok,r,q⟩:=h
 obtain ⟨hh,g,d,t,os'⟩:=s'
 obtain rfl:os'=s.os:=os
 exact ⟨v,H',I.call (h':=hh) (g':=g) (d':=d) (t':=t) (ch:=[]) un hok bare (fun b z=>absurd z (by simp)),r,q⟩
end
def tCall (sp:Sp)(dvs:List V)(E:XK)(t:TA):TE:=fun σ H Q=>t σ H fun vs H1=>sp (vs++dvs) H1 Q E
def tMake (C:Addr)(sp:Sp)(dvs:List V)(E:XK)(t:TA):TE:=fun σ H Q=>t σ H fun vs H1=>∀ x dx,H1 x=none->H1 dx=none->dx≠x ->
 sp (.ref x::(vs++dvs)) (upd (upd H1 dx (.own x)) x (.ins C dx [])) (fun v H2=>v = .non∧Q (.ref x) H2) E
def Binds (K:PySem.W.Frag)(fd:FuncData)(ps:List Str)(ds:List Value):Prop :=
 ∀ (s:Shared) (us:List Value),K.In s.heap->(us++ds).length=ps.length->BindsTo s fd ⟨us,[]⟩ (ps.zip (us++ds))
theorem Binds.all {K:PySem.W.Frag}{fd:FuncData}{ps:List Str}(h:∀ us:List Value,us.length=ps.length->bindArgs fd ⟨us,[]⟩=pure (ps.zip us)):Binds K fd ps []:=fun s us _ hl=>by
 rw [List.append_nil] at hl ⊢
 exact .of_eq (h us hl)
def Passes (CX:CXT)(X:Cx)(E:XK):Prop:=∀ (pins:List (Addr×Obj)) (σ:St) (H:Hp) (s:Shared) (e:Value) (s':Shared),Inv X pins σ H s->CX X.stack H s E e s'->X.xe e s'
section
variable {X:Cx}{CX:CXT}{k:Nat}{f C:Addr}{fd:FuncData}{ps:List Str}{sp:Sp}{dvs:List V}{ds:List Value}{E:XK}{x m:Str}{p pos apos:Pos}{e o:Expr}{es:List Expr}{ta:TE}{t:TA}
theorem run_fn {pins:List (Addr×Obj)}{σ:St}{H:Hp}{s:Shared}{Q:VK}{us:List Value}{vs:List V}(F:FnOk X.prog X.w X.K X.mg X.base CX k f fd ps sp)(hr:Room k X.A)(hb:Binds X.K fd ps ds)(hd:Vals dvs ds)(hx:Passes CX X E)
  (I:Inv X pins σ H s) (r:Vals vs us) (h:sp (vs++dvs) H Q E):wpAny (model X.prog X.w) X.A (call (.ref f) us) (EP X pins σ Q) X.xe s:=by
 have r2:Vals (vs++dvs) (us++ds):=r.append hd
 have hl:(us++ds).length=ps.length:=by rw [<- r2.length];exact F.len _ _ _ _ h
 refine wpAny_call (codeAny_mono (F.run X.A X.stack s H ⟨us,[]⟩ (us++ds) (vs++dvs) Q E hr I.env0 (hb s us I.kIn hl) r2 h) fun r s' hq=>?_)
 cases r with
 | error e=>exact hx pins σ H s e s' I hq
 | ok fl =>
  cases fl with
  | ret u=>exact I.after hq
  | next=>exact False.elim hq
  | brk=>exact False.elim hq
  | cont=>exact False.elim hq
theorem pe_call (F:FnOk X.prog X.w X.K X.mg X.base CX k f fd ps sp)(hr:Room k X.A)(hg:Gl X x)(hm:X.mg x=some (.ref f))(hk:PySem.W.keepIn X.K (.ref f)=true)(hb:Binds X.K fd ps ds)(hd:Vals dvs ds)(hx:Passes CX X E)
  (ha:PA X (e::es) t) (hdb:(x==("__debug__" : Str))=false:=by decide) (he:starEach (e::es) X.env=(false,eval e X.env)::starEach es X.env:=by rfl) (hpl:(backTo pos (starEach es X.env)).any (·.1)=false:=by rfl) :
  PE X (.Call (.Name x p) (e::es) [] pos) (tCall sp dvs E t):=by
 intro pins s σ H Q I h
 refine wpAny_Call_Name_kw (ld_glob I hg hm ?_ hdb)
 refine PySem.W.callWith_K (h₀:=X.base) I.ok.mod.kin hk (thn (ha pos pins s σ H _ I h) fun us s1 ⟨vs,H1,I1,r,q⟩=>⟨I1.kIn,?_⟩) he hpl
 exact run_fn F hr hb hd hx I1 r q
set_option genInjectivity false in
structure Mk (K:PySem.W.Frag)(C f:Addr):Prop where
 makes:PySem.W.makesIn K C=true
 init:PySem.W.findIn K (.ref C) "__init__" = some (some (.ref f))
 fn:PySem.W.isFn K (.ref f)=true
 kp:PySem.W.keepIn K (.ref C)=true
theorem run_make {pins:List (Addr×Obj)}{σ:St}{H:Hp}{s:Shared}{Q:VK}{us:List Value}{vs:List V}(M:Mk X.K C f)(F:FnOk X.prog X.w X.K X.mg X.base CX k f fd ps sp)(hr:Room (k+1) X.A)(hb:Binds X.K fd ps ds)(hd:Vals dvs ds)
  (hx:Passes CX X E) (I:Inv X pins σ H s) (r:Vals vs us)
  (h:∀ x dx,H x=none->H dx=none->dx≠x->sp (.ref x::(vs++dvs)) (upd (upd H dx (.own x)) x (.ins C dx [])) (fun v H2=>v = .non∧Q (.ref x) H2) E) :
  wpAny (model X.prog X.w) X.A (call (.ref C) us) (EP X pins σ Q) X.xe s:=by
 have hq:=h (s.heap.objs.size+1) s.heap.objs.size (I.hok.fresh (Nat.le_succ _)) (I.hok.fresh (Nat.le_refl _)) (Nat.ne_of_lt (Nat.lt_succ_self _))
 have I2:=Inv.made (C:=C) I
 have r2:Vals (V.ref (s.heap.objs.size+1)::(vs++dvs)) (Value.ref (s.heap.objs.size+1)::(us++ds)):=.cons rfl (r.append hd)
 have hl:(Value.ref (s.heap.objs.size+1)::us++ds).length=ps.length:=by
  have e:=r2.length
  rw [F.len _ _ _ _ hq] at e
  exact e.symm
 refine wpAny_call (make_map (f:=f) I.kIn M.makes M.init (beq_iff_eq.mp M.fn) (codeAny_mono (F.run _ X.stack _ _ ⟨Value.ref (s.heap.objs.size+1)::us,[]⟩ (Value.ref (s.heap.objs.size+1)::(us++ds)) _ _ E (hr.make C us [])
  (I2.env0.make C us []) (hb _ (Value.ref (s.heap.objs.size+1)::us) I2.kIn hl) r2 hq) fun r s' hq'=>?_))
 cases r with
 | error e=>exact hx pins σ _ _ e s' I2 hq'
 | ok fl =>
  cases fl with
  | ret u =>
   obtain ⟨v,H',I3,rv,ev,q3⟩:=I2.after hq'
   subst ev
   exact ⟨rv,⟨V.ref (s.heap.objs.size+1),H',I3,rfl,q3⟩⟩
  | next=>exact False.elim hq'
  | brk=>exact False.elim hq'
  | cont=>exact False.elim hq'
theorem pe_make (M:Mk X.K C f)(F:FnOk X.prog X.w X.K X.mg X.base CX k f fd ps sp)(hr:Room (k+1) X.A)(hg:Gl X x)(hm:X.mg x=some (.ref C))(hb:Binds X.K fd ps ds)(hd:Vals dvs ds)(hx:Passes CX X E)
  (ha:PA X (e::es) t) (hdb:(x==("__debug__" : Str))=false:=by decide) (he:starEach (e::es) X.env=(false,eval e X.env)::starEach es X.env:=by rfl) (hpl:(backTo pos (starEach es X.env)).any (·.1)=false:=by rfl) :
  PE X (.Call (.Name x p) (e::es) [] pos) (tMake C sp dvs E t):=by
 intro pins s σ H Q I h
 refine wpAny_Call_Name_kw (ld_glob I hg hm ?_ hdb)
 refine PySem.W.callWith_K (h₀:=X.base) I.ok.mod.kin M.kp (thn (ha pos pins s σ H _ I h) fun us s1 ⟨vs,H1,I1,r,q⟩=>⟨I1.kIn,?_⟩) he hpl
 exact run_make M F hr hb hd hx I1 r q
end
section
variable {X:Cx}{CX:CXT}{k:Nat}{f C:Addr}{fd:FuncData}{ps ks:List Str}{sp:Sp}{E:XK}{x m:Str}{p pos apos kpos:Pos}{e o:Expr}{es:List Expr}{kws:List Keyword}{te ta:TE}{t tk:TA}{nm:Option Str}
variable {g:List Value->List Value->List Value}{gV:List V->List V->List V}
end
set_option genInjectivity false in
structure FnScope (N P:List Str)(sc:Scope):Prop where
 kind:sc.kind = .function
 co:sc.isCoroutine=false
 gen:sc.isGenerator=false
 nd:N.Nodup
 pre:N.take P.length=P
 par:∀ x∈P,sc.names.lookup x=some .local∨sc.names.lookup x=some .cell
 nofree:∀ y∈sc.names,y.2≠.free
theorem bindL_out {kindOf:Str->Option NameKind}{x:Str}:∀ {binds:List (Str×Value)} {m:Str->Option Value},(∀ v,(x,v)∉binds)->bindL kindOf binds m x=m x
 | [],_,_=>rfl
 | (n,v)::r,m,h=>by
  unfold bindL
  rw [bindL_out fun w hw=>h w (List.mem_cons_of_mem _ hw)]
  split
  ·have:x≠n:=by rintro rfl;exact h v List.mem_cons_self
   simp [this]
  ·rfl
theorem bindC_out {kindOf:Str->Option NameKind}{x:Str}:∀ {binds:List (Str×Value)} {m:Str->Option Value},(∀ v,(x,v)∉binds)->bindC kindOf binds m x=m x
 | [],_,_=>rfl
 | (n,v)::r,m,h=>by
  unfold bindC
  rw [bindC_out fun w hw=>h w (List.mem_cons_of_mem _ hw)]
  split
  ·rfl
  ·have:x≠n:=by rintro rfl;exact h v List.mem_cons_self
   simp [this]
theorem bindL_get {kindOf:Str->Option NameKind}{x:Str}{v:Value}:∀ {P:List Str} {vs:List Value} {i:Nat} {m:Str->Option Value},P.Nodup->P[i]?=some x->vs[i]?=some v->kindOf x=some .local ->
  bindL kindOf (P.zip vs) m x=some v
 | [],_,_,_,_,h,_,_=>by simp at h
 | _::_,[],_,_,_,_,h,_=>by simp at h
 | p::P,w::vs,0,m,nd,h1,h2,hk=>by
  simp at h1 h2;subst h1;subst h2
  show bindL kindOf ((p,w)::P.zip vs) m p=_
  unfold bindL
  rw [bindL_out fun v hv=>(List.nodup_cons.mp nd).1 (List.of_mem_zip hv).1,if_pos hk]
  simp
 | p::P,w::vs,i+1,m,nd,h1,h2,hk=>by
  show bindL kindOf ((p,w)::P.zip vs) m x=_
  unfold bindL
  exact bindL_get (i:=i) (List.nodup_cons.mp nd).2 (by simpa using h1) (by simpa using h2) hk
theorem bindC_get {kindOf:Str->Option NameKind}{x:Str}{v:Value}:∀ {P:List Str} {vs:List Value} {i:Nat} {m:Str->Option Value},P.Nodup->P[i]?=some x->vs[i]?=some v->kindOf x≠some .local ->
  bindC kindOf (P.zip vs) m x=some v
 | [],_,_,_,_,h,_,_=>by simp at h
 | _::_,[],_,_,_,_,h,_=>by simp at h
 | p::P,w::vs,0,m,nd,h1,h2,hk=>by
  simp at h1 h2;subst h1;subst h2
  show bindC kindOf ((p,w)::P.zip vs) m p=_
  unfold bindC
  rw [bindC_out fun v hv=>(List.nodup_cons.mp nd).1 (List.of_mem_zip hv).1,if_neg hk]
  simp
 | p::P,w::vs,i+1,m,nd,h1,h2,hk=>by
  show bindC kindOf ((p,w)::P.zip vs) m x=_
  unfold bindC
  exact bindC_get (i:=i) (List.nodup_cons.mp nd).2 (by simpa using h1) (by simpa using h2) hk
def start (N:List Str)(vs:List V):St:=vs.map some++List.replicate (N.length-vs.length) none
def cxOf (CX:CXT)(P:Program)(w:World)(K:PySem.W.Frag)(mg:Str->Option Value)(base:Heap)(N:List Str)(qual:Str)(scope:Scope)(f:Addr)(cd:Value)(A:Around)(outer:List Env)(s:Shared)(H:Hp)(E:XK):Cx where
 prog:=P
 w:=w
 K:=K
 mg:=mg
 base:=base
 A:=A.deeper (envOfC qual scope s.heap.objs.size f cd)
 N:=N
 s₀:=s
 H₀:=H
 env:=envOfC qual scope s.heap.objs.size f cd
 outer:=outer
 stack:=envOfC qual scope s.heap.objs.size f cd::outer
 ex:=[]
 calm:=true
 fn:=fun _=>true
 pn:=[]
 xe:=fun e s'=>wpAny (model P w) (A.deeper (envOfC qual scope s.heap.objs.size f cd)) (leaving (envOfC qual scope s.heap.objs.size f cd) e) (fun _ s''=>CX outer H s E e s'') (fun e' s''=>CX outer H s E e' s'') s'
theorem cell_has {sc:Scope}{n:Nat}{x:Str}(h:sc.names.lookup x=some .cell):∃ c,(cellsFrom n sc.names []).lookup x=some c:=by
 have q:=PySem.W.cellsFrom_some sc.names n [] (.inl h)
 exact Option.isSome_iff_exists.mp q
theorem inv_start {CX:CXT}{P:Program}{w:World}{K:PySem.W.Frag}{mg:Str->Option Value}{base:Heap}{N ps:List Str}{qual:Str}{scope:Scope}{f:Addr}{cd:Value}{A:Around}{outer:List Env}{s s1:Shared}{H:Hp}{E:XK}{us:List Value}{vs:List V}
  (S:FnScope N ps scope) (hd:A.handled=none) (e0:Env0 P w K mg base A outer s H) (hl:vs.length=ps.length) (r:Vals vs us)
  (x:InCallC s s.heap.objs.size (bindL (envOfC qual scope s.heap.objs.size f cd).kindOf (ps.zip us) fun _=>none) (cellsFrom (s.heap.objs.size+1) scope.names []) (bindC (envOfC qual scope s.heap.objs.size f cd).kindOf (ps.zip us) fun _=>none) s1) :
  Inv (cxOf CX P w K mg base N qual scope f cd A outer s H E) [] (start N vs) H s1:=by
 have hpl:ps.length<=N.length:=by have:=congrArg List.length S.pre;rw [List.length_take] at this;omega
 obtain ⟨h1,tk,rfl,hk⟩:=x.done
 have noA:∀ b:Addr,b∉(cxOf CX P w K mg base N qual scope f cd A outer s H E).ex:=fun b z=>absurd (show b∈([]:List Addr) from z) (by simp)
 refine ⟨⟨e0.mod,S.kind,rfl,rfl,Nat.le_refl _,fun y z c h1 h2=>?_,fun y hy=>?_,fun y c _ h=>?_,fun _=>hd,Around.frames_deeper e0.frames,.inr ⟨rfl,rfl⟩,fun b z=>absurd z (noA b),e0.bs,e0.bsz,fun b _ _=>noA b,fun b z=>absurd z (noA b),e0.funs,e0.frf⟩,
  rfl,e0.bare,Un.kept hk,⟨_,x.toInCall.ns,fun i y v h1 h2 h3=>?_⟩,fun y c h=>⟨_,x.cell y c h⟩,e0.hok.fresh (Nat.le_refl _),fun y c h=>?_,fun p hp=>absurd (show p∈([]:List (Addr×Obj)) from hp) (by simp),e0.hok.kept hk,?_⟩
 ·exact name_of_addr x.apart (PySem.mem_of_lookup h1) (PySem.mem_of_lookup h2)
 ·have hy:scope.names.lookup y=some .cell∨scope.names.lookup y=some .free:=hy
  rcases hy with hy | hy
  ·exact cell_has hy
  ·exact absurd rfl (S.nofree _ (PySem.mem_of_lookup hy))
 ·exact Nat.le_of_lt (x.above y c (PySem.mem_of_lookup h))
 ·have hi:i<vs.length:=by
   unfold start at h2
   by_cases hi:i<vs.length
   ·exact hi
   ·rw [List.getElem?_append_right (by simpa using hi)] at h2
    rw [List.getElem?_replicate] at h2
    split at h2 <;> cases h2
  have ha:vs[i]?=some v:=by
   unfold start at h2
   rw [List.getElem?_append_left (by simpa using hi),List.getElem?_map] at h2
   cases e:vs[i]? with
   | none=>rw [e] at h2;cases h2
   | some a=>rw [e] at h2;cases h2;rfl
  obtain ⟨u,hu,rv⟩:=r.get ha
  have hp:ps[i]?=some y:=by
   rw [<- S.pre,List.getElem?_take_of_lt (by omega)];exact h1
  have ndP:ps.Nodup:=by rw [<- S.pre];exact S.nd.sublist (List.take_sublist _ _)
  refine ⟨u,rv,?_⟩
  rcases S.par y (List.mem_of_getElem? hp) with k | k
  ·exact .inl ⟨k,bindL_get ndP hp hu k⟩
  ·obtain ⟨c,e⟩:=cell_has (n:=s.heap.objs.size+1) k
   refine .inr ⟨.inl k,c,e,?_⟩
   have q:=x.cell y c e
   rw [bindC_get ndP hp hu (by show scope.names.lookup y≠_;rw [k];decide)] at q
   exact q
 ·exact e0.hok.fresh (Nat.le_of_lt (x.above y c (PySem.mem_of_lookup h)))
 ·unfold start
  show _=N.length
  rw [List.length_append,List.length_map,List.length_replicate]
  omega
theorem fn_of {CX:CXT}{P:Program}{w:World}{K:PySem.W.Frag}{mg:Str->Option Value}{base:Heap}{k:Nat}{f:Addr}{name qual:Str}{params:Arguments}{body:List Stmt}{scope:Scope}{dV kV doc pm cdv ct oc:Value}{an od:Option Addr}
  {osl:Array (Option Value)} {N ps:List Str} {sp:Sp} (lk:K.lookup f=some ⟨oc,od,.func (PySem.W.fnOf name qual params body scope dV kV doc pm an cdv ct),osl⟩) (hcd:PySem.W.codeIn K cdv qual=true) (S:FnScope N ps scope)
  (len:∀ vs H Q E,sp vs H Q E->vs.length=ps.length)
  (hbody:∀ (A:Around) (outer:List Env) (s:Shared) (H:Hp) (vs:List V) (Q:VK) (E:XK),Room k (A.deeper (envOfC qual scope s.heap.objs.size f cdv))->sp vs H Q E ->
   ∃ t,PSs (cxOf CX P w K mg base N qual scope f cdv A outer s H E) body t∧t { nx:=fun _ H'=>Q .non H',rt:=Q } (start N vs) H) :
  FnOk P w K mg base CX (k+1) f (PySem.W.fnOf name qual params body scope dV kV doc pm an cdv ct) ps sp:=by
 refine ⟨len,fun A outer s H args us vs Q E hr e0 hb r hsp=>?_⟩
 have hl:=len _ _ _ _ hsp
 have KX:K.In s.heap:=e0.mod.kin.keeps fun b o e=>(e0.bs b o e).1
 have lim:s.heap.NoLimit:=e0.mod.nolimit.keeps fun b o e=>(e0.bs b o e).1
 have hkind:∀ y∈ps.zip us,scope.names.lookup y.1=some .local∨(scope.names.lookup y.1=some .cell∧((cellsFrom (s.heap.objs.size+1) scope.names []).lookup y.1).isSome=true):=fun ⟨n,v⟩ hy=>by
  rcases S.par n (List.of_mem_zip hy).1 with q | q
  ·exact .inl q
  ·exact .inr ⟨q,PySem.W.cellsFrom_some _ _ _ (.inl q)⟩
 refine codeAny_call_function hr.depth (KX _ _ lk) rfl S.co S.gen rfl (PySem.W.codeRec_of KX hcd) (hb _ _ _ _ ?_)
 refine wpAny_newFunctionEnv_cells S.kind hkind fun env he s1 x=>?_
 subst he
 refine ⟨lim.keeps x.toInCall.keep,codeAny_func ?_⟩
 obtain ⟨t,ht,hq⟩:=hbody A outer s H vs Q E (hr.deeper _) hsp
 have I:Inv (cxOf CX P w K mg base N qual scope f cdv A outer s H E) [] (start N vs) H s1:=inv_start S hr.hd e0 hl r x
 refine wpAny_mono (ht [] s1 (start N vs) H _ I hq) (fun fl s' hs=>?_) fun e s' hs=>hs
 have fin:∀ {σ':St} {H':Hp} {v:V} {u:Value},Inv (cxOf CX P w K mg base N qual scope f cdv A outer s H E) [] σ' H' s'->RelV v u->Q v H'->CE outer P w H s Q u s' :=
  fun {σ' H' v u} J rv q=>⟨v,H',J.os,J.bare,J.base,J.hok,rv,q⟩
 cases fl with
 | ret u =>
  obtain ⟨v,σ',H',J,rv,q⟩:=hs
  exact fin J rv q
 | next =>
  obtain ⟨σ',H',J,q⟩:=hs
  exact fin (v:=V.non) (u:=Value.none) J rfl q
 | brk =>
  obtain ⟨_,_,_,q⟩:=hs
  exact False.elim q
 | cont =>
  obtain ⟨_,_,_,q⟩:=hs
  exact False.elim q
end L2
namespace L2
open PySem PySem.Spec PyProof.Rows
section
variable {X:Cx}{x:Str}{p pos:Pos}{e:Expr}{es:List Expr}{t:TA}{id T:String}{r:List V->Hp->VK->Prop}
def tCB (r:List V->Hp->VK->Prop)(t:TA):TE:=fun σ H Q=>t σ H fun vs H1=>r vs H1 Q
theorem pe_callB (hc:CallR X (.builtin id) r)(hg:Gl X x)(hm:X.mg x=none)(hv:bootBuiltins x=some (.builtin id))(ha:PA X (e::es) t)(hn:x ≠ "__name__" := by decide)(hdb:(x==("__debug__" : Str))=false:=by decide)
  (he:starEach (e::es) X.env=(false,eval e X.env)::starEach es X.env:=by rfl) (hpl:(backTo pos (starEach es X.env)).any (·.1)=false:=by rfl):PE X (.Call (.Name x p) (e::es) [] pos) (tCB r t):=by
 intro pins s σ H Q I h
 refine wpAny_Call_Name_kw (ld_blt I hg hm hv ?_ hn hdb)
 exact PyProof.Rows.callWith_builtin1 (thn (ha pos pins s σ H _ I h) fun us s1 ⟨vs,H1,I1,r1,q1⟩=>hc pins s1 σ H1 vs us Q I1 r1 q1) he hpl
theorem pe_callTy (hc:CallR X (.type T) r)(hg:Gl X x)(hm:X.mg x=none)(hv:bootBuiltins x=some (.type T))(ha:PA X (e::es) t)(hn:x ≠ "__name__" := by decide)(hdb:(x==("__debug__" : Str))=false:=by decide)
  (he:starEach (e::es) X.env=(false,eval e X.env)::starEach es X.env:=by rfl) (hpl:(backTo pos (starEach es X.env)).any (·.1)=false:=by rfl):PE X (.Call (.Name x p) (e::es) [] pos) (tCB r t):=by
 intro pins s σ H Q I h
 refine wpAny_Call_Name_kw (ld_blt I hg hm hv ?_ hn hdb)
 exact PyProof.Rows.callWith_type1 (thn (ha pos pins s σ H _ I h) fun us s1 ⟨vs,H1,I1,r1,q1⟩=>hc pins s1 σ H1 vs us Q I1 r1 q1) he hpl
end
end L2
namespace HT
open PySem PyProof.Rows
section
open PySem.SeqAt
open PySem.AutoSeq1 (wpAny_loadPart')
open PySem.MeetsSeq PySem.MeetsSeq2 PySem.MeetsSeq3
end
section
variable {prog:Program}{w:World}{A:Around}{E:Value->Shared->Prop}{s:Shared}
def sIx (n d:Nat):Option Int->Nat
 | none=>d
 | some v=>if v<0 then (v+(n:Int)).toNat else min v.toNat n
theorem sIx_none (n d:Nat):sIx n d none=d:=rfl
theorem sIx_nat (n d k:Nat):sIx n d (some (k:Int))=min k n:=by
 show (if (k:Int)<0 then ((k:Int)+(n:Int)).toNat else min (k:Int).toNat n)=min k n
 rw [if_neg (by omega),Int.toNat_natCast]
theorem sIx_le (n d:Nat)(hd:d<=n)(o:Option Int):sIx n d o<=n:=by
 cases o with
 | none=>exact hd
 | some v =>
  show (if v<0 then (v+(n:Int)).toNat else min v.toNat n)<=n
  by_cases hv:v<0
  ·rw [if_pos hv];omega
  ·rw [if_neg hv];exact Nat.min_le_right _ _
end
end HT
namespace L2
open PySem PySem.Spec PyProof.Rows
abbrev TO:=St->Hp->(Option Int->Hp->Prop)->Prop
def PO (X:Cx)(e:Option Expr)(t:TO):Prop :=
 ∀ (pins:List (Addr×Obj)) (s:Shared) (σ:St) (H:Hp) (Q:Option Int->Hp->Prop),Inv X pins σ H s->t σ H Q ->
  wpAny (model X.prog X.w) X.A (evalPart e X.env) (fun u s'=>∃ o H',Inv X pins σ H' s'∧IsPart u o∧Q o H') X.xe s
def tNoPart:TO:=fun _ H Q=>Q none H
def tPart (t:TE):TO:=fun σ H Q=>t σ H fun x H1=>∃ i,x = .int i∧Q (some i) H1
theorem intsAre_of {ns:List Int}:∀ {us:List Value},Vals (ns.map V.int) us->IntsAre us ns:=by
 induction ns with
 | nil=>intro us r;rw [List.map_nil] at r;cases r;exact .nil
 | cons n ns ih =>
  intro us r
  rw [List.map_cons] at r
  cases r with
  | cons r1 r2 =>
   obtain ⟨t,e⟩:=r1
   subst e
   exact .cons n t (ih r2)
section
variable {X:Cx}{e:Expr}{te:TE}{lo hi:Option Expr}{tl th:TO}{pos p2:Pos}
theorem po_none:PO X none tNoPart:=by
 intro pins s σ H Q I h
 rw [evalPart_none]
 exact wpAny_pure ⟨none,H,I,.none,h⟩
theorem po_some (h:PE X e te):PO X (some e) (tPart te):=by
 intro pins s σ H Q I hw
 rw [evalPart_some]
 refine thn (h pins s σ H _ I hw) fun u s1 ⟨x,H1,I1,r1,q1⟩=>?_
 obtain ⟨i,rfl,q⟩:=q1
 obtain ⟨t,rfl⟩:=r1
 exact ⟨some i,H1,I1,.int i t,q⟩
def SlR (X:Cx)(r:V->Option Int->Option Int->Hp->VK->Prop):Prop :=
 ∀ (pins:List (Addr×Obj)) (s:Shared) (σ:St) (H:Hp) (x:V) (v vl vu:Value) (lo hi:Option Int) (sl:Addr) (Q:VK),Inv X pins σ H s->RelV x v->s.heap.IsSliceOf sl vl vu .none->IsPart vl lo->IsPart vu hi->r x lo hi H Q ->
  ∃ T id,typeLookup (.type T) "__getitem__" = pure (some (.builtin id))∧s.TypeIs v T∧wpAny (model X.prog X.w) X.A (getItem v (.ref sl)) (EP X pins σ Q) X.xe s
def tSl (r:V->Option Int->Option Int->Hp->VK->Prop)(te:TE)(tl th:TO):TE:=fun σ H Q=>te σ H fun x H1=>tl σ H1 fun l H2=>th σ H2 fun u H3=>r x l u H3 Q
theorem pe_slice {r:V->Option Int->Option Int->Hp->VK->Prop}(hr:SlR X r)(he:PE X e te)(hl:PO X lo tl)(hu:PO X hi th):PE X (.Subscript e (.Slice lo hi none p2) pos) (tSl r te tl th):=by
 intro pins s σ H Q I h
 refine Subscript_ (thn (he pins s σ H _ I h) fun v s1 ⟨x,H1,I1,r1,q1⟩=>?_)
 refine wpAny_Slice (thn (hl pins s1 σ H1 _ I1 q1) fun vl s2 ⟨l,H2,I2,pl,q2⟩=>thn (hu pins s2 σ H2 _ I2 q2) fun vu s3 ⟨u,H3,I3,pu,q3⟩=>?_)
 rw [evalPart_none]
 refine wpAny_pure ?_
 have I4:Inv X pins σ H3 { s3 with heap:=s3.heap.push { cls:=.type "slice",data:=.fields #[vl,vu,.none] } }:=I3.kept (t':=s3.toks) fun b ob q=>Heap.get?_push_of_some _ q
 obtain ⟨T,id,hT,ht,hg⟩:=hr pins { s3 with heap:=s3.heap.push { cls:=.type "slice",data:=.fields #[vl,vu,.none] } } σ H3 x v vl vu l u s3.heap.objs.size Q I4 r1 (Heap.IsSliceOf.new ..) pl pu q3
 show wpAny (model X.prog X.w) X.A (subscriptTail e (.Slice lo hi none p2) v (.ref s3.heap.objs.size)) (EP X pins σ Q) X.xe { s3 with heap:=s3.heap.push { cls:=.type "slice",data:=.fields #[vl,vu,.none] } }
 exact tail_any (ops:=[.ref s3.heap.objs.size,v]) ht hT hg (by with_unfolding_all rfl)
def cutV (xs:List V)(lo hi:Option Int):List V:=(xs.drop (HT.sIx xs.length 0 lo)).take (HT.sIx xs.length xs.length hi-HT.sIx xs.length 0 lo)
theorem cutV_length (xs:List V)(lo hi:Option Int):(cutV xs lo hi).length<=xs.length:=by
 unfold cutV
 rw [List.length_take,List.length_drop]
 omega
end
end L2
namespace L2
open PySem PySem.Spec PyProof.Rows
def ixN (n:Nat)(i:Int):Option Nat:=if 0<=i then (if i<n then some i.toNat else none) else if -(n:Int)<=i then some (i+n).toNat else none
def atI {α:Type}(xs:List α)(i:Int):Option α:=(ixN xs.length i).bind fun j=>xs[j]?
theorem ixN_seq {n:Nat}{i:Int}{j:Nat}(h:ixN n i=some j):seqIndex? i n=some j∧j<n∧-(n:Int)<=i∧i<n:=by
 unfold ixN at h
 by_cases h0:0<=i
 ·rw [if_pos h0] at h
  by_cases h1:i<n
  ·rw [if_pos h1] at h
   have e:i.toNat=j:=Option.some.inj h
   exact ⟨by rw [seqIndex_of h0 h1,e],by omega,by omega,h1⟩
  ·rw [if_neg h1] at h;cases h
 ·rw [if_neg h0] at h
  by_cases h1 : -(n:Int)<=i
  ·rw [if_pos h1] at h
   have e:(i+n).toNat=j:=Option.some.inj h
   exact ⟨by rw [seqIndex_neg (by omega) h1,e],by omega,h1,by omega⟩
  ·rw [if_neg h1] at h;cases h
theorem atI_get {α:Type}{xs:List α}{i:Int}{v:α}(h:atI xs i=some v):∃ j,seqIndex? i xs.length=some j∧xs[j]?=some v∧j<xs.length∧-(xs.length:Int)<=i∧i<xs.length:=by
 unfold atI at h
 cases e:ixN xs.length i with
 | none=>rw [e] at h;cases h
 | some j =>
  rw [e] at h
  obtain ⟨h1,h2,h3,h4⟩:=ixN_seq e
  exact ⟨j,h1,h,h2,h3,h4⟩
theorem atI_nat {α:Type}{xs:List α}{j:Nat}{v:α}(h:xs[j]?=some v):atI xs (j:Int)=some v:=by
 have hj:j<xs.length:=(List.getElem?_eq_some_iff.mp h).1
 have e:ixN xs.length (j:Int)=some j:=by
  unfold ixN
  rw [if_pos (by omega),if_pos (by omega)];simp
 unfold atI;rw [e];exact h
def PlainIx (b:Expr):Prop:=∀ o i,subscripted b false o i=operate [o,i] (getItem o i)
def IxR (X:Cx)(r:R2):Prop :=
 ∀ (value slice:Expr) (pins:List (Addr×Obj)) (s:Shared) (σ:St) (H:Hp) (x y:V) (v u:Value) (Q:VK),Inv X pins σ H s->RelV x v->RelV y u->r x y H Q ->
  subscripted slice false v u=operate [v,u] (getItem v u)->wpAny (model X.prog X.w) X.A (subscriptTail value slice v u) (EP X pins σ Q) X.xe s
def MtR (X:Cx)(id:String)(r:V->List V->Hp->VK->Prop):Prop :=
 ∀ (pins:List (Addr×Obj)) (s:Shared) (σ:St) (H:Hp) (x:V) (xs:List V) (v:Value) (us:List Value) (Q:VK),Inv X pins σ H s->RelV x v->Vals xs us->r x xs H Q ->
  wpAny (model X.prog X.w) X.A (call (.builtin id) (v::us)) (EP X pins σ Q) X.xe s
section
variable {X:Cx}{a b:Expr}{ta tb:TE}{pos:Pos}
theorem pe_ix {r:R2}(hr:IxR X r)(ha:PE X a ta)(hb:PE X b tb)(hs:PlainIx b):PE X (.Subscript a b pos) (tOp r ta tb):=by
 intro pins s σ H Q I h
 exact Subscript_ (binT ha hb I h fun v u s2 x y H2 I2 rx ry q=>hr a b pins s2 σ H2 x y v u Q I2 rx ry q (hs _ _))
def rIxL (K:PySem.W.Frag):R2:=fun x y H Q=>∃ p xs i v,x = .ref p∧y = .int i∧SqL K H p xs∧atI xs i=some v∧Q v H
def rIxT (K:PySem.W.Frag):R2:=fun x y H Q=>∃ p xs i v,x = .ref p∧y = .int i∧SqT K H p xs∧atI xs i=some v∧Q v H
def rIxS:R2:=fun x y H Q=>∃ z i c,x = .str z∧y = .int i∧z.length<=sizeLine∧atI z.cps.toList i=some c∧Q (.str ⟨#[c]⟩) H
theorem ix_list:IxR X (rIxL X.K):=by
 intro value slice pins s σ H x y v u Q I rx ry h hs
 obtain ⟨p,xs,i,z,rfl,rfl,hq,he,q⟩:=h
 cases rx
 obtain ⟨t,rfl⟩:=ry
 obtain ⟨its,r,pl,hz⟩:=I.list hq
 obtain ⟨j,h1,h2,h3,h4,h5⟩:=atI_get he
 obtain ⟨w,ew,rw'⟩:=r.get h2
 have hl:=r.length
 have hn:=line63
 have fin:EP X pins σ Q w s:=⟨z,H,I,rw',q⟩
 by_cases h0:0<=i
 ·have hj:i.toNat=j:=by
   rw [seqIndex_of h0 h5] at h1
   exact Option.some.inj h1
  exact item_listR pl.isList h0 (by omega) (by rw [hj];simpa using ew) fin hs
 ·have hj:(i+(its.toArray.size:Int)).toNat=j:=by
   rw [seqIndex_neg (by omega) h4] at h1
   rw [List.size_toArray,<- hl]
   exact Option.some.inj h1
  exact subscriptTail_builtinR (x:=w) pl.isList.typeIs slot_list_getitem.lookup
   (wpAny_getItem_list_neg (Q:=fun r s'=>r=w∧EP X pins σ Q r s') pl.isList (by omega) (by rw [List.size_toArray] <;> omega) (by omega) (by rw [hj];simpa using ew) ⟨rfl,fin⟩) hs
theorem ix_tup:IxR X (rIxT X.K):=by
 intro value slice pins s σ H x y v u Q I rx ry h hs
 obtain ⟨p,xs,i,z,rfl,rfl,hq,he,q⟩:=h
 cases rx
 obtain ⟨t,rfl⟩:=ry
 obtain ⟨its,r,pl,hz⟩:=I.tuple hq
 obtain ⟨j,h1,h2,h3,h4,h5⟩:=atI_get he
 obtain ⟨w,ew,rw'⟩:=r.get h2
 have hl:=r.length
 have hn:=line63
 have fin:EP X pins σ Q w s:=⟨z,H,I,rw',q⟩
 exact subscriptTail_builtinR (x:=w) pl.typeIs slot_tuple_getitem.lookup
  (getItem_tuple (j:=j) (Q:=fun r s'=>r=w∧EP X pins σ Q r s') pl (by omega) (by omega) (by rw [List.size_toArray,<- hl];exact h1) (by simpa using ew) ⟨rfl,fin⟩) hs
theorem ix_str:IxR X rIxS:=by
 intro value slice pins s σ H x y v u Q I rx ry h hs
 obtain ⟨z,i,c,rfl,rfl,hz,he,q⟩:=h
 obtain ⟨t,rfl⟩:=rx
 obtain ⟨t',rfl⟩:=ry
 obtain ⟨j,h1,h2,h3,h4,h5⟩:=atI_get he
 have hl:z.cps.toList.length=z.length:=by simp [Str.length]
 rw [hl] at h1 h4 h5
 have hn:=line63
 exact tail_any (typeIs_str s z t) slot_str_getitem.lookup (getItem_str (c:=c) (by
  have e1:decide (i < -(2 ^ 63:Int))=false:=decide_eq_false (by omega)
  have e2:decide (i≥2 ^ 63)=false:=decide_eq_false (by omega)
  rw [e1,e2,Bool.or_false]) (by rw [h1];simpa using h2) ⟨.str ⟨#[c]⟩,H,I.tok _,⟨_,rfl⟩,q⟩) hs
theorem slice_bounds (lo hi:Option Int)(n:Nat):(sliceBounds lo hi none n).1=((HT.sIx n 0 lo:Nat):Int)∧(sliceBounds lo hi none n).2.1=((HT.sIx n n hi:Nat):Int)∧(sliceBounds lo hi none n).2.2=1:=by
 refine ⟨?_,?_,rfl⟩
 ·cases lo with
  | none=>simp [sliceBounds,HT.sIx]
  | some i =>
   simp only [sliceBounds,HT.sIx,Option.getD_none,show (1:Int)>0 by decide,if_true]
   by_cases h:i<0
   ·simp only [h,if_true] <;> omega
   ·simp only [h,if_false] <;> omega
 ·cases hi with
  | none=>simp [sliceBounds,HT.sIx]
  | some i =>
   simp only [sliceBounds,HT.sIx,Option.getD_none,show (1:Int)>0 by decide,if_true]
   by_cases h:i<0
   ·simp only [h,if_true] <;> omega
   ·simp only [h,if_false] <;> omega
theorem slicePick_cut (its:List Value)(lo hi:Option Int):slicePick its.toArray lo hi none=((its.drop (HT.sIx its.length 0 lo)).take (HT.sIx its.length its.length hi-HT.sIx its.length 0 lo)).toArray:=by
 obtain ⟨h1,h2,h3⟩:=slice_bounds lo hi its.toArray.size
 unfold slicePick
 rw [h1,h2,h3]
 simp only [sliceRange_one,pick_run,List.size_toArray] <;> rfl
def rSlL (K:PySem.W.Frag):V->Option Int->Option Int->Hp->VK->Prop:=fun x lo hi H Q=>∃ a xs,x = .ref a∧SqL K H a xs∧∀ p,H p=none->Q (.ref p) (upd H p (.lst (cutV xs lo hi)))
theorem sl_list:SlR X (rSlL X.K):=by
 intro pins s σ H x v vl vu lo hi sl Q I rx hs pl pu h
 obtain ⟨a,xs,rfl,hx,q⟩:=h
 cases rx
 obtain ⟨its,r,ht,hz⟩:=I.list hx
 have hlen:=r.length
 refine ⟨"list",_,slot_list_getitem.lookup,ht.isList.typeIs,?_⟩
 refine wpAny_getItem_list_slice ht.isList hs pl pu .none (by simp) ?_ (by rw [List.size_toArray] <;> omega)
 rw [slicePick_cut,<- hlen]
 refine ⟨.ref s.heap.objs.size,_,I.laid (t':=s.toks) (o:=.lst (cutV xs lo hi)) (fun b ob q=>Heap.get?_push_of_some _ q) (Nat.le_refl _) ?_,rfl,q _ (I.hok.fresh (Nat.le_refl _))⟩
 exact ⟨Nat.le_trans (cutV_length xs lo hi) hz,_,0,(r.drop (HT.sIx xs.length 0 lo)).take (HT.sIx xs.length xs.length hi-HT.sIx xs.length 0 lo),Heap.get?_push_size _ rfl⟩
def flatV:V->Bool
 | .non=>true
 | .bl _=>true
 | .int _=>true
 | .str _=>true
 | _=>false
def eqV:V->V->Bool
 | .non,.non=>true
 | .bl a,.bl b=>a==b
 | .bl a,.int b=>(if a then 1 else 0)==b
 | .int a,.bl b=>a==(if b then 1 else 0)
 | .int a,.int b=>a==b
 | .str a,.str b=>a==b
 | _,_=>false
theorem eqAt_V {A:Around}{s:Shared}{y x:V}{u v:Value}(ry:RelV y u)(rx:RelV x v)(fy:flatV y=true)(fx:flatV x=true):SeqAt.EqAt A s u v (eqV y x):=by
 cases y with
 | non =>
  cases ry
  cases x with
  | non=>cases rx;exact SeqAt.EqAt.same _
  | bl b=>cases rx;exact SeqAt.EqAt.none_bool b
  | int b=>obtain ⟨t,rfl⟩:=rx;exact SeqAt.EqAt.none_int b t
  | str b=>obtain ⟨t,rfl⟩:=rx;exact SeqAt.EqAt.none_str b t
  | _=>exact absurd (show false=true from fx) Bool.false_ne_true
 | bl a =>
  cases ry
  cases x with
  | non=>cases rx;exact SeqAt.EqAt.bool_none a
  | bl b=>cases rx;exact SeqAt.EqAt.bool_bool a b
  | int b=>obtain ⟨t,rfl⟩:=rx;exact SeqAt.EqAt.bool_int a b t
  | str b=>obtain ⟨t,rfl⟩:=rx;exact SeqAt.EqAt.bool_str a b t
  | _=>exact absurd (show false=true from fx) Bool.false_ne_true
 | int a =>
  obtain ⟨t',rfl⟩:=ry
  cases x with
  | non=>cases rx;exact SeqAt.EqAt.int_none a t'
  | bl b=>cases rx;exact SeqAt.EqAt.int_bool a t' b
  | int b=>obtain ⟨t,rfl⟩:=rx;exact SeqAt.EqAt.int_int a t' b t
  | str b=>obtain ⟨t,rfl⟩:=rx;exact SeqAt.EqAt.int_str a t' b t
  | _=>exact absurd (show false=true from fx) Bool.false_ne_true
 | str a =>
  obtain ⟨t',rfl⟩:=ry
  cases x with
  | non=>cases rx;exact SeqAt.EqAt.str_none a t'
  | bl b=>cases rx;exact SeqAt.EqAt.str_bool a t' b
  | int b=>obtain ⟨t,rfl⟩:=rx;exact SeqAt.EqAt.str_int a t' b t
  | str b=>obtain ⟨t,rfl⟩:=rx;exact SeqAt.EqAt.str_str a t' b t
  | _=>exact absurd (show false=true from fx) Bool.false_ne_true
 | _=>exact absurd (show false=true from fy) Bool.false_ne_true
def eqU (x:V)(u:Value):Bool:=match u with
 | .none=>eqV .non x
 | .bool b=>eqV (.bl b) x
 | .int i _=>eqV (.int i) x
 | .str z _=>eqV (.str z) x
 | _=>false
theorem eqU_of {x y:V}{u:Value}(r:RelV y u)(f:flatV y=true):eqU x u=eqV y x:=by
 cases y with
 | non=>cases r;rfl
 | bl b=>cases r;rfl
 | int i=>obtain ⟨t,rfl⟩:=r;rfl
 | str z=>obtain ⟨t,rfl⟩:=r;rfl
 | _=>exact absurd (show false=true from f) Bool.false_ne_true
theorem any_eqU {x:V}:∀ {xs:List V} {us:List Value},Vals xs us->xs.all flatV=true->us.any (eqU x)=xs.any fun y=>eqV y x
 | _,_,.nil,_=>rfl
 | y::xs,u::us,.cons r t,f=>by
  rw [List.all_cons,Bool.and_eq_true] at f
  rw [List.any_cons,List.any_cons,eqU_of r f.1,any_eqU t f.2]
theorem mem_eqAt {A:Around}{s:Shared}{x:V}{v:Value}(rx:RelV x v)(fx:flatV x=true):∀ {xs:List V} {us:List Value},Vals xs us->xs.all flatV=true->∀ u∈us,SeqAt.EqAt A s u v (eqU x u)
 | _,_,.nil,_=>fun u hu=>by cases hu
 | y::xs,u::us,.cons r t,f=>fun u' hu=>by
  rw [List.all_cons,Bool.and_eq_true] at f
  rcases List.mem_cons.mp hu with rfl | hu
  ·rw [eqU_of r f.1];exact eqAt_V r rx f.1 fx
  ·exact mem_eqAt rx fx t f.2 u' hu
def inV (x:V)(xs:List V):Bool:=xs.any fun y=>eqV y x
def rIn (K:PySem.W.Frag)(neg:Bool):R2:=fun x y H Q=>∃ p xs,y = .ref p∧(SqL K H p xs∨SqT K H p xs)∧flatV x=true∧xs.all flatV=true∧Q (.bl (if neg then !inV x xs else inV x xs)) H
theorem op_in_seq:OpR X (compareOp .In) (rIn X.K false):=by
 intro pins s σ H x y v u Q I rx ry h
 obtain ⟨p,xs,rfl,hq,fx,fs,q⟩:=h
 cases ry
 rcases hq with hq | hq
 ·obtain ⟨its,r,pl,hz⟩:=I.list hq
  refine SeqAt.in_listAt (eqU x) pl.isList (fun w hw=>mem_eqAt rx fx r fs w (by simpa using hw)) ⟨.bl _,H,I,rfl,?_⟩
  rw [show its.toArray.any (eqU x)=its.any (eqU x) by simp,any_eqU r fs]
  exact q
 ·obtain ⟨its,r,pl,hz⟩:=I.tuple hq
  refine SeqAt.in_tupleAt (eqU x) pl (fun w hw=>mem_eqAt rx fx r fs w (by simpa using hw)) ⟨.bl _,H,I,rfl,?_⟩
  rw [show its.toArray.any (eqU x)=its.any (eqU x) by simp,any_eqU r fs]
  exact q
theorem op_notIn_seq:OpR X (compareOp .NotIn) (rIn X.K true):=by
 intro pins s σ H x y v u Q I rx ry h
 obtain ⟨p,xs,rfl,hq,fx,fs,q⟩:=h
 cases ry
 rcases hq with hq | hq
 ·obtain ⟨its,r,pl,hz⟩:=I.list hq
  refine SeqAt.notIn_listAt (eqU x) pl.isList (fun w hw=>mem_eqAt rx fx r fs w (by simpa using hw)) ⟨.bl _,H,I,rfl,?_⟩
  rw [show its.toArray.any (eqU x)=its.any (eqU x) by simp,any_eqU r fs]
  exact q
 ·obtain ⟨its,r,pl,hz⟩:=I.tuple hq
  refine SeqAt.notIn_tupleAt (eqU x) pl (fun w hw=>mem_eqAt rx fx r fs w (by simpa using hw)) ⟨.bl _,H,I,rfl,?_⟩
  rw [show its.toArray.any (eqU x)=its.any (eqU x) by simp,any_eqU r fs]
  exact q
theorem call_len_seq:CallR X (.builtin "len") (fun xs H Q=>∃ p ys,xs=[.ref p]∧(SqL X.K H p ys∨SqT X.K H p ys)∧Q (.int ys.length) H):=by
 intro pins s σ H xs us Q I r h
 obtain ⟨p,ys,rfl,hq,q⟩:=h
 obtain ⟨u,rfl,rx⟩:=vals1 r
 cases rx
 have hn:=line63
 rcases hq with hq | hq
 ·obtain ⟨its,r',pl,hz⟩:=I.list hq
  have hlen:=r'.length
  exact Calls.call_len_list pl.isList (by simp only [List.size_toArray] <;> omega) ⟨.int ys.length,H,I.tok _,⟨s.toks+1,by rw [List.size_toArray,hlen]⟩,q⟩
 ·obtain ⟨its,r',pl,hz⟩:=I.tuple hq
  have hlen:=r'.length
  exact len_tuple pl (by simp only [List.size_toArray] <;> omega) ⟨.int ys.length,H,I.tok _,⟨s.toks+1,by rw [List.size_toArray,hlen]⟩,q⟩
theorem call_len_str:CallR X (.builtin "len") (fun xs H Q=>∃ z,xs=[.str z]∧z.length<=sizeLine∧Q (.int z.length) H):=by
 intro pins s σ H xs us Q I r h
 obtain ⟨z,rfl,hz,q⟩:=h
 obtain ⟨u,rfl,t,rfl⟩:=vals1 r
 have hn:=line63
 exact len_str (by omega) ⟨.int z.length,H,I.tok _,⟨_,rfl⟩,q⟩
theorem call_tuple_of:CallR X (.type "tuple") (fun xs H Q=>∃ p ys,xs=[.ref p]∧((SqL X.K H p ys∧∀ l,H l=none->Q (.ref l) (upd H l (.tup ys)))∨(SqT X.K H p ys∧Q (.ref p) H))):=by
 intro pins s σ H xs us Q I r h
 obtain ⟨p,ys,rfl,h⟩:=h
 obtain ⟨u,rfl,rx⟩:=vals1 r
 cases rx
 rcases h with ⟨hq,q⟩ | ⟨hq,q⟩
 ·obtain ⟨its,r',pl,hz⟩:=I.list hq
  have hlen:=r'.length
  refine call_tuple_list pl.isList (fun h' kp=>?_) (by simp only [List.size_toArray] <;> omega)
  have I1:Inv X pins σ H { s with heap:=h' }:=I.kept (t':=s.toks) kp
  have I2:Inv X pins σ (upd H h'.objs.size (.tup ys)) { s with heap:=h'.push { cls:=.type "tuple",data:=.seq its.toArray } } :=
   I1.laid (t':=s.toks) (fun b o e=>Heap.get?_push_of_some _ e) (Nat.le_refl _) (show ObjOk X.prog X.w _ _ _ (.tup ys) from ⟨hz,its,r',IsTup.new _ _⟩)
  exact ⟨.ref h'.objs.size,_,I2,rfl,q _ (I1.hok.fresh (Nat.le_refl _))⟩
 ·obtain ⟨its,r',pl,hz⟩:=I.tuple hq
  exact call_tuple_same pl ⟨.ref p,H,I,rfl,q⟩
def tyV (K:PySem.W.Frag)(T:String)(x:V)(H:Hp):Prop:=match x with
 | .str _=>T = "str"
 | .int _=>T = "int"
 | .ref p=>(T = "list" ∧ ∃ xs,SqL K H p xs)∨(T = "tuple" ∧ ∃ o,K.lookup p=some o∧o.cls = .type "tuple" ∧ o.dict=none) ∨
  (T = "dict" ∧ ((∃ kvs,H p=some (.dK kvs))∨∃ kvs,H p=some (.dT kvs)))∨(T = "set" ∧ ∃ S n,H p=some (.set S n))
 | _=>False
theorem tyV_is {pins:List (Addr×Obj)}{σ:St}{H:Hp}{s:Shared}{T:String}{x:V}{v:Value}(I:Inv X pins σ H s)(r:RelV x v)(ty:tyV X.K T x H) :
  s.TypeIs v T∧∀ a,v = .ref a->∃ ob,s.heap.get? a=some ob∧ob.dict=none:=by
 cases x with
 | str z =>
  obtain ⟨t,rfl⟩:=r
  cases (show T = "str" from ty)
  exact ⟨typeIs_str s z t,fun _ e=>nomatch e⟩
 | int i =>
  obtain ⟨t,rfl⟩:=r
  cases (show T = "int" from ty)
  exact ⟨typeIs_int s i t,fun _ e=>nomatch e⟩
 | ref p =>
  cases r
  rcases ty with ⟨rfl,xs,hq⟩ | ⟨rfl,o,hk,hc,hd⟩ | ⟨rfl,hk⟩ | ⟨rfl,S,n,hk⟩
  ·obtain ⟨its,_,pl,_⟩:=I.list hq
   refine ⟨pl.isList.typeIs,fun a e=>?_⟩
   cases e
   obtain ⟨o,n,e,c,hd,_⟩:=pl
   exact ⟨o,e,hd⟩
  ·refine ⟨⟨o,I.kIn p o hk,hc⟩,fun a e=>?_⟩
   cases e
   exact ⟨o,I.kIn _ o hk,hd⟩
  ·have z:∃ o,s.heap.get? p=some o∧o.ExactDict:=by
    rcases hk with ⟨kvs,hk⟩ | ⟨kvs,hk⟩
    ·obtain ⟨_,_,_,_,o,_,_,e,ex,_⟩:=I.hok p _ hk
     exact ⟨o,e,ex⟩
    ·obtain ⟨_,_,_,_,o,_,_,e,ex,_⟩:=I.hok p _ hk
     exact ⟨o,e,ex⟩
   obtain ⟨o,e,ex⟩:=z
   refine ⟨⟨o,e,ex.1⟩,fun a e2=>?_⟩
   cases e2
   exact ⟨o,e,ex.2.1⟩
  ·obtain ⟨o,_,_,_,e,ex,_⟩:=I.hok p _ hk
   refine ⟨⟨o,e,ex.1⟩,fun a e2=>?_⟩
   cases e2
   exact ⟨o,e,ex.2.1⟩
 | _=>exact False.elim ty
def tBM (K:PySem.W.Frag)(T:String)(r:V->List V->Hp->VK->Prop)(to:TE)(t:TA):TE:=fun σ H Q=>to σ H fun x H1=>tyV K T x H1∧t σ H1 fun xs H2=>r x xs H2 Q
variable {o e:Expr}{es:List Expr}{to:TE}{t:TA}{name:Str}{apos cpos:Pos}{T id:String}{r:V->List V->Hp->VK->Prop}
theorem pe_bm (pa:PlainAttrs T)(slot:Slot T name id)(hty:typeOf (.builtin id)=pure (.type "method_descriptor"))(hm:MtR X id r)(ho:PE X o to)(ha:PA X (e::es) t)
  (hbase:attributeBase o name X.env (eval o X.env)=eval o X.env:=by rfl)
  (hfew:((backTo cpos (starEach (e::es) X.env)).all (fun x=>!x.1)&&(backToKw cpos (keywordEach [] X.env)).all (fun x=>x.1.isSome)
   && decide ((e::es).length+([]:List Keyword).length+(if ([]:List Keyword).isEmpty then 0 else 1)<30))=true:=by rfl)
  (hline:(apos.endLine==cpos.line)=true:=by rfl) (hs:starEach (e::es) X.env=(false,eval e X.env)::starEach es X.env:=by rfl) (hplain:(backTo cpos (starEach es X.env)).any (·.1)=false:=by rfl) :
  PE X (.Call (.Attribute o name apos) (e::es) [] cpos) (tBM X.K T r to t):=by
 intro pins s σ H Q I h
 refine wpAny_Call_method_late hbase hfew hline rfl (thn (ho pins s σ H _ I h) fun v s1 ⟨x,H1,I1,r1,ty,q1⟩=>?_)
 obtain ⟨h1,h2⟩:=tyV_is I1 r1 ty
 refine ⟨T,id,pa,slot,hty,h1,h2,?_⟩
 have hA:=ha cpos pins s1 σ H1 _ I1 q1
 rw [hs] at hA ⊢
 refine Calls.callWith_builtin (by show (false||(backTo cpos (starEach es X.env)).any (·.1))=false;rw [hplain] <;> rfl) (Calls.evalArgs_plain ?_)
 exact thn hA fun us s2 ⟨vs,H2,I2,r2,q2⟩=>hm pins s2 σ H2 x vs v us Q I2 r1 r2 q2
end
end L2
namespace L2
open PySem PySem.Spec PyProof.Rows
def MtM (X:Cx)(id:String)(r:V->List V->Hp->VK->Prop):Prop :=
 ∀ (pins:List (Addr×Obj)) (s:Shared) (σ:St) (H:Hp) (x:V) (xs:List V) (v:Value) (us:List Value) (Q:VK),Inv X pins σ H s->RelV x v->Vals xs us->r x xs H Q ->
  wpAny (model X.prog X.w) X.A (call (.builtin id) (v::us)) (EP X pins σ Q) X.xe s
theorem Vals.one:∀ {x:V} {us:List Value},Vals [x] us->∃ u,us=[u]∧RelV x u
 | _,_,.cons r .nil=>⟨_,rfl,r⟩
theorem Vals.reverse {xs:List V}{us:List Value}(h:Vals xs us):Vals xs.reverse us.reverse:=by
 induction h with
 | nil=>exact .nil
 | cons r t ih=>rw [List.reverse_cons,List.reverse_cons];exact Vals.append ih (.cons r .nil)
section
variable {X:Cx}{pins:List (Addr×Obj)}{σ:St}{H:Hp}{s:Shared}{l b:Addr}{xs ys zs:List V}
theorem Inv.lset {its its':List Value}{n:Nat}{f:Array Value->Array Value}{t':Nat}(I:Inv X pins σ H s)(hH:H l=some (.lst xs))
  (e:s.heap.get? l=some { cls:=.type "list",data:=.seq its.toArray n }) (hf:f its.toArray=its'.toArray) (hv:Vals ys its') (hz:ys.length<=sizeLine) :
  Inv X pins σ (upd H l (.lst ys)) { s with heap:=s.heap.update l (Obj.mapSeq f),toks:=t' }:=by
 have q:=PySem.IsL.update e f
 rw [hf] at q
 refine I.write (x:=l) (e:=l) (by rw [hH];exact trivial) (.inl rfl) (fun b' u hb hu=>(Heap.get?_update_other s.heap (Obj.mapSeq f) (Ne.symm hb)).trans hu) ⟨_,q⟩ ?_
 exact ⟨hz,its',_,hv,q⟩
theorem Inv.lnew {its:List Value}{t':Nat}(I:Inv X pins σ H s)(hv:Vals ys its)(hz:ys.length<=sizeLine) :
  Inv X pins σ (upd H s.heap.objs.size (.lst ys)) { s with heap:=s.heap.push { cls:=.type "list",data:=.seq its.toArray },toks:=t' } :=
 I.laid (fun _ _ q=>Heap.get?_push_of_some _ q) (Nat.le_refl _) ⟨hz,its,0,hv,Heap.get?_push_size _ rfl⟩
theorem Inv.fresh (I:Inv X pins σ H s):H s.heap.objs.size=none:=I.hok.fresh (Nat.le_refl _)
theorem Inv.lstM (I:Inv X pins σ H s)(hH:H l=some (.lst xs)):xs.length<=sizeLine∧∃ (its:List Value) (n:Nat),Vals xs its∧xs.length=its.length∧s.heap.get? l=some { cls:=.type "list",data:=.seq its.toArray n }:=by
 obtain ⟨z,its,n,r,e⟩:=I.hok l _ hH
 exact ⟨z,its,n,r,r.length,e⟩
theorem notLongL {n:Nat}(h:n<=sizeLine):Builtin.List.listTooLong n=false:=by
 unfold Builtin.List.listTooLong
 exact decide_eq_false (by omega)
end
section
variable {X:Cx}
def rAppend:V->List V->Hp->VK->Prop:=fun x vs H Q=>∃ l xs y,x = .ref l∧vs=[y]∧H l=some (.lst xs)∧xs.length<sizeLine∧Q .non (upd H l (.lst (xs++[y])))
theorem mt_append:MtM X "list.append" rAppend:=by
 intro pins s σ H x vs v us Q I rx rv h
 obtain ⟨l,xs,y,rfl,rfl,hH,hz,q⟩:=h
 cases rx
 obtain ⟨u,rfl,ru⟩:=rv.one
 obtain ⟨z,its,n,r,hl,e⟩:=I.lstM hH
 refine call_meets F.slot_list_append ⟨_,e,rfl⟩ F.entry_list_append (F.args_list_append_2 _ _) (PySem.list_append l its.toArray n u (by rw [List.size_toArray];omega)) ⟨e,?_⟩
 refine ⟨.non,_,I.lset (its':=its++[u]) hH e (by simp) (r.append (.cons ru .nil)) ?_,rfl,q⟩
 rw [List.length_append,List.length_singleton]
 omega
def rExtend:V->List V->Hp->VK->Prop:=fun x vs H Q=>∃ l b xs zs,x = .ref l∧vs=[.ref b]∧H l=some (.lst xs)∧H b=some (.lst zs)∧xs.length+zs.length<=sizeLine∧Q .non (upd H l (.lst (xs++zs)))
theorem mt_extend:MtM X "list.extend" rExtend:=by
 intro pins s σ H x vs v us Q I rx rv h
 obtain ⟨l,b,xs,zs,rfl,rfl,hH,hB,hz,q⟩:=h
 cases rx
 obtain ⟨u,rfl,ru⟩:=rv.one
 cases ru
 obtain ⟨z,its,n,r,hl,e⟩:=I.lstM hH
 obtain ⟨z2,its2,n2,r2,hl2,e2⟩:=I.lstM hB
 have hsz:its.toArray.size+its2.toArray.size<=sizeLine:=by rw [List.size_toArray,List.size_toArray];omega
 have hlong:¬ (!its.toArray.isEmpty&&Builtin.List.listTooLong (its.toArray.size+its2.toArray.size))=true:=by
  rw [notLongL hsz,Bool.and_false]
  exact Bool.false_ne_true
 refine call_meets F.slot_list_extend ⟨_,e,rfl⟩ F.entry_list_extend (F.args_list_extend_2 _ _)
  (AutoSeq1.list_extend_list_list_0 l its.toArray n b its2.toArray n2 hlong (by rw [List.size_toArray];omega) (by omega)) ⟨e,e2,?_⟩
 refine ⟨.non,_,I.lset (its':=its++its2) hH e (by simp) (r.append r2) ?_,rfl,q⟩
 rw [List.length_append]
 omega
end
section
variable {prog:Program}{w:World}{A:Around}{E:Value->Shared->Prop}{s:Shared}
end
section
variable {X:Cx}
end
end L2
namespace Att
open PySem PySem.W PySem.Calls PyProof.Rows
theorem ints_of_wellAll {P:Params}{h:Heap}:∀ (ns:List Int) (vs:List Value),WellAll P h vs (ns.map WData.int)->IntsAre vs ns:=by
 intro ns
 induction ns with
 | nil =>
  intro vs w
  rw [List.map_nil] at w
  cases w
  exact .nil
 | cons n ns ih =>
  intro vs w
  rw [List.map_cons] at w
  cases w with
  | cons a b =>
   cases a
   exact .cons _ _ (ih _ b)
theorem script_of {l:OpenLaw}{n:Nat}(hn:l.most=some n){P:Params}{h:Heap}{args:List WData}{vals:List Value}
  (hpre:l.row.toRowW.claim.pre args=true) (hwl:WellAll P h vals args) :
  ∃ a vs ns,vals=[Value.ref a]∧args=[WData.list (ns.map WData.int)]∧h.get? a=some { cls:=.type "list",data:=.seq vs.toArray }∧IntsAre vs ns∧ns.length<=n:=by
 have hsh:WShape.hasAll [] args [.list .int]=true:=(pre_splitW hpre).1
 have hc:l.pre.holds [] { args:=args }=true:=(pre_splitW hpre).2
 obtain ⟨d,r,rfl,h1,h2⟩:=hasAllW_cons hsh
 obtain rfl:=hasAllW_nil h2
 obtain ⟨xs,rfl,h3⟩:=hasW_list h1
 obtain ⟨ns,rfl⟩:=items_int h3
 have hlen:ns.length<=n:=by
  unfold OpenLaw.pre at hc
  have h4:(WTm.not (.lt (.lit (.int (n:Int))) (.len (.arg 0)))).holds [] { args:=[.list (ns.map .int)] }=true:=by
   have h4:=(holds_andW hc).1
   rw [hn] at h4
   exact h4
  have h5:=condW_of h4 (w_not (w_lt w_lit (w_len_list (w_arg rfl))))
  rw [List.length_map] at h5
  refine Nat.le_of_not_lt fun q=>?_
  have q':(n:Int)<((ns.length:Nat):Int):=by omega
  first
   | (rw [decide_eq_true q'] at h5;exact absurd h5 (by decide))
   | (simp at h5;omega)
 cases hwl with
 | cons w1 w2 =>
  cases w2
  cases w1 with
  | list ho hall=>exact ⟨_,_,ns,rfl,rfl,ho,ints_of_wellAll ns _ hall,hlen⟩
theorem post_true (l:OpenLaw)(args:List WData):l.row.toRowW.claim.post args (.bool true) args=true :=
 postW_of (r:=l.row.toRowW) (X:=(true==true))
  (show WShape.has [] (.bool true) .bool=true by first | rfl | decide | simp [WShape.has,WShape.arms,WShape.armsAll])
  (show (WTm.eq .res (.lit (.bool true))).value [] { args:=args,res:=some (.bool true),after:=args }=some (.bool (true==true)) from w_eq_bool (w_res rfl) w_lit) rfl
theorem attach_call {l:OpenLaw}{n:Nat}{q:Program}{loose:List Str}{XP:(Str->Option Value)->Heap->Prop}{YP:World->Heap->Prop}{d:DefRec}
  (hn:l.most=some n) (hdf:d.params.defaults=[])
  (call:∀ (w:World) (s₀ s₁:Shared) (mg mb:Str->Option Value) (fa:Addr) (o:Obj) (pm cd doc:Value) (a:Addr) (vs:List Value) (ns:List Int),
   Ground q loose [] XP w s₀ mg mb s₁.heap->YP w s₁.heap ->
   s₁.heap.get? fa=some o->o.data = .func (docDef d.name d.params d.body d.scope pm cd doc)->s₁.heap.CodeRec cd d.name->mg d.name=some (.ref fa) ->
   s₁.heap.get? a=some { cls:=.type "list",data:=.seq vs.toArray }->IntsAre vs ns->ns.length<=n->s₁.gens = #[] ->
   codeAny (model l.prog w) callerA (.call (.ref fa) ⟨[.ref a],[]⟩) (fun r s'=>r = .ok (.ret (.bool true))∧OldK s₁.heap s'.heap∧s'.os=s₁.os∧AllBare s'.gens) s₁) :
  WalkO q loose XP YP l.row.toRowW d [] (fun f vs=>PySem.call f vs):=by
 intro w s₀ s₁ mg mb G Y fa o pm cd doc dV kV ho hd hcd hD hmg hg args vals as hpre hlay hrd hwl hlo
 obtain rfl:dV = .none:=Dflts.none hD hdf
 obtain rfl:kV = .none:=Dflts.noKw hD
 obtain ⟨a,vs,ns,rfl,rfl,hobj,hints,hlen⟩:=script_of hn hpre hwl
 refine enter_call (codeAny_mono (call w s₀ s₁ mg mb fa o pm cd doc a vs ns G Y ho (fd_plain hd) hcd hmg hobj hints hlen hg) fun r s' hq=>?_)
 obtain ⟨rfl,h2,h3,h4⟩:=hq
 exact ⟨.inl ⟨.bool true,.bool true,[],rfl,fun _=>rfl,.bool true,post_true l _,fun _=>⟨List.Pairwise.nil,fun _ hm=>(nomatch hm)⟩⟩,h2,h3,h4⟩
section
variable {prog:Program}{w:World}{A:Around}{E:Value->Shared->Prop}{s:Shared}{K:Frag}
end
end Att
namespace L2
open PySem PySem.Spec PyProof.Rows
theorem vals_ints:∀ {vs:List Value} {ns:List Int},IntsAre vs ns->Vals (ns.map V.int) vs
 | _,_,.nil=>.nil
 | _,_,.cons n t h=>.cons ⟨t,rfl⟩ (vals_ints h)
def Only (H:Hp):Prop:=∀ b,H b=none∨∃ o xs,H b=some (.frz o (.lst xs))
theorem law_call {P:Program}{w:World}{K:PySem.W.Frag}{mg mb:Str->Option Value}{CX:CXT}{k:Nat}{fa a:Addr}{fd:FuncData}{x:Str}{sp:Sp}{s₁:Shared}{vs:List Value}{ns:List Int}
  (KX:K.In s₁.heap) (hns:s₁.heap.Ns mainGlobals mg) (hb:s₁.heap.Ns builtinsNs mb) (hbb:∀ x:Str,x ≠ "__name__" -> mb x=bootBuiltins x) (hlim:s₁.heap.NoLimit) (hg:s₁.gens = #[])
  (ha:s₁.heap.get? a=some { cls:=.type "list",data:=.seq vs.toArray }) (hi:IntsAre vs ns) (hl:ns.length<=sizeLine) (hr:Room k callerA)
  (F:∀ base:Heap,K.In base->base.Ns mainGlobals mg->FnOk P w K mg base CX k fa fd [x] sp) (hbind:∀ (s:Shared) (u:Value),BindsTo s fd ⟨[u],[]⟩ [(x,u)])
  (hsp:∀ H:Hp,Only H->SqL K H a (ns.map V.int)->sp [.ref a] H (fun v _=>v = .bl true) fun _ _ _=>False)
  (hCX:∀ H e s',CX [] H s₁ (fun _ _ _=>False) e s'->False) :
  codeAny (model P w) callerA (.call (.ref fa) ⟨[.ref a],[]⟩) (fun r s'=>r = .ok (.ret (.bool true))∧OldK s₁.heap s'.heap∧s'.os=s₁.os∧AllBare s'.gens) s₁:=by
 have rv:=vals_ints hi
 have lenV:=hi.length
 have core:∀ H:Hp,Only H->SqL K H a (ns.map V.int)->HOk P w H s₁.heap->(∀ b,H b≠none->b=a)->(H a≠none->K.lookup a=none) ->
   codeAny (model P w) callerA (.call (.ref fa) ⟨[.ref a],[]⟩) (fun r s'=>r = .ok (.ret (.bool true))∧OldK s₁.heap s'.heap∧s'.os=s₁.os∧AllBare s'.gens) s₁:=by
  intro H hO hS hok hA hK
  have base_of:∀ {b:Addr} {o:Obj},s₁.heap.get? b=some o->H b=none->(hidT s₁.heap H).get? b=some o:=fun e n=>hidT_get e n
  have noA:∀ {b:Addr} {o:Obj} {es:Array DictEntry} {ep:Nat},s₁.heap.get? b=some o->o.data = .dict es ep->H b=none:=fun {b o es ep} e d=>by
   cases q:H b with
   | none=>rfl
   | some u =>
    have e':b=a:=hA b (by rw [q];simp)
    subst e'
    rw [ha] at e;cases e
    have d':Data.seq vs.toArray _=Data.dict es ep:=d
    cases d'
  have nsK:∀ {b:Addr} {m:Str->Option Value},s₁.heap.Ns b m->(hidT s₁.heap H).Ns b m:=fun {b m} ⟨o,es,ep,e,d,r⟩=>⟨o,es,ep,base_of e (noA e d),d,r⟩
  have hKb:K.In (hidT s₁.heap H):=fun b o e=>base_of (KX b o e) (by
   cases q:H b with
   | none=>rfl
   | some u =>
    have e':b=a:=hA b (by rw [q];simp)
    subst e'
    rw [hK (by rw [q];simp)] at e;cases e)
  have hM:Mod K mg (hidT s₁.heap H):=⟨hKb,nsK hns,⟨mb,nsK hb,hbb⟩,let ⟨mc,h1,h2⟩:=hlim;⟨mc,nsK h1,h2⟩⟩
  have e0:Env0 P w K mg (hidT s₁.heap H) callerA [] s₁ H:=⟨rfl,hM,fun b o e=>of_hidT e,Nat.le_of_eq (hidT_size _ _),trivial,fun b hb=>absurd (show b∈([]:List Addr) from hb) (by simp),hok,.of_eq hg⟩
  refine codeAny_mono ((F _ hKb (nsK hns)).run callerA [] s₁ H ⟨[.ref a],[]⟩ [.ref a] [.ref a] _ _ hr e0 (hbind s₁ (.ref a)) (.cons rfl .nil) (hsp H hO hS)) fun r s' h=>?_
  cases r with
  | error e=>exact (hCX H e s' h).elim
  | ok fl =>
   cases fl with
   | next=>exact False.elim h
   | brk=>exact False.elim h
   | cont=>exact False.elim h
   | ret u =>
    obtain ⟨v,H',os,bare,un,hok',r',q⟩:=h
    have q':v = .bl true:=q
    subst q'
    obtain rfl:u=Value.bool true:=r'
    refine ⟨rfl,OldK.of_keep fun b o e=>?_,os,bare⟩
    cases q:H b with
    | none=>exact un.keep b o e q (by intro z;exact absurd (show b∈([]:List Addr) from z) (by simp)) (by simp)
    | some u =>
     rcases hO b with z | ⟨ob,xs,z⟩
     ·rw [q] at z;cases z
     ·have z2:=un.frzs b ob _ z
      obtain ⟨e1,_⟩:=hok b _ z
      obtain ⟨e2,_⟩:=hok' b _ z2
      rw [e] at e1;cases e1
      exact e2
 cases hk:K.lookup a with
 | some o =>
  have e:=KX a o hk
  rw [ha] at e
  cases e
  refine core (fun _=>none) (fun _=>.inl rfl) (.inr ⟨_,vs.toArray,_,hk,rfl,rfl,rfl,by rw [List.size_toArray,lenV];exact hl,by simpa using rv⟩) (fun b u z=>by have z':(none:Option HO)=some u:=z;cases z') (fun b z=>absurd rfl z) fun z=>absurd rfl z
 | none =>
  refine core (fun b=>if b=a then some (.frz { cls:=.type "list",data:=.seq vs.toArray } (.lst (ns.map V.int))) else none) (fun b=>?_) (.inl (.inr ⟨{ cls:=.type "list",data:=.seq vs.toArray },if_pos rfl⟩)) (fun b u z=>?_) (fun b z=>?_) fun _=>hk
  ·by_cases hb:b=a
   ·exact .inr ⟨_,_,if_pos hb⟩
   ·exact .inl (if_neg hb)
  ·by_cases hb:b=a
   ·have z':=(if_pos hb).symm.trans z
    cases z'
    subst hb
    exact ⟨ha,by rw [List.length_map];exact hl,vs,_,rv,ha⟩
   ·have z':=(if_neg hb).symm.trans z
    cases z'
  ·by_cases hb:b=a
   ·exact hb
   ·exact absurd (if_neg hb) z
end L2
namespace L2
open PySem PySem.Spec PyProof.Rows
theorem walk_of {l:PySem.W.OpenLaw}{n k:Nat}{q:Program}{loose:List Str}{XP:(Str->Option Value)->Heap->Prop}{YP:World->Heap->Prop}{d:DefRec}{K:Params->PySem.W.Frag}{CX:World->CXT}{sp:World->Sp}{x:Str}
  (hn:l.most=some n) (hn2:n<=sizeLine) (hdf:d.params.defaults=[]) (hr:Room k callerA)
  (hY:∀ (w:World) (h:Heap),YP w h->(K w.params).In h)
  (F:∀ (w:World) (mg:Str->Option Value) (fa:Addr) (h:Heap),(K w.params).In h->h.Ns mainGlobals mg->mg d.name=some (.ref fa) ->
   ∃ fd:FuncData,(∀ (s:Shared) (u:Value),BindsTo s fd ⟨[u],[]⟩ [(x,u)]) ∧
    ∀ base:Heap,(K w.params).In base->base.Ns mainGlobals mg->FnOk l.prog w (K w.params) mg base (CX w) k fa fd [x] (sp w))
  (hsp:∀ (w:World) (H:Hp) (a:Addr) (ns:List Int),ns.length<=n->Only H->SqL (K w.params) H a (ns.map V.int)->sp w [.ref a] H (fun v _=>v = .bl true) fun _ _ _=>False)
  (hCX:∀ (w:World) (H:Hp) (s:Shared) (e:Value) (s':Shared),CX w [] H s (fun _ _ _=>False) e s'->False) :
  PySem.W.WalkO q loose XP YP l.row.toRowW d [] (fun f vs=>PySem.call f vs):=by
 refine Att.attach_call hn hdf fun w s₀ s₁ mg mb fa o pm cd doc a vs ns G Y ho hd hcd hmg hobj hints hlen hg=>?_
 have KX:=hY w _ Y
 obtain ⟨fd,hb,hF⟩:=F w mg fa _ KX G.T.g hmg
 exact law_call KX G.T.g G.T.b G.T.builtins G.T.nolimit hg hobj hints (Nat.le_trans hlen hn2) hr hF hb (fun H hO hS=>hsp w H a ns hlen hO hS) fun H e s'=>hCX w H s₁ e s'
end L2
namespace L2
open PySem PySem.Spec PyProof.Rows
def inClass (s:Stmt)(j:Nat):Stmt:=match s with
 | .ClassDef _ _ _ body _ _ _ _ _ _ _=>body.getD j (.Pass ⟨0,0,0,0⟩)
 | _=>.Pass ⟨0,0,0,0⟩
def defArgs (s:Stmt):Arguments:=match s with
 | .FunctionDef _ a _ _ _ _ _ _ _ _=>a
 | _=>{ posonlyargs:=[],args:=[],vararg:=none,kwonlyargs:=[],kw_defaults:=[],kwarg:=none,defaults:=[] }
def defBody (s:Stmt):List Stmt:=match s with
 | .FunctionDef _ _ b _ _ _ _ _ _ _=>b
 | _=>[]
def defScope (s:Stmt):Scope:=match s with
 | .FunctionDef _ _ _ _ _ _ sc _ _ _=>sc
 | _=>{ kind:=.function,names:=[],isGenerator:=false,isCoroutine:=false }
abbrev E0:XK:=fun _ _ _=>False
set_option genInjectivity false in
structure Fun (K:PySem.W.Frag)(x qual:Str)(st:Stmt)(f:Addr)(fd:FuncData):Prop where
 ex:∃ (oc:Value) (od:Option Addr) (kV doc pm:Value) (an:Option Addr) (cdv ct:Value) (osl:Array (Option Value)),
  fd=PySem.W.fnOf x qual (defArgs st) (defBody st) (defScope st) .none kV doc pm an cdv ct∧K.lookup f=some ⟨oc,od,.func fd,osl⟩∧PySem.W.codeIn K cdv qual=true
 kp:PySem.W.keepIn K (.ref f)=true
section
variable {P:Program}{w:World}{K:PySem.W.Frag}{mg:Str->Option Value}{base:Heap}
theorem Fun.binds {x qual:Str}{st:Stmt}{f:Addr}{fd:FuncData}{ps:List Str}(F:Fun K x qual st f fd)
  (h:∀ (kV doc pm:Value) (an:Option Addr) (cdv ct:Value) (us:List Value),us.length=ps.length->bindArgs (PySem.W.fnOf x qual (defArgs st) (defBody st) (defScope st) .none kV doc pm an cdv ct) ⟨us,[]⟩=pure (ps.zip us)):Binds K fd ps []:=by
 obtain ⟨oc,od,kV,doc,pm,an,cdv,ct,osl,rfl,lk,hcd⟩:=F.ex
 exact .all (h kV doc pm an cdv ct)
theorem fun_mk {x qual:Str}{st:Stmt}{f:Addr}{oc:Value}{od an:Option Addr}{osl:Array (Option Value)}{kV doc pm cdv ct:Value}(l:K.lookup f=some ⟨oc,od,.func (PySem.W.fnOf x qual (defArgs st) (defBody st) (defScope st) .none kV doc pm an cdv ct),osl⟩)
 (c:PySem.W.codeIn K cdv qual=true) (k:PySem.W.keepIn K (.ref f)=true):Fun K x qual st f (PySem.W.fnOf x qual (defArgs st) (defBody st) (defScope st) .none kV doc pm an cdv ct):=⟨⟨oc,od,kV,doc,pm,an,cdv,ct,osl,rfl,l,c⟩,k⟩
end
theorem hu_of {A:Around}{k:Nat}(hr:Room k A):A.units+1<cLine:=Nat.lt_of_le_of_lt (Nat.add_le_add_left (by decide:1<=64) _) hr.units
section
variable {X:Cx}
theorem pv (i:Nat){x:Str}{pos:Pos}(hN:X.N[i]?=some x:=by rfl)(hv:Vis X.env.scope x:=by first | exact Or.inl rfl | exact Or.inr (Or.inl rfl) | exact Or.inr (Or.inr rfl))(hd:(x==("__debug__" : Str))=false:=by decide)
 (hcd:(x==("__classdict__" : Str))=false:=by decide):PE X (.Name x pos) (tVar i):=pe_var hN hv hd hcd
end
theorem iteF {A B:Prop}(h:B):if false=true then A else B:=by
 rw [if_neg Bool.false_ne_true]
 exact h
theorem iteT {A B:Prop}(h:A):if true=true then A else B:=by
 rw [if_pos rfl]
 exact h
theorem ite2 {c A B:Prop}[Decidable c](h1:c->A)(h2:¬ c->B):if c then A else B:=by
 by_cases h:c
 ·rw [if_pos h]
  exact h1 h
 ·rw [if_neg h]
  exact h2 h
theorem iteNS {c A B:Prop}[Decidable c](hc:c)(h:B):if (!decide c)=true then A else B:=by
 rw [decide_eq_true hc]
 exact iteF h
def Same (H H':Hp):Prop:=∀ b o,H b=some o->H' b=some o
theorem Same.refl (H:Hp):Same H H:=fun _ _ h=>h
theorem Same.trans {H H1 H2:Hp}(a:Same H H1)(b:Same H1 H2):Same H H2:=fun c o h=>b c o (a c o h)
theorem Same.seq {K:PySem.W.Frag}{H H':Hp}{a:Addr}{xs:List V}(e:Same H H')(h:SqL K H a xs):SqL K H' a xs:=by
 rcases h with (h | ⟨o,h⟩) | h
 ·exact .inl (.inl (e _ _ h))
 ·exact .inl (.inr ⟨o,e _ _ h⟩)
 ·exact .inr h
end L2
namespace Wd
abbrev W:=List Nat
theorem ltt {a b c:W}(h:a<b)(h':b<c):a<c:=List.lt_trans h h'
theorem ltir (a:W):¬ a<a:=List.lt_irrefl a
theorem tri {a b:W}(h:¬ a<b)(h':¬ b<a):a=b:=List.le_antisymm (List.not_lt.mp h') (List.not_lt.mp h)
theorem lele {a b c:W}(h:¬ b<a)(h':¬ c<b):¬ c<a:=fun hc=>List.not_lt.mpr (List.le_trans (List.not_lt.mp h) (List.not_lt.mp h')) hc
theorem ltle {a b c:W}(h:a<b)(h':¬ c<b):a<c:=by
 apply Classical.byContradiction
 intro hc
 exact lele h' hc h
def rot (k:Nat)(w:W):W:=w.drop k++w.take k
theorem rot_zero (w:W):rot 0 w=w:=by simp [rot]
theorem rot_length (k:Nat)(w:W):(rot k w).length=w.length:=by
 unfold rot
 rw [List.length_append,List.length_drop,List.length_take]
 omega
theorem rot_get {k i:Nat}{w:W}(hk:k<=w.length)(hi:i<w.length):(rot k w)[i]?=w[(k+i) % w.length]?:=by
 unfold rot
 by_cases h:i<w.length-k
 ·rw [List.getElem?_append_left (by rw [List.length_drop];exact h),List.getElem?_drop,Nat.mod_eq_of_lt (by omega)]
 ·rw [List.getElem?_append_right (by rw [List.length_drop];omega),List.length_drop,List.getElem?_take_of_lt (by omega)]
  have e:(k+i) % w.length=i-(w.length-k):=by
   rw [Nat.mod_eq_sub_mod (by omega),Nat.mod_eq_of_lt (by omega)]
   omega
  rw [e]
theorem ext_get {a b:W}(hl:a.length=b.length)(h:∀ i,i<a.length->a[i]?=b[i]?):a=b:=by
 apply List.ext_getElem? 
 intro i
 by_cases hi:i<a.length
 ·exact h i hi
 ·rw [List.getElem?_eq_none (by omega),List.getElem?_eq_none (by omega)]
theorem rot_rot {j k:Nat}{w:W}(hj:j<w.length)(hk:k<w.length):rot j (rot k w)=rot ((j+k) % w.length) w:=by
 have hp:0<w.length:=by omega
 apply ext_get
 ·rw [rot_length,rot_length,rot_length]
 ·intro i hi
  rw [rot_length,rot_length] at hi
  rw [rot_get (by rw [rot_length];omega) (by rw [rot_length];exact hi),rot_length,
   rot_get (Nat.le_of_lt hk) (Nat.mod_lt _ hp),rot_get (Nat.le_of_lt (Nat.mod_lt _ hp)) hi]
  congr 1
  rw [Nat.add_mod_mod,Nat.mod_add_mod]
  congr 1
  omega
def bestTo (w:W):Nat->Nat
 | 0=>0
 | n+1=>if rot (n+1) w<rot (bestTo w n) w then n+1 else bestTo w n
def turnBy (w:W):Nat:=bestTo w (w.length-1)
def leastTo (w:W):Nat->W
 | 0=>w
 | n+1=>if rot (n+1) w<leastTo w n then rot (n+1) w else leastTo w n
def least (w:W):W:=leastTo w (w.length-1)
theorem best_le (w:W):∀ n,bestTo w n<=n
 | 0=>Nat.le_refl _
 | n+1=>by
  have:=best_le w n
  unfold bestTo
  split <;> omega
theorem leastTo_eq (w:W):∀ n,leastTo w n=rot (bestTo w n) w
 | 0=>by rw [leastTo,bestTo,rot_zero]
 | n+1=>by
  rw [leastTo,bestTo,leastTo_eq w n]
  split <;> rfl
theorem least_eq (w:W):least w=rot (turnBy w) w:=leastTo_eq w _
theorem best_min (w:W):∀ n j,j<=n->¬ rot j w<rot (bestTo w n) w
 | 0,j,h=>by
  have:j=0:=by omega
  subst this
  exact ltir _
 | n+1,j,h=>by
  unfold bestTo
  by_cases hj:j=n+1
  ·subst hj
   split
   ·exact ltir _
   ·rename_i h1;exact h1
  ·have ih:=best_min w n j (by omega)
   split
   ·rename_i h1
    exact fun h2=>ih (ltt h2 h1)
   ·exact ih
theorem best_first (w:W):∀ n j,j<bestTo w n->rot (bestTo w n) w<rot j w
 | 0,j,h=>by rw [bestTo] at h;omega
 | n+1,j,h=>by
  unfold bestTo at h ⊢
  split at h
  ·rename_i h1
   rw [if_pos h1]
   exact ltle h1 (best_min w n j (by omega))
  ·rename_i h1
   rw [if_neg h1]
   exact best_first w n j h
theorem turnBy_lt {w:W}(h:0<w.length):turnBy w<w.length:=by
 have:=best_le w (w.length-1)
 unfold turnBy
 omega
theorem turnBy_min {w:W}{j:Nat}(h:j<w.length):¬ rot j w<rot (turnBy w) w:=best_min w _ j (by omega)
theorem turnBy_first {w:W}{j:Nat}(h:j<turnBy w):rot (turnBy w) w<rot j w:=best_first w _ j h
theorem isLeast_iff (w:W):turnBy w=0↔w=least w:=by
 constructor
 ·intro h
  rw [least_eq,h,rot_zero]
 ·intro h
  rcases Nat.eq_zero_or_pos (turnBy w) with h0 | h0
  ·exact h0
  ·have h1:=turnBy_first (w:=w) h0
   rw [<- least_eq,rot_zero,<- h] at h1
   exact absurd h1 (ltir _)
theorem least_mem {w:W}(h:0<w.length):∃ i,i<w.length∧least w=rot i w:=⟨turnBy w,turnBy_lt h,least_eq w⟩
theorem least_min {w:W}{j:Nat}(h:j<w.length):¬ rot j w<least w:=by
 rw [least_eq]
 exact turnBy_min h
theorem least_rot {w:W}{m:Nat}(h:m<w.length):least (rot m w)=least w:=by
 have hp:0<w.length:=by omega
 obtain ⟨i,hi,ei⟩:=least_mem (w:=rot m w) (by rw [rot_length];exact hp)
 obtain ⟨j,hj,ej⟩:=least_mem hp
 rw [rot_length] at hi
 apply tri
 ·rw [ei,rot_rot hi h]
  exact least_min (Nat.mod_lt _ hp)
 ·have e:least w=rot ((j+(w.length-m)) % w.length) (rot m w):=by
   rw [rot_rot (Nat.mod_lt _ hp) h,ej]
   congr 1
   rw [Nat.mod_add_mod,show j+(w.length-m)+m=j+w.length by omega,Nat.add_mod_right,Nat.mod_eq_of_lt hj]
  rw [e]
  exact least_min (by rw [rot_length];exact Nat.mod_lt _ hp)
end Wd
namespace Wd
theorem lt_app {a b:W}(h:a<b)(hl:b.length<=a.length)(x y:W):a++x<b++y:=by
 induction a generalizing b with
 | nil =>
  cases b with
  | nil=>exact absurd h (ltir _)
  | cons d b=>simp at hl
 | cons c a ih =>
  cases b with
  | nil=>exact absurd h (by simp)
  | cons d b =>
   rw [List.cons_append,List.cons_append]
   rw [List.cons_lt_cons_iff] at h ⊢
   rcases h with h | ⟨h,h'⟩
   ·exact .inl h
   ·exact .inr ⟨h,ih h' (by simpa using hl)⟩
theorem lt_app_left (p:W){a b:W}:p++a<p++b↔a<b:=by
 induction p with
 | nil=>rfl
 | cons c p ih =>
  rw [List.cons_append,List.cons_append,List.cons_lt_cons_iff]
  constructor
  ·intro h
   rcases h with h | ⟨_,h⟩
   ·exact absurd h (Nat.lt_irrefl _)
   ·exact ih.mp h
  ·intro h
   exact .inr ⟨rfl,ih.mpr h⟩
theorem lt_of_app {a b x y:W}(hl:a.length=b.length)(h:a++x<b++y):a<b∨(a=b∧x<y):=by
 by_cases h1:a<b
 ·exact .inl h1
 ·by_cases h2:b<a
  ·exact absurd (ltt h (lt_app h2 (by omega) y x)) (ltir _)
  ·have e:=tri h1 h2
   subst e
   exact .inr ⟨rfl,(lt_app_left a).mp h⟩
def Prime (w:W):Prop:=w≠[]∧∀ k,0<k->k<w.length->w<rot k w
theorem lt_at {a b:W}{j:Nat}{c d:Nat}(he:∀ i,i<j->a[i]?=b[i]?)(ha:a[j]?=some c)(hb:b[j]?=some d)(h:c<d):a<b:=by
 induction j generalizing a b with
 | zero =>
  cases a with
  | nil=>simp at ha
  | cons x a =>
   cases b with
   | nil=>simp at hb
   | cons y b =>
    simp at ha hb
    subst ha hb
    rw [List.cons_lt_cons_iff]
    exact .inl h
 | succ j ih =>
  cases a with
  | nil=>simp at ha
  | cons x a =>
   cases b with
   | nil=>simp at hb
   | cons y b =>
    have e0:=he 0 (by omega)
    simp at e0
    subst e0
    rw [List.cons_lt_cons_iff]
    exact .inr ⟨rfl,ih (fun i hi=>by simpa using he (i+1) (by omega)) (by simpa using ha) (by simpa using hb)⟩
theorem lt_parts {a b:W}(h:a<b):(∃ (j c d:Nat),(∀ i,i<j->a[i]?=b[i]?)∧a[j]?=some c∧b[j]?=some d∧c<d)∨(a.length<b.length∧∀ i,i<a.length->a[i]?=b[i]?):=by
 induction a generalizing b with
 | nil =>
  cases b with
  | nil=>exact absurd h (ltir _)
  | cons y b=>exact .inr ⟨by simp,fun i hi=>by simp at hi⟩
 | cons x a ih =>
  cases b with
  | nil=>exact absurd h (by simp)
  | cons y b =>
   rw [List.cons_lt_cons_iff] at h
   rcases h with h | ⟨rfl,h⟩
   ·exact .inl ⟨0,x,y,fun i hi=>by omega,by simp,by simp,h⟩
   ·rcases ih h with ⟨j,c,d,h1,h2,h3,h4⟩ | ⟨h1,h2⟩
    ·refine .inl ⟨j+1,c,d,fun i hi=>?_,by simpa using h2,by simpa using h3,h4⟩
     cases i with
     | zero=>simp
     | succ i=>simpa using h1 i (by omega)
    ·refine .inr ⟨by simpa using h1,fun i hi=>?_⟩
     cases i with
     | zero=>simp
     | succ i=>simpa using h2 i (by simpa using hi)
theorem take_get {t:W}{m i:Nat}(h:i<m):(t.take m)[i]?=t[i]?:=List.getElem?_take_of_lt h
end Wd
namespace Wd
def rep (n:Nat)(l:W):W:=(List.replicate n l).flatten
theorem rep_succ (n:Nat)(l:W):rep (n+1) l=l++rep n l:=by unfold rep;rw [List.replicate_succ,List.flatten_cons]
theorem rep_zero (l:W):rep 0 l=[]:=rfl
theorem rep_one (l:W):rep 1 l=l:=by rw [rep_succ,rep_zero,List.append_nil]
theorem rep_len (n:Nat)(l:W):(rep n l).length=n*l.length:=by
 induction n with
 | zero=>rw [rep_zero,Nat.zero_mul];rfl
 | succ n ih=>rw [rep_succ,List.length_append,ih,Nat.succ_mul,Nat.add_comm]
theorem rep_get {l:W}{n i:Nat}(h:i<n*l.length):(rep n l)[i]?=l[i % l.length]?:=by
 induction n generalizing i with
 | zero=>rw [Nat.zero_mul] at h;omega
 | succ n ih =>
  rw [rep_succ]
  rw [Nat.succ_mul] at h
  by_cases hi:i<l.length
  ·rw [List.getElem?_append_left hi,Nat.mod_eq_of_lt hi]
  ·rw [List.getElem?_append_right (by omega),ih (by omega)]
   congr 1
   rw [<- Nat.mod_eq_sub_mod (by omega)]
def Rp (w:W)(d:Nat):Prop:=∀ i,w[i % w.length]?=w[(i+d) % w.length]?
theorem Rp.all (w:W):Rp w w.length:=fun i=>by rw [Nat.add_mod_right]
theorem Rp.zero (w:W):Rp w 0:=fun i=>by rw [Nat.add_zero]
theorem Rp.add {w:W}{d e:Nat}(h:Rp w d)(h':Rp w e):Rp w (d+e):=fun i=>by
 rw [h i,h' (i+d),Nat.add_assoc]
theorem Rp.sub {w:W}{d e:Nat}(h:Rp w d)(h':Rp w (d+e)):Rp w e:=fun i=>by
 rw [h' i,h (i+e)]
 congr 2
 omega
theorem Rp.mul {w:W}{d:Nat}(h:Rp w d):∀ q,Rp w (q*d)
 | 0=>by rw [Nat.zero_mul];exact Rp.zero w
 | q+1=>by rw [Nat.succ_mul];exact (Rp.mul h q).add h
theorem rp_rot {w:W}{d:Nat}(hd:d<=w.length):rot d w=w↔Rp w d:=by
 constructor
 ·intro h i
  rcases Nat.eq_zero_or_pos w.length with h0 | h0
  ·rw [List.getElem?_eq_none (by omega),List.getElem?_eq_none (by omega)]
  ·have e:=rot_get (k:=d) (i:=i % w.length) hd (Nat.mod_lt _ h0)
   rw [h] at e
   rw [e,Nat.add_mod_mod,Nat.add_comm]
 ·intro h
  apply ext_get (rot_length d w)
  intro i hi
  rw [rot_length] at hi
  rw [rot_get hd hi,Nat.add_comm,<- h i,Nat.mod_eq_of_lt hi]
theorem rep_of_rp {w:W}{d:Nat}(h:Rp w d)(h0:0<d)(hd:d<=w.length)(hn:w.length % d=0):rep (w.length/d) (w.take d)=w:=by
 have hl:(w.take d).length=d:=by rw [List.length_take];omega
 have hm:w.length/d*d=w.length:=Nat.div_mul_cancel (Nat.dvd_of_mod_eq_zero hn)
 apply ext_get
 ·rw [rep_len,hl,hm]
 ·intro i hi
  rw [rep_len,hl,hm] at hi
  rw [rep_get (by rw [hl,hm];exact hi),hl,take_get (Nat.mod_lt _ h0)]
  have e:=(h.mul (i/d)) (i % d)
  have e2:i % d+i/d*d=i:=by rw [Nat.mul_comm];exact Nat.mod_add_div i d
  rw [e2,Nat.mod_eq_of_lt hi,Nat.mod_eq_of_lt (by have:=Nat.mod_lt i h0;omega)] at e
  exact e
theorem rp_of_rep {w:W}{p:Nat}(hp:p<=w.length)(h:rep (w.length/p) (w.take p)=w)(h0:0<w.length):0<p∧w.length % p=0∧Rp w p:=by
 have hl:(w.take p).length=p:=by rw [List.length_take];omega
 have hm:w.length/p*p=w.length:=by
  have e:=congrArg List.length h
  rw [rep_len,hl] at e
  exact e
 have hp0:0<p:=by
  rcases Nat.eq_zero_or_pos p with q | q
  ·rw [q,Nat.mul_zero] at hm
   omega
  ·exact q
 have hd:w.length % p=0:=by
  have:=Nat.div_add_mod w.length p
  rw [Nat.mul_comm] at this
  omega
 refine ⟨hp0,hd,?_⟩
 rw [<- rp_rot hp]
 apply ext_get (rot_length p w)
 intro i hi
 rw [rot_length] at hi
 have gt:∀ j,j<w.length->w[j]?=(w.take p)[j % p]?:=fun j hj=>by
  have e:=rep_get (n:=w.length/p) (l:=w.take p) (i:=j) (by rw [hl,hm];exact hj)
  rw [h,hl] at e
  exact e
 rw [rot_get hp hi,gt i hi,gt _ (Nat.mod_lt _ h0)]
 congr 1
 rw [Nat.mod_mod_of_dvd _ (Nat.dvd_of_mod_eq_zero hd),Nat.add_mod_left]
theorem least_rp {w:W}(h0:0<w.length):∃ d,0<d∧d<=w.length∧Rp w d∧∀ e,0<e->e<d->¬ Rp w e:=by
 have key:∀ n,(∃ d,0<d∧d<=n∧Rp w d)->∃ d,0<d∧d<=n∧Rp w d∧∀ e,0<e->e<d->¬ Rp w e:=by
  intro n
  induction n with
  | zero=>rintro ⟨d,h1,h2,_⟩;omega
  | succ n ih =>
   rintro ⟨d,h1,h2,h3⟩
   by_cases hs:∃ e,0<e∧e<d∧Rp w e
   ·obtain ⟨e,e1,e2,e3⟩:=hs
    obtain ⟨d',g1,g2,g3⟩:=ih ⟨e,e1,by omega,e3⟩
    exact ⟨d',g1,by omega,g3⟩
   ·exact ⟨d,h1,h2,h3,fun e e1 e2 e3=>hs ⟨e,e1,e2,e3⟩⟩
 exact key w.length ⟨w.length,h0,Nat.le_refl _,Rp.all w⟩
theorem least_dvd {w:W}{d k:Nat}(h1:0<d)(h2:Rp w d)(h3:∀ e,0<e->e<d->¬ Rp w e)(hk:Rp w k):k % d=0:=by
 apply Classical.byContradiction
 intro hn
 refine h3 (k % d) (by omega) (Nat.mod_lt _ h1) ?_
 refine Rp.sub (h2.mul (k/d)) ?_
 have e:k/d*d+k % d=k:=by rw [Nat.mul_comm];exact Nat.div_add_mod k d
 rw [e]
 exact hk
set_option genInjectivity false in
structure RootLen (w:W)(p:Nat):Prop where
 pos:0<p
 le:p<=w.length
 is:rep (w.length/p) (w.take p)=w
 no:∀ q,0<q->q<p->rep (w.length/q) (w.take q)≠w
theorem RootLen.rp {w:W}{p:Nat}(h:RootLen w p):Rp w p∧w.length % p=0∧∀ e,0<e->e<p->¬ Rp w e:=by
 have h0:0<w.length:=Nat.lt_of_lt_of_le h.pos h.le
 obtain ⟨_,hd,hr⟩:=rp_of_rep h.le h.is h0
 refine ⟨hr,hd,fun e e1 e2 e3=>?_⟩
 obtain ⟨d,g1,g2,g3,g4⟩:=least_rp h0
 have hdn:=least_dvd g1 g3 g4 (Rp.all w)
 have hde:d<=e:=by
  apply Classical.byContradiction
  intro z
  have:=least_dvd g1 g3 g4 e3
  rw [Nat.mod_eq_of_lt (by omega)] at this
  omega
 exact h.no d g1 (by omega) (rep_of_rp g3 g1 g2 hdn)
theorem RootLen.uniq {w:W}{p q:Nat}(h:RootLen w p)(h':RootLen w q):p=q:=by
 rcases Nat.lt_trichotomy p q with z | z | z
 ·exact absurd h.is (h'.no p h.pos z)
 ·exact z
 ·exact absurd h'.is (h.no q h'.pos z)
end Wd
namespace Wd
theorem rootLen_ex {w:W}(h0:0<w.length):∃ p,RootLen w p:=by
 have key:∀ n,(∃ p,0<p∧p<=n∧p<=w.length∧rep (w.length/p) (w.take p)=w)->∃ p,RootLen w p:=by
  intro n
  induction n with
  | zero=>rintro ⟨p,h1,h2,_⟩;omega
  | succ n ih =>
   rintro ⟨p,h1,h2,h3,h4⟩
   by_cases hs:∃ q,0<q∧q<p∧rep (w.length/q) (w.take q)=w
   ·obtain ⟨q,q1,q2,q3⟩:=hs
    exact ih ⟨q,q1,by omega,by omega,q3⟩
   ·exact ⟨p,h1,h3,h4,fun q q1 q2 q3=>hs ⟨q,q1,q2,q3⟩⟩
 exact key w.length ⟨w.length,h0,Nat.le_refl _,Nat.le_refl _,by rw [Nat.div_self h0,List.take_length,rep_one]⟩
end Wd
namespace Wd
end Wd
namespace Dt
abbrev Mx:=Nat->Nat->Int
section
variable {n N p q i j k l:Nat}{A B:Mx}{f g:Nat->Int}{c m:Int}
def tr (p i:Nat):Nat:=if i=p then p+1 else if i=p+1 then p else i
def mv (p:Nat)(A:Mx):Mx:=fun i k=>if i=0 then A p k else if i<=p then A (i-1) k else A i k
end
end Dt
namespace Dt
def sN:Nat->(Nat->Nat)->Nat
 | 0,_=>0
 | n+1,f=>sN n f+f n
section
variable {n N p q i j k l:Nat}{A B:Mx}{f g:Nat->Nat}{c m:Int}
end
end Dt
namespace Wd
def ringAt (t:W)(n i:Nat):W:=(List.range n).map fun k=>t.getD ((i+k) % t.length) 0
theorem ringAt_len (t:W)(n i:Nat):(ringAt t n i).length=n:=by rw [ringAt,List.length_map,List.length_range]
theorem ringAt_get {t:W}{n i k:Nat}(h:k<n)(ht:0<t.length):(ringAt t n i)[k]?=t[(i+k) % t.length]?:=by
 rw [ringAt,List.getElem?_map,List.getElem?_range h]
 show some (t.getD ((i+k) % t.length) 0)=_
 rw [List.getD_eq_getElem?_getD,List.getElem?_eq_getElem (Nat.mod_lt _ ht)]
 rfl
theorem row_at {t:W}{n i:Nat}(h:i+n<=t.length):(t.drop i).take n=ringAt t n i:=by
 apply ext_get
 ·rw [List.length_take,List.length_drop,ringAt_len]
  omega
 ·intro k hk
  rw [List.length_take,List.length_drop] at hk
  rw [List.getElem?_take_of_lt (by omega),List.getElem?_drop,ringAt_get (by omega) (by omega),Nat.mod_eq_of_lt (by omega)]
def ringW (t:W)(n:Nat):List W:=(List.range t.length).map (ringAt t n)
theorem ringW_len (t:W)(n:Nat):(ringW t n).length=t.length:=by rw [ringW,List.length_map,List.length_range]
end Wd
namespace Wd
theorem ringAt_mod {t:W}{n i:Nat}:ringAt t n (i % t.length)=ringAt t n i:=by
 unfold ringAt
 refine List.map_congr_left fun k _=>?_
 rw [Nat.mod_add_mod]
theorem ringW_get {t:W}{n i:Nat}(h:i<t.length):(ringW t n)[i]?=some (ringAt t n i):=by
 rw [ringW,List.getElem?_map,List.getElem?_range h];rfl
end Wd
namespace Hg
variable {bg en:List Nat->List Nat}
inductive Rch (bg en:List Nat->List Nat)(ms:List (List Nat))(p:List Nat):List Nat->Prop
 | self:Rch bg en ms p p
 | fw {w:List Nat}:w∈ms->Rch bg en ms p (bg w)->Rch bg en ms p (en w)
 | bw {w:List Nat}:w∈ms->Rch bg en ms p (en w)->Rch bg en ms p (bg w)
def Cl (bg en:List Nat->List Nat)(ls:List (List Nat))(w:List Nat):Prop:=bg w∈ls↔en w∈ls
set_option genInjectivity false in
structure Pass (bg en:List Nat->List Nat)(ms:List (List Nat))(p:List Nat)(fs:List (List Nat))(i:Nat)(ls:List (List Nat)):Prop where
 nd:ls.Nodup
 pre:fs <+: ls
 rch:∀ z∈ls,Rch bg en ms p z
 cl:ls.length=fs.length->∀ w∈ms.take i,Cl bg en fs w
def allP (bg en:List Nat->List Nat)(ms:List (List Nat)):List (List Nat):=ms.map bg++ms.map en
theorem nd_len {α:Type}[BEq α][LawfulBEq α]:∀ {ls ms:List α},ls.Nodup->(∀ z∈ls,z∈ms)->ls.length<=ms.length
 | [],_,_,_=>Nat.zero_le _
 | a::ls,ms,h,hs=>by
  rw [List.nodup_cons] at h
  have ha:=hs a (List.mem_cons_self ..)
  have ih:=nd_len (ls:=ls) (ms:=ms.erase a) h.2 fun z hz=>(List.mem_erase_of_ne (fun e:z=a=>h.1 (e▸hz))).mpr (hs z (List.mem_cons_of_mem _ hz))
  have:=List.length_erase_of_mem ha
  have:=List.length_pos_of_mem ha
  rw [List.length_cons]
  omega
def miss (ps met:List (List Nat)):Nat:=(ps.filter fun z=>decide (¬ z∈met)).length
set_option genInjectivity false in
structure Walk (bg en:List Nat->List Nat)(ms:List (List Nat))(p:List Nat)(fs:List (List Nat))(i:Nat)(ls:List (List Nat))(ch:Bool):Prop where
 sub:∀ z∈fs,z∈ls
 rch:∀ z∈ls,Rch bg en ms p z
 len:ls.length+2*miss (allP bg en ms) ls<=fs.length+2*miss (allP bg en ms) fs
 no:ch=false->ls=fs∧∀ w∈ms.take i,Cl bg en fs w
 yes:ch=true->miss (allP bg en ms) ls<miss (allP bg en ms) fs
end Hg
namespace Dt
section
variable {N F b d e n:Nat}
def pm (N:Nat):Nat->Nat->Nat->Nat
 | 0,_,_=>1 % N
 | f+1,b,e=>if e=0 then 1 % N else if e % 2=1 then b*pm N f (b*b % N) (e/2) % N else pm N f (b*b % N) (e/2)
end
end Dt
namespace Dt
section
variable {N F b d e n:Nat}
end
end Dt
namespace Dt
end Dt
namespace Dt
def rs (n:Nat)(r:List Int):Nat:=sN n fun k=>(r.getD k 0).natAbs
def kn:List Nat:=[133,211,598,652,721,850,1282]
end Dt
namespace Dt
section
variable {n m p q i j k l:Nat}{A B T U:Mx}{f g:Nat->Int}{c:Nat->Int}
end
end Dt
namespace Dt
section
variable {n i j k l m:Nat}{A B:Mx}{f:Nat->Nat}{c:Int}
def un (i k:Nat):Int:=if k=i then 1 else 0
end
end Dt
namespace Dt
section
variable {n m i:Nat}{A:Mx}{Ws:Nat->List Nat}{c:List Nat}
end
end Dt
namespace Dt
def cE (words:List (List Nat))(o:List Nat):Int:=((words.countP fun w=>decide (w.drop 1=o):Nat):Int)
def rI (texts:List (List Nat))(t:List Nat)(words:List (List Nat)):List Int:=texts.map fun o=>if o=t then ((words.length:Nat):Int)-cE words t else-cE words o
end Dt
namespace Dt
end Dt
namespace Dt
inductive R2 {α β:Type}(R:α->β->Prop):List α->List β->Prop
 | nil:R2 R [] []
 | cons {a:α} {b:β} {as:List α} {bs:List β}:R a b->R2 R as bs->R2 R (a::as) (b::bs)
section
variable {α β:Type}{R R':α->β->Prop}{as:List α}{bs:List β}
theorem R2.len (h:R2 R as bs):as.length=bs.length:=by
 induction h with
 | nil=>rfl
 | cons _ _ ih=>rw [List.length_cons,List.length_cons,ih]
theorem R2.mono (h:R2 R as bs)(f:∀ a b,a∈as->R a b->R' a b):R2 R' as bs:=by
 induction h with
 | nil=>exact .nil
 | cons r _ ih=>exact .cons (f _ _ (List.mem_cons_self ..) r) (ih fun a b ha=>f a b (List.mem_cons_of_mem _ ha))
theorem R2.get (h:R2 R as bs):∀ {i:Nat} {b:β},bs[i]?=some b->∃ a,as[i]?=some a∧R a b:=by
 induction h with
 | nil=>intro i b e;simp at e
 | cons r _ ih =>
  intro i b e
  cases i with
  | zero=>rw [List.getElem?_cons_zero] at e;cases e;exact ⟨_,rfl,r⟩
  | succ i=>rw [List.getElem?_cons_succ] at e;rw [List.getElem?_cons_succ];exact ih e
theorem R2.snoc {a:α}{b:β}(h:R2 R as bs)(r:R a b):R2 R (as++[a]) (bs++[b]):=by
 induction h with
 | nil=>exact .cons r .nil
 | cons r' _ ih=>exact .cons r' ih
end
abbrev W:=List Nat
end Dt
namespace Wd
def spell (k:Nat):Nat->Nat->W
 | 0,_=>[]
 | n+1,N=>spell k n (N/k)++[97+N % k]
theorem spell_len (k:Nat):∀ n N,(spell k n N).length=n
 | 0,_=>rfl
 | n+1,N=>by rw [spell,List.length_append,spell_len k n];rfl
theorem spell_rev (k:Nat):∀ n N,((List.range n).map fun i=>97+N/k ^ i % k).reverse=spell k n N
 | 0,_=>rfl
 | n+1,N=>by
  rw [List.range_succ_eq_map,List.map_cons,List.map_map,List.reverse_cons,spell,<- spell_rev k n (N/k),Nat.pow_zero,Nat.div_one]
  congr 3
  funext i
  show 97+N/k ^ (i+1) % k=97+N/k/k ^ i % k
  rw [Nat.div_div_eq_div_mul,Nat.pow_succ,Nat.mul_comm]
theorem spell_lt {k:Nat}(hk:0<k):∀ n N M,N<M->M<k ^ n->spell k n N<spell k n M
 | 0,N,M,h1,h2=>by rw [Nat.pow_zero] at h2;omega
 | n+1,N,M,h1,h2=>by
  rw [spell,spell]
  have hle:N/k<=M/k:=Nat.div_le_div_right (Nat.le_of_lt h1)
  rcases Nat.lt_or_eq_of_le hle with h | h
  ·exact lt_app (spell_lt hk n _ _ h (Nat.div_lt_of_lt_mul (by rw [Nat.mul_comm,<- Nat.pow_succ];exact h2))) (by rw [spell_len,spell_len];exact Nat.le_refl _) _ _
  ·rw [h,lt_app_left]
   have e1:=Nat.div_add_mod N k
   have e2:=Nat.div_add_mod M k
   rw [h] at e1
   have:N % k<M % k:=by omega
   rw [List.cons_lt_cons_iff]
   left
   omega
theorem spell_mem {k:Nat}(hk:0<k):∀ n N,∀ c∈spell k n N,97<=c∧c<97+k
 | 0,_,c,h=>by cases h
 | n+1,N,c,h=>by
  rw [spell,List.mem_append] at h
  rcases h with h | h
  ·exact spell_mem hk n _ c h
  ·have e:c=97+N % k:=by simpa using h
   have:=Nat.mod_lt N hk
   omega
def num (k:Nat)(w:W):Nat:=w.foldl (fun a c=>a*k+(c-97)) 0
theorem num_snoc (k:Nat)(w:W)(c:Nat):num k (w++[c])=num k w*k+(c-97):=by
 unfold num
 rw [List.foldl_append]
 rfl
theorem num_spell {k:Nat}(hk:0<k):∀ n N,N<k ^ n->num k (spell k n N)=N
 | 0,N,h=>by
  rw [Nat.pow_zero] at h
  have:N=0:=by omega
  subst this
  rfl
 | n+1,N,h=>by
  rw [spell,num_snoc,num_spell hk n _ (Nat.div_lt_of_lt_mul (by rw [Nat.mul_comm,<- Nat.pow_succ];exact h))]
  have e:=Nat.div_add_mod N k
  rw [Nat.mul_comm] at e
  omega
theorem snoc_ex {w:W}(h:0<w.length):∃ u c,w=u++[c]:=by
 exact ⟨w.dropLast,w.getLast (List.length_pos_iff.mp h),(List.dropLast_concat_getLast _).symm⟩
theorem spell_num {k:Nat}:∀ (n:Nat) (w:W),w.length=n->(∀ c∈w,97<=c∧c<97+k)->spell k n (num k w)=w∧num k w<k ^ n
 | 0,w,h,_=>by
  have:w=[]:=List.length_eq_zero_iff.mp h
  subst this
  exact ⟨rfl,by rw [Nat.pow_zero];exact Nat.zero_lt_one⟩
 | n+1,w,h,hw=>by
  obtain ⟨u,c,rfl⟩:=snoc_ex (w:=w) (by omega)
  rw [List.length_append] at h
  have hu:u.length=n:=by
   have:[c].length=1:=rfl
   omega
  obtain ⟨h1,h2⟩:=spell_num n u hu fun d hd=>hw d (List.mem_append_left _ hd)
  have hc:=hw c (by simp)
  have hk:0<k:=by omega
  have hd:(num k u*k+(c-97))/k=num k u:=by rw [Nat.add_comm,Nat.add_mul_div_right _ _ hk,Nat.div_eq_of_lt (by omega),Nat.zero_add]
  have hm:(num k u*k+(c-97)) % k=c-97:=by rw [Nat.add_comm,Nat.add_mul_mod_self_right,Nat.mod_eq_of_lt (by omega)]
  rw [num_snoc,spell,hd,hm,h1]
  refine ⟨by rw [show 97+(c-97)=c by omega],?_⟩
  rw [Nat.pow_succ]
  have:num k u*k+k<=k ^ n*k:=by rw [<- Nat.succ_mul];exact Nat.mul_le_mul_right k h2
  omega
def allW (k n:Nat):List W:=(List.range (k ^ n)).map (spell k n)
theorem allW_len (k n:Nat):(allW k n).length=k ^ n:=by rw [allW,List.length_map,List.length_range]
end Wd
namespace Wd
def Nle (f:Nat->Nat)(n k:Nat):Prop:=∃ i,i<n∧(∀ t,t<i->f ((k+t) % n)=f t)∧f ((k+i) % n)<f i
theorem nle_same {f:Nat->Nat}{n k:Nat}(hw:¬ Nle f n k):∀ m,m<=n->(∀ t,t<m->f ((k+t) % n)<=f t)->∀ t,t<m->f ((k+t) % n)=f t
 | 0,_,_,t,ht=>by omega
 | m+1,hm,h,t,ht=>by
  have ih:=nle_same hw m (by omega) (fun t ht=>h t (by omega))
  by_cases e:t=m
  ·subst e
   have h1:=h t (by omega)
   apply Classical.byContradiction
   intro hne
   exact hw ⟨t,by omega,ih,by omega⟩
  ·exact ih t (by omega)
theorem grow_core {u w:Nat->Nat}{n j top:Nat}(hj:j<n)(hw:∀ k,k<n->¬ Nle w n k)(ha:∀ i,i<j->u i=w i)(hb:w j<=u j)(hc:∀ i,j<i->i<n->u i=top)(ht:∀ i,i<n->w i<=top∧u i<=top):∀ k,k<n->¬ Nle u n k:=by
 rintro k hk ⟨i,hi,he,hl⟩
 have hn:0<n:=by omega
 have hle:∀ t,t<n->w t<=u t:=fun t h=>by
  rcases Nat.lt_trichotomy t j with h1 | h1 | h1
  ·exact Nat.le_of_eq (ha t h1).symm
  ·subst h1;exact hb
  ·rw [hc t h1 h];exact (ht t h).1
 have hm:∀ x,x % n<n:=fun x=>Nat.mod_lt _ hn
 have hk0:0<k:=by
  rcases Nat.eq_zero_or_pos k with h0 | h0
  ·subst h0
   rw [Nat.zero_add,Nat.mod_eq_of_lt hi] at hl
   omega
  ·exact h0
 have hij:j<=i:=by
  apply Classical.byContradiction
  intro hij
  have h1:=nle_same (hw k hk) i (by omega) (fun t h=>by
   rw [<- ha t (by omega),<- he t h]
   exact hle _ (hm _))
  refine hw k hk ⟨i,hi,h1,?_⟩
  rw [<- ha i (by omega)]
  exact Nat.lt_of_le_of_lt (hle _ (hm _)) hl
 have hki:n<=k+i:=by
  apply Classical.byContradiction
  intro h
  rw [Nat.mod_eq_of_lt (by omega),hc (k+i) (by omega) (by omega)] at hl
  have:=(ht i hi).2
  omega
 have hall:(∀ t,t<n->u t=top)->False:=fun h=>by
  rw [h i hi,h _ (hm _)] at hl
  omega
 by_cases hc1:n-k<=j
 ·have h1:=nle_same (hw k hk) (n-k) (by omega) (fun t h=>by
   rw [<- ha t (by omega),<- he t (by omega)]
   exact hle _ (hm _))
  have h2:∀ t,k<=t->t<n->w t=u t:=fun t h3 h4=>by
   have e1:=h1 (t-k) (by omega)
   have e2:=he (t-k) (by omega)
   rw [show k+(t-k)=t by omega,Nat.mod_eq_of_lt h4] at e1 e2
   rw [e1,e2,ha (t-k) (by omega)]
  by_cases hkj:k<=j
  ·have h3:∀ t,t<n->u t=w t:=fun t h=>by
    by_cases h4:t<j
    ·exact ha t h4
    ·exact (h2 t (by omega) h).symm
   refine hw k hk ⟨i,hi,fun t h=>?_,?_⟩
   ·rw [<- h3 _ (hm _),<- h3 t (by omega)];exact he t h
   ·rw [<- h3 _ (hm _),<- h3 i hi];exact hl
  ·have h3:w 0=top:=by
    have e1:=h1 0 (by omega)
    rw [Nat.add_zero,Nat.mod_eq_of_lt hk] at e1
    rw [<- e1,h2 k (Nat.le_refl _) hk,hc k (by omega) hk]
   apply hall
   intro t h
   have h4:top<=w t:=by
    apply Classical.byContradiction
    intro h5
    refine hw t h ⟨0,hn,fun s h6=>by omega,?_⟩
    rw [Nat.add_zero,Nat.mod_eq_of_lt h,h3]
    omega
   have h5:=hle t h
   have h6:=(ht t h).2
   omega
 ·apply hall
  have h3:∀ m t,t<n->n-t<=m->u t=top:=by
   intro m
   induction m with
   | zero=>intro t h1 h2;omega
   | succ m ih =>
    intro t h1 h2
    by_cases h4:t+k<n
    ·have e2:=he t (by omega)
     rw [Nat.mod_eq_of_lt (by omega)] at e2
     rw [<- e2]
     exact ih (k+t) (by omega) (by omega)
    ·exact hc t (by omega) h1
  intro t h
  exact h3 n t h (by omega)
def Okk (k:Nat)(w:W):Prop:=∀ c∈w,97<=c∧c<97+k
def Lst (w:W):Prop:=w=least w
theorem lst_iff {w:W}:Lst w↔∀ k,k<w.length->¬ rot k w<w:=by
 constructor
 ·intro h k hk
  have:=least_min hk
  rw [<- h] at this
  exact this
 ·intro h
  rcases Nat.eq_zero_or_pos w.length with h0 | h0
  ·have:w=[]:=List.length_eq_zero_iff.mp h0
   subst this
   rfl
  ·obtain ⟨i,hi,e⟩:=least_mem h0
   have h1:=h i hi
   rw [<- e] at h1
   have h2:=least_min h0
   rw [rot_zero] at h2
   exact tri h2 h1
theorem gD {w:W}{i:Nat}(h:i<w.length):w[i]?=some (w.getD i 0):=by
 rw [List.getD_eq_getElem?_getD,List.getElem?_eq_getElem h];rfl
theorem rot_lt_iff {w:W}{k:Nat}(hk:k<w.length):rot k w<w↔Nle (fun i=>w.getD i 0) w.length k:=by
 have hn:0<w.length:=by omega
 have hm:∀ x,x % w.length<w.length:=fun x=>Nat.mod_lt _ hn
 have hg:∀ t,t<w.length->(rot k w)[t]?=some (w.getD ((k+t) % w.length) 0):=fun t ht=>by
  rw [rot_get (Nat.le_of_lt hk) ht,gD (hm _)]
 constructor
 ·intro h
  rcases lt_parts h with ⟨j,c,d,h1,h2,h3,h4⟩ | ⟨h1,_⟩
  ·have hj:j<w.length:=(List.getElem?_eq_some_iff.mp h3).1
   refine ⟨j,hj,fun t ht=>?_,?_⟩
   ·have e:=h1 t ht
    rw [hg t (by omega),gD (by omega)] at e
    exact Option.some.inj e
   ·rw [hg j hj] at h2
    rw [gD hj] at h3
    have e1:=Option.some.inj h2
    have e2:=Option.some.inj h3
    show w.getD ((k+j) % w.length) 0<w.getD j 0
    omega
  ·rw [rot_length] at h1
   omega
 ·rintro ⟨i,hi,h1,h2⟩
  refine lt_at (j:=i) (fun t ht=>?_) (hg i hi) (gD hi) h2
  rw [hg t (by omega),gD (by omega)]
  exact congrArg some (h1 t ht)
theorem lst_nle {w:W}:Lst w↔∀ k,k<w.length->¬ Nle (fun i=>w.getD i 0) w.length k:=by
 rw [lst_iff]
 constructor
 ·intro h k hk h1;exact h k hk ((rot_lt_iff hk).mpr h1)
 ·intro h k hk h1;exact h k hk ((rot_lt_iff hk).mp h1)
def fill (k n:Nat)(p:W):W:=p++List.replicate (n-p.length) (96+k)
theorem fill_len {k n:Nat}{p:W}(h:p.length<=n):(fill k n p).length=n:=by
 unfold fill;rw [List.length_append,List.length_replicate];omega
theorem fill_all {k n:Nat}{p:W}(h:n<=p.length):fill k n p=p:=by
 unfold fill;rw [show n-p.length=0 by omega];exact List.append_nil _
theorem fill_snoc {k n:Nat}{p:W}(h:p.length<n):fill k n (p++[96+k])=fill k n p:=by
 unfold fill
 rw [List.length_append,List.length_singleton,List.append_assoc,List.singleton_append,<- List.replicate_succ]
 congr 2
 omega
theorem okk_app {k:Nat}{p q:W}:Okk k (p++q)↔Okk k p∧Okk k q:=by
 unfold Okk
 constructor
 ·intro h;exact ⟨fun c hc=>h c (List.mem_append_left _ hc),fun c hc=>h c (List.mem_append_right _ hc)⟩
 ·rintro ⟨h1,h2⟩ c hc
  rcases List.mem_append.mp hc with h | h
  ·exact h1 c h
  ·exact h2 c h
theorem okk_fill {k n:Nat}{p:W}(hk:0<k)(h:Okk k p):Okk k (fill k n p):=by
 unfold fill
 rw [okk_app]
 refine ⟨h,fun c hc=>?_⟩
 have:=List.eq_of_mem_replicate hc
 omega
theorem okk_getD {k:Nat}{w:W}{i:Nat}(h:Okk k w)(hi:i<w.length):97<=w.getD i 0∧w.getD i 0<97+k:=by
 apply h
 rw [List.getD_eq_getElem?_getD,List.getElem?_eq_getElem hi]
 exact List.getElem_mem hi
theorem lst_grow {k:Nat}{p r:W}{c d:Nat}(hk:0<k)(hw:Lst (p++c::r))(ho:Okk k (p++c::r))(hcd:c<=d)(hd:d<97+k):Lst (fill k (p++c::r).length (p++[d])):=by
 generalize hW:p++c::r=w at *
 have hn:w.length=p.length+1+r.length:=by rw [<- hW,List.length_append,List.length_cons];omega
 have hl:(fill k w.length (p++[d])).length=w.length:=fill_len (by rw [List.length_append,List.length_singleton];omega)
 rw [lst_nle,hl]
 have hc97:97<=c:=(ho c (by rw [<- hW];exact List.mem_append_right _ (List.mem_cons_self))).1
 have hop:Okk k p:=(okk_app.mp (hW▸ho)).1
 have hu:Okk k (fill k w.length (p++[d])):=okk_fill hk (okk_app.mpr ⟨hop,fun x hx=>by
  rw [List.mem_singleton] at hx;omega⟩)
 refine grow_core (w:=fun i=>w.getD i 0) (j:=p.length) (top:=96+k) (by omega) (lst_nle.mp hw) ?_ ?_ ?_ ?_
 ·intro i hi
  simp only [List.getD_eq_getElem?_getD,<- hW]
  unfold fill
  rw [List.append_assoc,List.getElem?_append_left hi,List.getElem?_append_left hi]
 ·simp only [List.getD_eq_getElem?_getD,<- hW]
  unfold fill
  rw [List.append_assoc,List.getElem?_append_right (Nat.le_refl _),List.getElem?_append_right (Nat.le_refl _)]
  simp only [Nat.sub_self]
  exact hcd
 ·intro i h1 h2
  simp only [List.getD_eq_getElem?_getD]
  unfold fill
  rw [List.getElem?_append_right (by rw [List.length_append,List.length_singleton];omega),List.getElem?_replicate_of_lt (by rw [List.length_append,List.length_singleton];omega)]
  rfl
 ·intro i hi
  have h1:=okk_getD ho hi
  have h2:=okk_getD hu (i:=i) (by rw [hl];exact hi)
  exact ⟨by show w.getD i 0<=_;omega,by show (fill k w.length (p++[d])).getD i 0<=_;omega⟩
def IsB (k n:Nat)(p:W):Prop:=p.length<=n∧Lst (fill k n p)
instance (w:W):Decidable (Lst w):=inferInstanceAs (Decidable (w=least w))
instance (k n:Nat)(p:W):Decidable (IsB k n p):=inferInstanceAs (Decidable (_∧_))
set_option genInjectivity false in
structure LW (k n:Nat)(w:W):Prop where
 len:w.length=n
 ok:Okk k w
 lst:Lst w
theorem LW.isB {k n:Nat}{w p q:W}(hk:0<k)(h:LW k n w)(e:w=p++q):IsB k n p:=by
 subst e
 have hl:=h.len
 rw [List.length_append] at hl
 refine ⟨by omega,?_⟩
 cases q with
 | nil=>rw [List.append_nil] at h;rw [List.length_nil] at hl;rw [fill_all (by omega)];exact h.lst
 | cons c r =>
  rw [List.length_cons] at hl
  have h1:=lst_grow hk h.lst h.ok (d:=96+k) (by have:=(h.ok c (List.mem_append_right _ List.mem_cons_self)).2;omega) (by omega)
  rw [h.len,fill_snoc (by omega)] at h1
  exact h1
theorem IsB.lw {k n:Nat}{p:W}(hk:0<k)(h:IsB k n p)(ho:Okk k p):LW k n (fill k n p):=⟨fill_len h.1,okk_fill hk ho,h.2⟩
theorem IsB.snoc {k n:Nat}{p:W}(h:IsB k n p)(hn:p.length<n):IsB k n (p++[96+k]):=by
 refine ⟨by rw [List.length_append,List.length_singleton];omega,?_⟩
 rw [fill_snoc hn]
 exact h.2
end Wd
namespace Wd
set_option genInjectivity false in
structure LF (k n:Nat)(p q:W):Prop where
 isb:IsB k n q
 ok:Okk k q
 pre:∃ s,q=p++s
 low:∀ w,LW k n w->(∃ s,w=p++s)->¬ w.take q.length<q
theorem LF.start {k n:Nat}{p:W}(h:IsB k n p)(ho:Okk k p):LF k n p p:=⟨h,ho,⟨[],(List.append_nil _).symm⟩,fun w _ ⟨s,e⟩=>by
 rw [e,List.take_left' rfl]
 exact ltir _⟩
theorem take_split {w:W}{m:Nat}(h:m<w.length):w=w.take m++w.getD m 0::w.drop (m+1):=by
 have:w.getD m 0=w[m]:=by rw [List.getD_eq_getElem?_getD,List.getElem?_eq_getElem h];rfl
 rw [this,<- List.drop_eq_getElem_cons h,List.take_append_drop]
theorem take_snoc {w:W}{m:Nat}(h:m<w.length):w.take (m+1)=w.take m++[w.getD m 0]:=by
 rw [List.take_add_one,gD h];rfl
theorem LF.step {k n:Nat}{p q:W}{c:Nat}(hk:0<k)(h:LF k n p q)(hq:q.length<n)(hc:97<=c∧c<97+k)(hb:IsB k n (q++[c]))(hno:∀ d,97<=d->d<c->¬ IsB k n (q++[d])):LF k n p (q++[c]):=by
 refine ⟨hb,okk_app.mpr ⟨h.ok,fun x hx=>by rw [List.mem_singleton] at hx;omega⟩,?_,?_⟩
 ·obtain ⟨s,e⟩:=h.pre
  exact ⟨s++[c],by rw [e,List.append_assoc]⟩
 ·intro w hw hs hl
  have h1:=h.low w hw hs
  have hlen:=hw.len
  rw [List.length_append,List.length_singleton,take_snoc (by omega)] at hl
  rcases lt_of_app (by rw [List.length_take];omega) hl with h2 | ⟨h2,h3⟩
  ·exact h1 h2
  ·have hd:=okk_getD hw.ok (i:=q.length) (by omega)
   have h4:w.getD q.length 0<c:=by
    rcases lt_parts h3 with ⟨j,a,b,_,e2,e3,h5⟩ | ⟨h5,_⟩
    ·have hj:j<[c].length:=(List.getElem?_eq_some_iff.mp e3).1
     rw [List.length_singleton] at hj
     have:j=0:=by omega
     subst this
     have e4:=Option.some.inj e2
     have e5:=Option.some.inj e3
     omega
    ·simp at h5
   refine hno _ hd.1 h4 (hw.isB hk (q:=w.drop (q.length+1)) ?_)
   rw [<- h2,List.append_assoc,List.singleton_append]
   rw [List.length_take,Nat.min_eq_left (by omega)]
   exact take_split (by omega)
set_option genInjectivity false in
structure LB (k n:Nat)(p r:W):Prop where
 lw:LW k n r
 pre:∃ s,r=p++s
 low:∀ w,LW k n w->(∃ s,w=p++s)->¬ w<r
theorem LF.done {k n:Nat}{p q:W}(h:LF k n p q)(hq:n<=q.length):LB k n p q:=by
 have hl:q.length=n:=by have:=h.isb.1;omega
 have h1:=h.isb.2
 rw [fill_all hq] at h1
 refine ⟨⟨hl,h.ok,h1⟩,h.pre,fun w hw hs=>?_⟩
 have h2:=h.low w hw hs
 rw [hl,List.take_of_length_le (by rw [hw.len];exact Nat.le_refl _)] at h2
 exact h2
theorem LB.uniq {k n:Nat}{p r s:W}(h:LB k n p r)(h':LB k n p s):r=s :=
 tri (h'.low r h.lw h.pre) (h.low s h'.lw h'.pre)
theorem lt_split {a b:W}(hl:a.length=b.length)(h:a<b):∃ p,p<a.length∧a.take p=b.take p∧a.getD p 0<b.getD p 0:=by
 rcases lt_parts h with ⟨j,c,d,h1,h2,h3,h4⟩ | ⟨h1,_⟩
 ·have hj:j<a.length:=(List.getElem?_eq_some_iff.mp h2).1
  refine ⟨j,hj,?_,?_⟩
  ·apply ext_get
   ·rw [List.length_take,List.length_take,hl]
   ·intro i hi
    rw [List.length_take] at hi
    rw [take_get (by omega),take_get (by omega)]
    exact h1 i (by omega)
  ·rw [gD hj] at h2
   rw [gD (by omega)] at h3
   have e1:=Option.some.inj h2
   have e2:=Option.some.inj h3
   omega
 ·omega
theorem lt_join {a b:W}{p:Nat}(ha:p<a.length)(hb:p<b.length)(h1:a.take p=b.take p)(h2:a.getD p 0<b.getD p 0):a<b:=by
 refine lt_at (j:=p) (fun i hi=>?_) (gD ha) (gD hb) h2
 rw [<- take_get hi,h1,take_get hi]
theorem getD_take {v w:W}{m p:Nat}(h:p<m)(e:v.take m=w.take m):v.getD p 0=w.getD p 0:=by
 rw [List.getD_eq_getElem?_getD,List.getD_eq_getElem?_getD,<- take_get h,e,take_get h]
def Nn (k:Nat)(w:W)(m:Nat):Prop:=∀ v,LW k w.length v->∀ p,m<=p->p<w.length->v.take p=w.take p->¬ w.getD p 0<v.getD p 0
theorem Nn.start (k:Nat)(w:W):Nn k w w.length:=fun v _ p h1 h2=>by omega
theorem Nn.step {k:Nat}{w:W}{m:Nat}(hk:0<k)(h:Nn k w (m+1))(hm:m<w.length)(hno:∀ d,97<=d->d<97+k->w.getD m 0<d->¬ IsB k w.length (w.take m++[d])):Nn k w m:=by
 intro v hv p h1 h2 h3 h4
 by_cases e:p=m
 ·subst e
  have hl:=hv.len
  have h5:=okk_getD hv.ok (i:=p) (by omega)
  refine hno _ h5.1 h5.2 h4 (hv.isB hk (q:=v.drop (p+1)) ?_)
  rw [<- h3,List.append_assoc,List.singleton_append]
  exact take_split (by omega)
 ·exact h v hv p (by omega) h2 h3 h4
set_option genInjectivity false in
structure NX (k:Nat)(w r:W):Prop where
 lw:LW k w.length r
 gt:w<r
 low:∀ v,LW k w.length v->w<v->¬ v<r
theorem Nn.found {k:Nat}{w r:W}{m c:Nat}(hk:0<k)(h:Nn k w (m+1))(hm:m<w.length)(hc:w.getD m 0<c)(hno:∀ d,97<=d->d<c->w.getD m 0<d->¬ IsB k w.length (w.take m++[d]))(hr:LB k w.length (w.take m++[c]) r):NX k w r:=by
 have hrl:=hr.lw.len
 obtain ⟨s,es⟩:=hr.pre
 have hmt:(w.take m).length=m:=by rw [List.length_take];omega
 have e1:r.take m=w.take m:=by
  rw [es,List.append_assoc,List.take_left' hmt]
 have e2:r.getD m 0=c:=by
  rw [es,List.getD_eq_getElem?_getD,List.append_assoc,List.getElem?_append_right (by omega),hmt,Nat.sub_self]
  rfl
 refine ⟨hr.lw,lt_join hm (by omega) e1.symm (by rw [e2];exact hc),?_⟩
 intro v hv hwv hvr
 have hvl:=hv.len
 obtain ⟨p,h1,h2,h3⟩:=lt_split hvl.symm hwv
 rcases Nat.lt_trichotomy p m with h4 | h4 | h4
 ·refine ltir v (ltt hvr (lt_join (p:=p) (by omega) (by omega) ?_ ?_))
  ·have:=congrArg (List.take p) e1
   rw [List.take_take,List.take_take,Nat.min_eq_left (by omega)] at this
   rw [this,h2]
  ·have:r.getD p 0=w.getD p 0:=by
    rw [List.getD_eq_getElem?_getD,List.getD_eq_getElem?_getD,<- take_get h4,e1,take_get h4]
   rw [this];exact h3
 ·subst h4
  have h5:=okk_getD hv.ok (i:=p) (by omega)
  have hpre:v=(w.take p++[v.getD p 0])++v.drop (p+1):=by
   rw [h2,List.append_assoc,List.singleton_append]
   exact take_split (by omega)
  rcases Nat.lt_trichotomy (v.getD p 0) c with h6 | h6 | h6
  ·exact hno _ h5.1 h6 h3 (hv.isB hk hpre)
  ·exact hr.low v hv ⟨v.drop (p+1),by rw [<- h6];exact hpre⟩ hvr
  ·exact ltir v (ltt hvr (lt_join (p:=p) (by omega) (by omega) (by rw [e1,h2]) (by rw [e2];exact h6)))
 ·exact h v hv p (by omega) h1 h2.symm h3
theorem Nn.none {k:Nat}{w:W}(h:Nn k w 0):∀ v,LW k w.length v->¬ w<v:=fun v hv hwv=>by
 obtain ⟨p,h1,h2,h3⟩:=lt_split hv.len.symm hwv
 exact h v hv p (Nat.zero_le _) h1 h2.symm h3
set_option genInjectivity false in
structure LL (k:Nat)(w r:W):Prop where
 lw:LW k w.length r
 le:¬ w<r
 high:∀ v,LW k w.length v->¬ w<v->¬ r<v
def Jn (k:Nat)(w:W)(m:Nat):Prop:=∀ v,LW k w.length v->¬ w<v->v.take m≠w.take m
theorem Jn.start {k:Nat}{w:W}(h:¬ Lst w):Jn k w w.length:=fun v hv _ e=>by
 have h1:=hv.len
 rw [List.take_of_length_le (by omega),List.take_of_length_le (Nat.le_refl _)] at e
 subst e
 exact h hv.lst
theorem Jn.part {k:Nat}{w v:W}{m:Nat}(h:Jn k w m)(hm:m<=w.length)(hv:LW k w.length v)(hle:¬ w<v):∃ p,p<m∧v.take p=w.take p∧v.getD p 0<w.getD p 0:=by
 have hl:=hv.len
 have h1:v<w:=by
  apply Classical.byContradiction
  intro h2
  exact h v hv hle (by rw [tri hle h2])
 obtain ⟨p,h2,h3,h4⟩:=lt_split hl h1
 refine ⟨p,?_,h3,h4⟩
 apply Classical.byContradiction
 intro h5
 apply h v hv hle
 have:=congrArg (List.take m) h3
 rw [List.take_take,List.take_take,Nat.min_eq_left (by omega)] at this
 exact this
theorem Jn.a {k:Nat}{w:W}{m:Nat}(h:Jn k w (m+1))(hm:m<w.length)(ha:w.getD m 0<=97):Jn k w m:=by
 intro v hv hle e
 obtain ⟨p,h1,h2,h3⟩:=h.part (by omega) hv hle
 have hl:=hv.len
 have h4:=okk_getD hv.ok (i:=p) (by omega)
 by_cases h5:p=m
 ·subst h5;omega
 ·have:v.getD p 0=w.getD p 0:=by
   rw [List.getD_eq_getElem?_getD,List.getD_eq_getElem?_getD,<- take_get (show p<m by omega),e,take_get (by omega)]
  omega
theorem Jn.down {k:Nat}{w:W}{m:Nat}(hk:0<k)(ho:Okk k w)(h:Jn k w (m+1))(hm:m<w.length)(hno:¬ Lst (fill k w.length (w.take m++[w.getD m 0-1]))):Jn k w m:=by
 intro v hv hle e
 obtain ⟨p,h1,h2,h3⟩:=h.part (by omega) hv hle
 have hl:=hv.len
 by_cases h5:p=m
 ·subst h5
  apply hno
  have h6:=okk_getD ho hm
  have hs:=take_split (w:=v) (m:=p) (by omega)
  have hlw:=hv.lst
  have hok:=hv.ok
  have hln:=hl
  rw [hs] at hlw hok hln
  have h7:=lst_grow hk hlw hok (d:=w.getD p 0-1) (by omega) (by omega)
  rw [hln,h2] at h7
  exact h7
 ·have:v.getD p 0=w.getD p 0:=by
   rw [List.getD_eq_getElem?_getD,List.getD_eq_getElem?_getD,<- take_get (show p<m by omega),e,take_get (by omega)]
  omega
theorem le_fill {k:Nat}{v p s:W}(hv:Okk k v)(e:v=p++s):¬ fill k v.length p<v:=by
 intro h
 have hl:(fill k v.length p).length=v.length:=fill_len (by rw [e,List.length_append];omega)
 obtain ⟨j,h1,h2,h3⟩:=lt_split hl h
 rw [hl] at h1
 by_cases hj:j<p.length
 ·have e1:(fill k v.length p).getD j 0=v.getD j 0:=by
   rw [List.getD_eq_getElem?_getD,List.getD_eq_getElem?_getD]
   unfold fill
   rw [List.getElem?_append_left hj]
   rw [e,List.getElem?_append_left hj]
  omega
 ·have e1:(fill k v.length p).getD j 0=96+k:=by
   rw [List.getD_eq_getElem?_getD]
   unfold fill
   rw [List.getElem?_append_right (by omega),List.getElem?_replicate_of_lt (by omega)]
   rfl
  have:=(okk_getD hv h1).2
  omega
theorem Jn.found {k:Nat}{w:W}{m:Nat}(hk:0<k)(ho:Okk k w)(h:Jn k w (m+1))(hm:m<w.length)(ha:97<w.getD m 0)(hl:Lst (fill k w.length (w.take m++[w.getD m 0-1]))):LL k w (fill k w.length (w.take m++[w.getD m 0-1])):=by
 have hg:=okk_getD ho hm
 have hmt:(w.take m).length=m:=by rw [List.length_take];omega
 have hlen:(fill k w.length (w.take m++[w.getD m 0-1])).length=w.length:=fill_len (by rw [List.length_append,List.length_singleton];omega)
 have hot:Okk k (w.take m):=fun c hc=>ho c (List.mem_of_mem_take hc)
 have e1:(fill k w.length (w.take m++[w.getD m 0-1])).take m=w.take m:=by
  unfold fill
  rw [List.append_assoc,List.take_left' hmt]
 have e2:(fill k w.length (w.take m++[w.getD m 0-1])).getD m 0=w.getD m 0-1:=by
  rw [List.getD_eq_getElem?_getD]
  unfold fill
  rw [List.append_assoc,List.getElem?_append_right (by omega),hmt,Nat.sub_self]
  rfl
 refine ⟨⟨hlen,okk_fill hk (okk_app.mpr ⟨hot,fun x hx=>by rw [List.mem_singleton] at hx;omega⟩),hl⟩,?_,?_⟩
 ·intro hlt
  exact ltir _ (ltt hlt (lt_join (p:=m) (by omega) hm e1 (by omega)))
 ·intro v hv hle hlt
  have hvl:=hv.len
  obtain ⟨p,h1,h2,h3⟩:=h.part (by omega) hv hle
  by_cases h5:p=m
  ·subst h5
   rcases Nat.lt_or_ge (v.getD p 0) (w.getD p 0-1) with h6 | h6
   ·exact ltir _ (ltt hlt (lt_join (p:=p) (by omega) (by omega) (by rw [e1,h2]) (by omega)))
   ·have hs:=take_split (w:=v) (m:=p) (by omega)
    have h7:=le_fill hv.ok (p:=w.take p++[w.getD p 0-1]) (s:=v.drop (p+1)) (by
     rw [<- h2,List.append_assoc,List.singleton_append,show w.getD p 0-1=v.getD p 0 by omega]
     exact hs)
    rw [hvl] at h7
    exact h7 hlt
  ·refine ltir _ (ltt hlt (lt_join (p:=p) (by omega) (by omega) ?_ ?_))
   ·have:=congrArg (List.take p) e1
    rw [List.take_take,List.take_take,Nat.min_eq_left (by omega)] at this
    rw [this,h2]
   ·have:(fill k w.length (w.take m++[w.getD m 0-1])).getD p 0=w.getD p 0:=getD_take (show p<m by omega) e1
    omega
theorem LL.self {k:Nat}{w:W}(ho:Okk k w)(h:Lst w):LL k w w:=⟨⟨rfl,ho,h⟩,ltir _,fun _ _ h=>h⟩
theorem lst_rep (c n:Nat):Lst (List.replicate n c):=by
 rw [lst_iff]
 intro j hj
 have:rot j (List.replicate n c)=List.replicate n c:=by
  apply ext_get
  ·rw [rot_length]
  ·intro i hi
   rw [rot_length] at hi
   have hn:0<(List.replicate n c).length:=by omega
   rw [rot_get (Nat.le_of_lt hj) hi]
   rw [List.length_replicate] at *
   rw [List.getElem?_replicate_of_lt hi,List.getElem?_replicate_of_lt (Nat.mod_lt _ (by omega))]
 rw [this]
 exact ltir _
theorem rep_low {k:Nat}{w:W}(ho:Okk k w):¬ w<List.replicate w.length 97:=by
 intro h
 obtain ⟨p,h1,_,h3⟩:=lt_split (by rw [List.length_replicate]) h
 have:=okk_getD ho h1
 rw [show (List.replicate w.length 97).getD p 0=97 by rw [List.getD_eq_getElem?_getD,List.getElem?_replicate_of_lt h1];rfl] at h3
 omega
theorem Jn.zero {k:Nat}{w:W}(hk:0<k)(ho:Okk k w):¬ Jn k w 0:=fun h=>by
 refine h (List.replicate w.length 97) ⟨List.length_replicate ..,fun c hc=>?_,lst_rep _ _⟩ (rep_low ho) rfl
 have:=List.eq_of_mem_replicate hc
 omega
end Wd
namespace Wd
theorem mem_allW {k n:Nat}{w:W}(hk:0<k):w∈allW k n↔w.length=n∧Okk k w:=by
 unfold allW
 rw [List.mem_map]
 constructor
 ·rintro ⟨i,_,rfl⟩
  exact ⟨spell_len k n i,spell_mem hk n i⟩
 ·rintro ⟨hl,ho⟩
  obtain ⟨h1,h2⟩:=spell_num n w hl ho
  exact ⟨num k w,List.mem_range.mpr h2,h1⟩
theorem allW_sorted {k n:Nat}(hk:0<k):(allW k n).Pairwise (· < ·):=by
 unfold allW
 rw [List.pairwise_map]
 refine List.Pairwise.imp_of_mem ?_ List.pairwise_lt_range
 intro a b _ hb hab
 exact spell_lt hk n a b hab (List.mem_range.mp hb)
def LO (k n:Nat):List W:=(allW k n).filter fun w=>decide (least w=w)
theorem mem_LO {k n:Nat}{w:W}(hk:0<k):w∈LO k n↔LW k n w:=by
 unfold LO
 rw [List.mem_filter,mem_allW hk,decide_eq_true_iff]
 constructor
 ·rintro ⟨⟨h1,h2⟩,h3⟩;exact ⟨h1,h2,h3.symm⟩
 ·rintro ⟨h1,h2,h3⟩;exact ⟨⟨h1,h2⟩,Eq.symm h3⟩
theorem LO_sorted {k n:Nat}(hk:0<k):(LO k n).Pairwise (· < ·):=(allW_sorted hk).filter _
theorem sorted_head {l:List W}{p:W->Bool}(h:l.Pairwise (· < ·)){w:W}{r:List W}(e:l.filter p=w::r):w∈l∧p w=true∧∀ v∈l,p v=true->¬ v<w:=by
 have h1:w∈l.filter p:=by rw [e];exact List.mem_cons_self
 have h2:=h.filter p
 rw [e] at h2
 refine ⟨(List.mem_filter.mp h1).1,(List.mem_filter.mp h1).2,fun v hv hp hlt=>?_⟩
 have h3:v∈w::r:=by rw [<- e];exact List.mem_filter.mpr ⟨hv,hp⟩
 rcases List.mem_cons.mp h3 with h4 | h4
 ·rw [h4] at hlt;exact ltir _ hlt
 ·exact ltir _ (ltt hlt ((List.pairwise_cons.mp h2).1 v h4))
def begs (p w:W):Bool:=decide (w.take p.length=p)
theorem begs_iff {p w:W}:begs p w=true↔∃ s,w=p++s:=by
 unfold begs
 rw [decide_eq_true_iff]
 constructor
 ·intro h
  exact ⟨w.drop p.length,by conv=>lhs;rw [<- List.take_append_drop p.length w,h]⟩
 ·rintro ⟨s,rfl⟩
  exact List.take_left' rfl
theorem begs_head {k n:Nat}{p w:W}{r:List W}(hk:0<k)(e:(LO k n).filter (begs p)=w::r):LB k n p w:=by
 obtain ⟨h1,h2,h3⟩:=sorted_head (LO_sorted hk) e
 refine ⟨(mem_LO hk).mp h1,begs_iff.mp h2,fun v hv hs=>h3 v ((mem_LO hk).mpr hv) (begs_iff.mpr hs)⟩
theorem rep_letter (m c:Nat):rep m [c]=List.replicate m c:=by
 induction m with
 | zero=>rfl
 | succ m ih=>rw [rep_succ,ih,List.replicate_succ];rfl
end Wd
namespace Wd
end Wd
namespace Wd
theorem okk_rot {k j:Nat}{w:W}(h:Okk k w):Okk k (rot j w):=fun c hc=>by
 unfold rot at hc
 rcases List.mem_append.mp hc with z | z
 ·exact h c (List.mem_of_mem_drop z)
 ·exact h c (List.mem_of_mem_take z)
theorem lw_least {k:Nat}{w:W}(h0:0<w.length)(ho:Okk k w):LW k w.length (least w):=by
 obtain ⟨i,hi,e⟩:=least_mem h0
 refine ⟨by rw [e,rot_length],by rw [e];exact okk_rot ho,?_⟩
 show least w=least (least w)
 conv=>rhs;rw [e,least_rot hi]
theorem between {p a b v:W}(ha:∃ s,a=p++s)(hb:∃ s,b=p++s)(hv:p.length<=v.length)(h1:¬ v<a)(h2:¬ b<v):∃ s,v=p++s:=by
 obtain ⟨x,rfl⟩:=ha
 obtain ⟨y,rfl⟩:=hb
 refine ⟨v.drop p.length,?_⟩
 have hl:(v.take p.length).length=p.length:=by rw [List.length_take];omega
 have e:v=v.take p.length++v.drop p.length:=(List.take_append_drop _ _).symm
 have h3:¬ v.take p.length<p:=fun z=>h1 (by rw [e];exact lt_app z (by omega) _ _)
 have h4:¬ p<v.take p.length:=fun z=>h2 (by rw [e];exact lt_app z (by omega) _ _)
 conv=>lhs;rw [e,tri h3 h4]
end Wd
namespace Wd
theorem rp_of_rots {w:W}{i j:Nat}(hij:i<=j)(hj:j<=w.length)(h:rot i w=rot j w):Rp w (j-i):=by
 intro x
 rcases Nat.eq_zero_or_pos w.length with z | hn
 ·have:w=[]:=List.length_eq_zero_iff.mp z
  subst this
  rfl
 ·have hm:=Nat.mod_lt (x % w.length+w.length-i) hn
  have e:=congrArg (fun l:W=>l[(x % w.length+w.length-i) % w.length]?) h
  rw [rot_get (by omega) hm,rot_get hj hm,Nat.add_mod_mod,Nat.add_mod_mod] at e
  rw [show i+(x % w.length+w.length-i)=x % w.length+w.length by omega,Nat.add_mod_right,Nat.mod_mod] at e
  rw [show j+(x % w.length+w.length-i)=(x % w.length+(j-i))+w.length by omega,Nat.add_mod_right,Nat.mod_add_mod] at e
  exact e
theorem rot_mod {w:W}{p k:Nat}(h:Rp w p)(hk:k<=w.length):rot k w=rot (k % p) w:=by
 have hle:k % p<=w.length:=Nat.le_trans (Nat.mod_le _ _) hk
 apply ext_get
 ·rw [rot_length,rot_length]
 ·intro m hm
  rw [rot_length] at hm
  rw [rot_get hk hm,rot_get hle hm]
  have e:=h.mul (k/p) (k % p+m)
  rw [e]
  congr 2
  have:=Nat.div_add_mod k p
  rw [Nat.mul_comm] at this
  omega
theorem nodup_le:∀ (a b:List W),a.Nodup->(∀ x∈a,x∈b)->a.length<=b.length
 | [],b,_,_=>Nat.zero_le _
 | x::a,b,hn,hs=>by
  obtain ⟨h1,h2⟩:=List.nodup_cons.mp hn
  have hx:x∈b:=hs x List.mem_cons_self
  have:=nodup_le a (b.erase x) h2 fun y hy=>(List.mem_erase_of_ne (fun e=>h1 (by rw [<- e];exact hy))).mpr (hs y (List.mem_cons_of_mem _ hy))
  rw [List.length_erase_of_mem hx] at this
  have hp:0<b.length:=List.length_pos_of_mem hx
  rw [List.length_cons]
  omega
theorem turns_count {w:W}{p:Nat}(h:RootLen w p)(u:List W)(hu:u.Nodup)(hm:∀ x,x∈u↔x∈(List.range w.length).map fun k=>rot k w):u.length=p:=by
 obtain ⟨r1,r2,r3⟩:=h.rp
 have hpos:=h.pos
 have hle:=h.le
 have hd:((List.range p).map fun k=>rot k w).Nodup:=by
  unfold List.Nodup
  rw [List.pairwise_iff_getElem]
  intro i j hi hj hij e
  rw [List.length_map,List.length_range] at hi hj
  rw [List.getElem_map,List.getElem_map,List.getElem_range,List.getElem_range] at e
  exact r3 (j-i) (by omega) (by omega) (rp_of_rots (by omega) (by omega) e)
 have hs:∀ x,x∈u↔x∈(List.range p).map fun k=>rot k w:=fun x=>by
  rw [hm x,List.mem_map,List.mem_map]
  constructor
  ·rintro ⟨k,hk,rfl⟩
   have hk':=List.mem_range.mp hk
   exact ⟨k % p,List.mem_range.mpr (Nat.mod_lt _ hpos),(rot_mod r1 (by omega)).symm⟩
  ·rintro ⟨k,hk,rfl⟩
   have hk':=List.mem_range.mp hk
   exact ⟨k,List.mem_range.mpr (by omega),rfl⟩
 have l1:=nodup_le u _ hu fun x hx=>(hs x).mp hx
 have l2:=nodup_le _ u hd fun x hx=>(hs x).mpr hx
 rw [List.length_map,List.length_range] at l1 l2
 omega
end Wd
namespace Wd
def Exq (w s:W):Prop:=∃ p,p<s.length∧p<w.length∧(∀ t,t<p->s.getD t 0=w.getD t 0)∧w.getD p 0<s.getD p 0
def Pd (w v:W):Prop:=∀ d,d<v.length->Exq w (v.drop d)
theorem getD_drop (v:W)(d t:Nat):(v.drop d).getD t 0=v.getD (d+t) 0:=by
 rw [List.getD_eq_getElem?_getD,List.getD_eq_getElem?_getD,List.getElem?_drop]
theorem getD_app_l {a b:W}{t:Nat}(h:t<a.length):(a++b).getD t 0=a.getD t 0:=by
 rw [List.getD_eq_getElem?_getD,List.getD_eq_getElem?_getD,List.getElem?_append_left h]
theorem getD_app_r {a b:W}{t:Nat}(h:a.length<=t):(a++b).getD t 0=b.getD (t-a.length) 0:=by
 rw [List.getD_eq_getElem?_getD,List.getD_eq_getElem?_getD,List.getElem?_append_right h]
theorem getD_tk {a:W}{t m:Nat}(h:t<m):(a.take m).getD t 0=a.getD t 0:=by
 rw [List.getD_eq_getElem?_getD,List.getD_eq_getElem?_getD,List.getElem?_take_of_lt h]
theorem ext_getD {a b:W}(hl:a.length=b.length)(h:∀ i,i<a.length->a.getD i 0=b.getD i 0):a=b :=
 ext_get hl fun i hi=>by rw [gD hi,gD (by omega),h i hi]
theorem Exq.app {w s:W}(h:Exq w s)(r:W):Exq w (s++r):=by
 obtain ⟨p,h1,h2,h3,h4⟩:=h
 refine ⟨p,by rw [List.length_append];omega,h2,fun t ht=>?_,?_⟩
 ·rw [getD_app_l (by omega)];exact h3 t ht
 ·rw [getD_app_l h1];exact h4
theorem ex_lt {w u:W}(hl:u.length=w.length):Exq w u↔w<u:=by
 constructor
 ·rintro ⟨p,h1,h2,h3,h4⟩
  refine lt_join (p:=p) h2 h1 (ext_getD ?_ fun i hi=>?_) h4
  ·rw [List.length_take,List.length_take,hl]
  ·rw [List.length_take] at hi
   rw [getD_tk (by omega),getD_tk (by omega),h3 i (by omega)]
 ·intro h
  obtain ⟨p,h1,h2,h3⟩:=lt_split hl.symm h
  exact ⟨p,by omega,h1,fun t ht=>(getD_take ht h2).symm,h3⟩
theorem Exq.uniq {w s:W}{p q:Nat}(h1:∀ t,t<p->s.getD t 0=w.getD t 0)(h2:w.getD p 0<s.getD p 0)(h3:∀ t,t<q->s.getD t 0=w.getD t 0)(h4:w.getD q 0<s.getD q 0):p=q:=by
 rcases Nat.lt_trichotomy p q with h | h | h
 ·have:=h3 p h;omega
 ·exact h
 ·have:=h1 q h;omega
theorem lst_cmp {w:W}(hw:Lst w){d:Nat}:∀ m,d+m<=w.length->(∀ t,t<m->w.getD (d+t) 0=w.getD t 0)∨∃ i,i<m∧(∀ t,t<i->w.getD (d+t) 0=w.getD t 0)∧w.getD i 0<w.getD (d+i) 0
 | 0,_=>.inl fun t ht=>absurd ht (by omega)
 | m+1,hm=>by
  rcases lst_cmp (d:=d) hw m (by omega) with h | ⟨i,hi,h1,h2⟩
  ·have hno:=lst_nle.mp hw d (by omega)
   have hle:¬ w.getD (d+m) 0<w.getD m 0:=fun hlt=>hno ⟨m,by omega,fun t ht=>by
    show w.getD ((d+t) % w.length) 0=w.getD t 0
    rw [Nat.mod_eq_of_lt (by omega)];exact h t ht,by
    show w.getD ((d+m) % w.length) 0<w.getD m 0
    rw [Nat.mod_eq_of_lt (by omega)];exact hlt⟩
   by_cases e:w.getD (d+m) 0=w.getD m 0
   ·refine .inl fun t ht=>?_
    by_cases et:t=m
    ·rw [et];exact e
    ·exact h t (by omega)
   ·exact .inr ⟨m,by omega,h,by omega⟩
  ·exact .inr ⟨i,by omega,h1,h2⟩
theorem ex_in {w r:W}(hw:Lst w){p d x:Nat}(hp:p<w.length)(hd:d<=p)(hx:w.getD p 0<x):Exq w ((w.take p).drop d++x::r):=by
 have hl:((w.take p).drop d).length=p-d:=by rw [List.length_drop,List.length_take];omega
 have hat:∀ t,t<p-d->((w.take p).drop d++x::r).getD t 0=w.getD (d+t) 0:=fun t ht=>by
  rw [getD_app_l (by omega),getD_drop,getD_tk (by omega)]
 have hend:((w.take p).drop d++x::r).getD (p-d) 0=x:=by
  rw [getD_app_r (by omega),hl,Nat.sub_self];rfl
 have hlen:((w.take p).drop d++x::r).length=p-d+1+r.length:=by rw [List.length_append,hl,List.length_cons];omega
 rcases lst_cmp hw (d:=d) (p-d) (by omega) with h | ⟨i,hi,h1,h2⟩
 ·refine ⟨p-d,by omega,by omega,fun t ht=>by rw [hat t ht];exact h t ht,?_⟩
  rw [hend]
  rcases lst_cmp hw (d:=d) (p-d+1) (by omega) with h' | ⟨i,hi,h1,h2⟩
  ·have:=h' (p-d) (by omega)
   rw [show d+(p-d)=p by omega] at this
   omega
  ·have e:i=p-d:=by
    refine Classical.byContradiction fun e=>?_
    have:=h i (by omega)
    omega
   subst e
   rw [show d+(p-d)=p by omega] at h2
   omega
 ·exact ⟨i,by omega,by omega,fun t ht=>by rw [hat t (by omega)];exact h1 t ht,by rw [hat i hi];exact h2⟩
theorem Pd.parts {w v:W}(h:Pd w v)(h0:0<v.length):∃ p,p<v.length∧p<w.length∧v.take p=w.take p∧w.getD p 0<v.getD p 0∧v=w.take p++v.getD p 0::v.drop (p+1)∧Pd w (v.drop (p+1)):=by
 obtain ⟨p,h1,h2,h3,h4⟩:=h 0 h0
 rw [List.drop_zero] at h1 h3 h4
 have he:v.take p=w.take p:=ext_getD (by rw [List.length_take,List.length_take];omega) fun i hi=>by
  rw [List.length_take] at hi
  rw [getD_tk (by omega),getD_tk (by omega),h3 i (by omega)]
 refine ⟨p,h1,h2,he,h4,?_,fun d hd=>?_⟩
 ·rw [<- he];exact take_split h1
 ·rw [List.length_drop] at hd
  rw [List.drop_drop]
  exact h (p+1+d) (by omega)
theorem drop_blk {w r:W}{p x d:Nat}(hp:p<w.length)(hd:d<=p):(w.take p++x::r).drop d=(w.take p).drop d++x::r:=List.drop_append_of_le_length (by rw [List.length_take];omega)
theorem drop_rest {w r:W}{p x d:Nat}(hp:p<w.length)(hd:p<d):(w.take p++x::r).drop d=r.drop (d-p-1):=by
 have hl:(w.take p).length=p:=by rw [List.length_take];omega
 rw [List.drop_append,List.drop_eq_nil_of_le (by omega),List.nil_append,hl,show d-p=(d-p-1)+1 by omega,List.drop_succ_cons]
 rfl
theorem blk_len {w r:W}{p x:Nat}(hp:p<w.length):(w.take p++x::r).length=p+1+r.length:=by rw [List.length_append,List.length_take,List.length_cons];omega
theorem pd_blk {w r:W}(hw:Lst w){p x:Nat}(hp:p<w.length)(hx:w.getD p 0<x)(hr:Pd w r):Pd w (w.take p++x::r):=fun d hd=>by
 rw [blk_len hp] at hd
 by_cases h:d<=p
 ·rw [drop_blk hp h];exact ex_in hw hp h hx
 ·rw [drop_rest hp (by omega)];exact hr _ (by omega)
def gr (k:Nat)(w:W)(p:Nat):List Nat:=(List.range (96+k-w.getD p 0)).map fun c=>w.getD p 0+1+c
theorem gr_len (k:Nat)(w:W)(p:Nat):(gr k w p).length=96+k-w.getD p 0:=by rw [gr,List.length_map,List.length_range]
theorem mem_gr {k:Nat}{w:W}{p x:Nat}:x∈gr k w p↔w.getD p 0<x∧x<97+k:=by
 unfold gr
 rw [List.mem_map]
 constructor
 ·rintro ⟨c,hc,rfl⟩
  have:=List.mem_range.mp hc
  omega
 ·intro h
  exact ⟨x-w.getD p 0-1,List.mem_range.mpr (by omega),by omega⟩
theorem gr_nodup (k:Nat)(w:W)(p:Nat):(gr k w p).Nodup:=List.pairwise_map.mpr (List.nodup_range.imp fun h e=>h (by omega))
def pw (k:Nat)(w:W):Nat->List W
 | 0=>[[]]
 | t+1=>(List.range (t+1)).flatMap fun p=>(gr k w p).flatMap fun x=>(pw k w (t-p)).map fun r=>w.take p++x::r
termination_by t=>t
decreasing_by omega
theorem pw_zero (k:Nat)(w:W):pw k w 0=[[]]:=by rw [pw]
theorem pw_succ (k:Nat)(w:W)(t:Nat):pw k w (t+1)=(List.range (t+1)).flatMap fun p=>(gr k w p).flatMap fun x=>(pw k w (t-p)).map fun r=>w.take p++x::r:=by rw [pw]
theorem okk_take {k m:Nat}{w:W}(h:Okk k w):Okk k (w.take m):=fun c hc=>h c (List.mem_of_mem_take hc)
theorem okk_drop {k m:Nat}{w:W}(h:Okk k w):Okk k (w.drop m):=fun c hc=>h c (List.mem_of_mem_drop hc)
theorem mem_pw {k:Nat}{w:W}(hw:Lst w)(ho:Okk k w):∀ (n t:Nat),t<=n->t<=w.length->∀ v,v∈pw k w t↔v.length=t∧Okk k v∧Pd w v:=by
 intro n
 induction n with
 | zero =>
  intro t ht _ v
  obtain rfl:t=0:=by omega
  rw [pw_zero,List.mem_singleton]
  constructor
  ·rintro rfl
   exact ⟨rfl,fun c hc=>by simp at hc,fun d hd=>by simp at hd⟩
  ·rintro ⟨h,_⟩
   exact List.length_eq_zero_iff.mp h
 | succ n ih =>
  intro t ht htw v
  cases t with
  | zero=>exact ih 0 (by omega) (by omega) v
  | succ t =>
   rw [pw_succ,List.mem_flatMap]
   constructor
   ·rintro ⟨p,hp,h⟩
    have hp:=List.mem_range.mp hp
    obtain ⟨x,hx,h⟩:=List.mem_flatMap.mp h
    obtain ⟨r,hr,rfl⟩:=List.mem_map.mp h
    obtain ⟨h1,h2,h3⟩:=(ih (t-p) (by omega) (by omega) r).mp hr
    obtain ⟨x1,x2⟩:=mem_gr.mp hx
    have hok:=okk_getD ho (i:=p) (by omega)
    refine ⟨by rw [blk_len (by omega)];omega,okk_app.mpr ⟨okk_take ho,fun c hc=>?_⟩,pd_blk hw (by omega) x1 h3⟩
    rcases List.mem_cons.mp hc with rfl | hc
    ·omega
    ·exact h2 c hc
   ·rintro ⟨h1,h2,h3⟩
    obtain ⟨p,hp1,hp2,he,hx,e,hr⟩:=h3.parts (by omega)
    have hv:=okk_getD h2 hp1
    refine ⟨p,List.mem_range.mpr (by omega),List.mem_flatMap.mpr ⟨v.getD p 0,mem_gr.mpr ⟨hx,hv.2⟩,List.mem_map.mpr ⟨v.drop (p+1),(ih (t-p) (by omega) (by omega) _).mpr ⟨by rw [List.length_drop];omega,okk_drop h2,hr⟩,e.symm⟩⟩⟩
theorem blk_inj {w r r':W}{p p' x x':Nat}(hp:p<w.length)(hp':p'<w.length)(hx:w.getD p 0<x)(hx':w.getD p' 0<x')(e:w.take p++x::r=w.take p'++x'::r'):p=p'∧x=x'∧r=r':=by
 have key:∀ {p x:Nat} {r:W},p<w.length->(∀ t,t<p->(w.take p++x::r).getD t 0=w.getD t 0)∧(w.take p++x::r).getD p 0=x:=fun {p x r} hp=>by
  have hl:(w.take p).length=p:=by rw [List.length_take];omega
  refine ⟨fun t ht=>by rw [getD_app_l (by omega),getD_tk ht],?_⟩
  rw [getD_app_r (by omega),hl,Nat.sub_self];rfl
 have k1:=key (x:=x) (r:=r) hp
 have k2:=key (x:=x') (r:=r') hp'
 rw [<- e] at k2
 have hpp:p=p':=Exq.uniq (w:=w) (s:=w.take p++x::r) k1.1 (by rw [k1.2];exact hx) k2.1 (by rw [k2.2];exact hx')
 subst hpp
 have:=List.append_cancel_left e
 exact ⟨rfl,List.cons.inj this⟩
theorem nodup_fm {α β:Type}{l:List α}{f:α->List β}(hl:l.Nodup)(h1:∀ a∈l,(f a).Nodup)(h2:∀ a∈l,∀ b∈l,∀ x,x∈f a->x∈f b->a=b):(l.flatMap f).Nodup:=by
 induction l with
 | nil=>exact List.nodup_nil
 | cons a l ih =>
  rw [List.flatMap_cons]
  have hl':=List.nodup_cons.mp hl
  refine List.nodup_append.mpr ⟨h1 a (List.mem_cons_self ..),ih hl'.2 (fun b hb=>h1 b (List.mem_cons_of_mem _ hb)) (fun b hb c hc=>h2 b (List.mem_cons_of_mem _ hb) c (List.mem_cons_of_mem _ hc)),fun x hx y hy e=>?_⟩
  subst e
  obtain ⟨b,hb,hy⟩:=List.mem_flatMap.mp hy
  have:=h2 a (List.mem_cons_self ..) b (List.mem_cons_of_mem _ hb) x hx hy
  exact hl'.1 (this▸hb)
theorem nodup_mp {α β:Type}{l:List α}{f:α->β}(hl:l.Nodup)(h:∀ a∈l,∀ b∈l,f a=f b->a=b):(l.map f).Nodup :=
 List.pairwise_map.mpr (List.Pairwise.imp_of_mem (fun {a b} ha hb hab e=>hab (h a ha b hb e)) hl)
theorem pw_nodup {k:Nat}{w:W}(hw:Lst w)(ho:Okk k w):∀ (n t:Nat),t<=n->t<=w.length->(pw k w t).Nodup:=by
 intro n
 induction n with
 | zero =>
  intro t ht _
  obtain rfl:t=0:=by omega
  rw [pw_zero]
  simp
 | succ n ih =>
  intro t ht htw
  cases t with
  | zero=>exact ih 0 (by omega) (by omega)
  | succ t =>
   rw [pw_succ]
   refine nodup_fm List.nodup_range (fun p hp=>nodup_fm (gr_nodup ..) (fun x hx=>nodup_mp (ih _ (by omega) (by omega)) fun a _ b _ e=>?_) fun x hx y hy v hv hv'=>?_) fun p hp p' hp' v hv hv'=>?_
   ·exact (List.cons.inj (List.append_cancel_left e)).2
   ·obtain ⟨r,_,rfl⟩:=List.mem_map.mp hv
    obtain ⟨r',_,e⟩:=List.mem_map.mp hv'
    exact (List.cons.inj (List.append_cancel_left e)).1.symm
   ·obtain ⟨x,hx,h⟩:=List.mem_flatMap.mp hv
    obtain ⟨r,_,rfl⟩:=List.mem_map.mp h
    obtain ⟨x',hx',h'⟩:=List.mem_flatMap.mp hv'
    obtain ⟨r',_,e⟩:=List.mem_map.mp h'
    have:=List.mem_range.mp hp
    have:=List.mem_range.mp hp'
    exact (blk_inj (by omega) (by omega) (mem_gr.mp hx').1 (mem_gr.mp hx).1 e).1.symm
theorem sum_const {α:Type}(l:List α)(c:Nat):(l.map fun _=>c).sum=l.length*c:=by
 induction l with
 | nil=>simp
 | cons a l ih=>rw [List.map_cons,List.sum_cons,ih,List.length_cons,Nat.succ_mul];omega
theorem fm_len {α β:Type}(l:List α)(f:α->List β)(c:Nat)(h:∀ a,(f a).length=c):(l.flatMap f).length=l.length*c:=by
 rw [List.length_flatMap,show (l.map fun a=>(f a).length)=l.map fun _=>c from List.map_congr_left fun a _=>h a,sum_const]
theorem pw_len (k:Nat)(w:W)(t:Nat):(pw k w (t+1)).length=((List.range (t+1)).map fun p=>(96+k-w.getD p 0)*(pw k w (t-p)).length).sum:=by
 rw [pw_succ,List.length_flatMap]
 refine congrArg List.sum (List.map_congr_left fun p _=>?_)
 rw [fm_len _ _ (pw k w (t-p)).length (fun x=>List.length_map ..),gr_len]
theorem rot_inj {j:Nat}{a b:W}(hl:a.length=b.length)(h:rot j a=rot j b):a=b:=by
 unfold rot at h
 obtain ⟨h1,h2⟩:=List.append_inj h (by rw [List.length_drop,List.length_drop,hl])
 rw [<- List.take_append_drop j a,<- List.take_append_drop j b,h1,h2]
theorem Pd.turns {w v:W}(h:Pd w v)(hl:v.length=w.length){d:Nat}(hd:d<v.length):w<rot d v :=
 (ex_lt (by rw [rot_length,hl])).mp ((h d hd).app _)
theorem least_lst {u:W}(h0:0<u.length):Lst (least u):=by
 obtain ⟨i,hi,e⟩:=least_mem h0
 show least u=least (least u)
 rw [e,least_rot hi,<- e]
theorem least_len (u:W):(least u).length=u.length:=by rw [least_eq,rot_length]
theorem turns_least {w u:W}(h0:0<u.length):(∀ d,d<u.length->w<rot d u)↔w<least u:=by
 constructor
 ·intro h
  obtain ⟨i,hi,e⟩:=least_mem h0
  rw [e];exact h i hi
 ·intro h d hd
  exact ltle h (least_min hd)
theorem least_pd {w u:W}(hw:Lst w)(hl:u.length=w.length)(h0:0<u.length)(h:w<least u):Pd w (least u):=by
 intro d hd
 have hlv:(least u).length=w.length:=by rw [least_len,hl]
 have hv:=least_lst h0
 have hnle:=lst_nle.mp hv
 have hturn:w<rot d (least u):=ltle h (lst_iff.mp hv d hd)
 generalize least u=v at hlv hv hnle h hd hturn
 obtain ⟨p,h1,h2,h3,h4⟩:=(ex_lt (by rw [rot_length,hlv])).mpr hturn
 rw [rot_length] at h1
 have hrot:∀ t,t<v.length->(rot d v).getD t 0=v.getD ((d+t) % v.length) 0:=fun t ht=>by
  rw [List.getD_eq_getElem?_getD,rot_get (by omega) ht,<- List.getD_eq_getElem?_getD]
 by_cases hp:p<v.length-d
 ·refine ⟨p,by rw [List.length_drop];exact hp,h2,fun t ht=>?_,?_⟩
  ·rw [getD_drop,<- h3 t ht,hrot t (by omega),Nat.mod_eq_of_lt (by omega)]
  ·rw [getD_drop]
   rw [hrot p h1,Nat.mod_eq_of_lt (by omega)] at h4
   exact h4
 ·exfalso
  have hd0:0<d:=by omega
  obtain ⟨q,q1,q2,q3,q4⟩:=(ex_lt hlv).mpr h
  obtain ⟨m,hm⟩:∃ m,m=v.length-d:=⟨_,rfl⟩
  have a1:∀ t,t<m->v.getD (d+t) 0=w.getD t 0:=fun t ht=>by
   have:=h3 t (by omega)
   rw [hrot t (by omega),Nat.mod_eq_of_lt (by omega)] at this
   exact this
  have hq:m<=q:=by
   refine Classical.byContradiction fun hq=>hnle d hd ⟨q,q1,fun t ht=>?_,?_⟩
   ·show v.getD ((d+t) % v.length) 0=v.getD t 0
    rw [Nat.mod_eq_of_lt (by omega),a1 t (by omega),q3 t ht]
   ·show v.getD ((d+q) % v.length) 0<v.getD q 0
    rw [Nat.mod_eq_of_lt (by omega),a1 q (by omega)]
    exact q4
  have a2:∀ t,t<m->v.getD ((d+t) % v.length) 0=v.getD t 0:=fun t ht=>by
   rw [Nat.mod_eq_of_lt (by omega),a1 t ht,q3 t (by omega)]
  have a3:∀ n t,t<n->t<d->v.getD (m+t) 0=v.getD t 0:=by
   intro n
   induction n with
   | zero=>intro t ht;omega
   | succ n ih =>
    intro t ht htd
    have i1:¬ v.getD t 0<v.getD (m+t) 0:=fun hlt=>hnle d hd ⟨m+t,by omega,fun s hs=>?_,?_⟩
    have i2:¬ v.getD (m+t) 0<v.getD t 0:=fun hlt=>hnle m (by omega) ⟨t,by omega,fun s hs=>?_,?_⟩
    ·omega
    ·show v.getD ((m+s) % v.length) 0=v.getD s 0
     rw [Nat.mod_eq_of_lt (by omega)]
     exact ih s (by omega) (by omega)
    ·show v.getD ((m+t) % v.length) 0<v.getD t 0
     rw [Nat.mod_eq_of_lt (by omega)]
     exact hlt
    ·show v.getD ((d+s) % v.length) 0=v.getD s 0
     by_cases hsm:s<m
     ·exact a2 s hsm
     ·rw [show d+s=(s-m)+v.length by omega,Nat.add_mod_right,Nat.mod_eq_of_lt (by omega),<- ih (s-m) (by omega) (by omega),show m+(s-m)=s by omega]
    ·show v.getD ((d+(m+t)) % v.length) 0<v.getD (m+t) 0
     rw [show d+(m+t)=t+v.length by omega,Nat.add_mod_right,Nat.mod_eq_of_lt (by omega)]
     exact hlt
  refine lst_nle.mp hw m (by omega) ⟨q-m,by omega,fun t ht=>?_,?_⟩
  ·show w.getD ((m+t) % w.length) 0=w.getD t 0
   rw [Nat.mod_eq_of_lt (by omega),<- q3 (m+t) (by omega),<- q3 t (by omega)]
   exact a3 (t+1) t (by omega) (by omega)
  ·show w.getD ((m+(q-m)) % w.length) 0<w.getD (q-m) 0
   have:=a3 (q-m+1) (q-m) (by omega) (by omega)
   rw [show m+(q-m)=q by omega] at this ⊢
   rw [Nat.mod_eq_of_lt (by omega),<- q3 (q-m) (by omega),<- this]
   exact q4
theorem pd_next {w r:W}(hw:Lst w){p x:Nat}(hp:p<w.length)(hx:w.getD p 0<x)(hr:Pd w r):Pd w (r++(w.take p++[x])):=fun d hd=>by
 rw [List.length_append,blk_len hp] at hd
 by_cases h:d<r.length
 ·rw [List.drop_append_of_le_length (by omega)]
  exact (hr d h).app _
 ·have e:d=r.length+(d-r.length):=by omega
  rw [e,List.drop_append]
  rw [show (r.drop (r.length+(d-r.length)))=[] from List.drop_eq_nil_of_le (by omega),List.nil_append,show r.length+(d-r.length)-r.length=d-r.length by omega]
  have:d-r.length<=p:=by simp at hd;omega
  rw [drop_blk hp this]
  exact ex_in hw hp this hx
theorem rot_back {u:W}{j:Nat}(hj:j<u.length):rot j (rot ((u.length-j) % u.length) u)=u:=by
 have h0:0<u.length:=by omega
 rw [rot_rot hj (Nat.mod_lt _ h0),Nat.add_mod_mod,show j+(u.length-j)=u.length by omega,Nat.mod_self,rot_zero]
def gl (k:Nat)(w:W):List W:=(List.range w.length).flatMap fun p=>(List.range (p+1)).flatMap fun j=>(gr k w p).flatMap fun x=>(pw k w (w.length-1-p)).map fun r=>rot j (w.take p++x::r)
theorem mem_gl {k:Nat}{w u:W}(hw:Lst w)(ho:Okk k w):u∈gl k w↔(u.length=w.length∧Okk k u)∧w<least u:=by
 unfold gl
 rw [List.mem_flatMap]
 constructor
 ·rintro ⟨p,hp,h⟩
  have hp:=List.mem_range.mp hp
  obtain ⟨j,hj,h⟩:=List.mem_flatMap.mp h
  have hj:=List.mem_range.mp hj
  obtain ⟨x,hx,h⟩:=List.mem_flatMap.mp h
  obtain ⟨r,hr,rfl⟩:=List.mem_map.mp h
  obtain ⟨x1,x2⟩:=mem_gr.mp hx
  obtain ⟨r1,r2,r3⟩:=(mem_pw hw ho _ _ (Nat.le_refl _) (by omega) r).mp hr
  have hvl:(w.take p++x::r).length=w.length:=by rw [blk_len hp];omega
  have hpd:=pd_blk hw hp x1 r3
  have hok:=okk_getD ho hp
  refine ⟨⟨by rw [rot_length,hvl],okk_rot (okk_app.mpr ⟨okk_take ho,fun c hc=>?_⟩)⟩,?_⟩
  ·rcases List.mem_cons.mp hc with rfl | hc
   ·omega
   ·exact r2 c hc
  ·rw [least_rot (by omega)]
   exact (turns_least (by omega)).mp fun d hd=>hpd.turns hvl hd
 ·rintro ⟨⟨hl,hok⟩,hlt⟩
  have h0:0<u.length:=by
   refine Nat.pos_of_ne_zero fun e=>?_
   rw [List.length_eq_zero_iff.mp e] at hlt hl
   rw [List.length_eq_zero_iff.mp hl.symm] at hlt
   exact ltir _ hlt
  have hex:∃ j,j<u.length∧Pd w (rot ((u.length-j) % u.length) u):=by
   obtain ⟨i,hi,e⟩:=least_mem h0
   have:=least_pd hw hl h0 hlt
   rw [e] at this
   by_cases hi0:i=0
   ·exact ⟨0,h0,by rw [Nat.sub_zero,Nat.mod_self];rw [hi0] at this;exact this⟩
   ·exact ⟨u.length-i,by omega,by rw [show u.length-(u.length-i)=i by omega,Nat.mod_eq_of_lt hi];exact this⟩
  obtain ⟨j,⟨hj,hpd⟩,hmin⟩:∃ j,(j<u.length∧Pd w (rot ((u.length-j) % u.length) u))∧∀ i,i<j->¬ (i<u.length∧Pd w (rot ((u.length-i) % u.length) u)):=by
   obtain ⟨j,hj⟩:=hex
   have:∀ n,∀ j,j<n->(j<u.length∧Pd w (rot ((u.length-j) % u.length) u))->∃ j,(j<u.length∧Pd w (rot ((u.length-j) % u.length) u))∧∀ i,i<j->¬ (i<u.length∧Pd w (rot ((u.length-i) % u.length) u)):=by
    intro n
    induction n with
    | zero=>intro j hj;omega
    | succ n ih =>
     intro j hj h
     by_cases hm:∃ i,i<j∧(i<u.length∧Pd w (rot ((u.length-i) % u.length) u))
     ·obtain ⟨i,hi,h'⟩:=hm
      exact ih i (by omega) h'
     ·exact ⟨j,h,fun i hi h'=>hm ⟨i,hi,h'⟩⟩
   exact this (j+1) j (by omega) hj
  have hu:=rot_back hj
  generalize hv:rot ((u.length-j) % u.length) u=v at hpd hu
  have hvl:v.length=u.length:=by rw [<- hv,rot_length]
  have hvo:Okk k v:=by rw [<- hv];exact okk_rot hok
  obtain ⟨p,hp1,hp2,he,hx,e,hr⟩:=hpd.parts (by omega)
  have hjp:j<=p:=by
   refine Classical.byContradiction fun hjp=>hmin (j-p-1) (by omega) ⟨by omega,?_⟩
   have h1:=pd_next hw hp2 hx hr
   have h2:rot (p+1) v=v.drop (p+1)++(w.take p++[v.getD p 0]):=by
    unfold rot
    rw [<- he,<- take_snoc hp1]
   rw [<- h2,<- hv,rot_rot (by omega) (Nat.mod_lt _ h0),Nat.add_mod_mod] at h1
   rw [show u.length-(j-p-1)=p+1+(u.length-j) by omega]
   exact h1
  refine ⟨p,List.mem_range.mpr hp2,List.mem_flatMap.mpr ⟨j,List.mem_range.mpr (by omega),List.mem_flatMap.mpr ⟨v.getD p 0,mem_gr.mpr ⟨hx,(okk_getD hvo hp1).2⟩,List.mem_map.mpr ⟨v.drop (p+1),(mem_pw hw ho _ _ (Nat.le_refl _) (by omega) _).mpr ⟨by rw [List.length_drop];omega,okk_drop hvo,hr⟩,?_⟩⟩⟩⟩
  rw [<- e]
  exact hu
theorem not_ex_self {w:W}{d:Nat}:¬ Exq w (w.take d):=by
 rintro ⟨p,h1,h2,h3,h4⟩
 rw [List.length_take] at h1
 rw [getD_tk (by omega)] at h4
 omega
theorem rot_blk_lt {w r r':W}{p p' j j' x x':Nat}(hp:p<w.length)(hp':p'<w.length)(hj:j<=p)(hj':j'<=p')(hx:w.getD p 0<x)(hl:(w.take p++x::r).length=w.length)(hl':(w.take p'++x'::r').length=w.length)(hpd:Pd w (w.take p++x::r))(e:rot j (w.take p++x::r)=rot j' (w.take p'++x'::r')):¬ j<j':=by
 intro hlt
 generalize hv:w.take p++x::r=v at *
 have h1:v=rot (j'-j) (w.take p'++x'::r'):=by
  refine rot_inj (j:=j) (by rw [rot_length];omega) ?_
  rw [rot_rot (by omega) (by omega),show j+(j'-j)=j' by omega,Nat.mod_eq_of_lt (by omega)]
  exact e
 have h2:=hpd (w.length-(j'-j)) (by omega)
 have h3:v.drop (w.length-(j'-j))=w.take (j'-j):=by
  rw [h1]
  unfold rot
  rw [List.drop_append,List.length_drop,hl',Nat.sub_self,List.drop_zero,List.drop_eq_nil_of_le (by rw [List.length_drop,hl'];omega),List.nil_append,List.take_append_of_le_length (by rw [List.length_take];omega),List.take_take,show min (j'-j) p'=j'-j by omega]
 rw [h3] at h2
 exact not_ex_self h2
theorem gl_nodup {k:Nat}{w:W}(hw:Lst w)(ho:Okk k w):(gl k w).Nodup:=by
 have key:∀ {p p' j j' x x':Nat} {r r':W},p<w.length->p'<w.length->j<=p->j'<=p'->x∈gr k w p->x'∈gr k w p'->r∈pw k w (w.length-1-p)->r'∈pw k w (w.length-1-p')->rot j (w.take p++x::r)=rot j' (w.take p'++x'::r')->p=p'∧j=j'∧x=x'∧r=r':=fun {p p' j j' x x' r r'} hp hp' hj hj' hx hx' hr hr' e=>by
  obtain ⟨x1,x2⟩:=mem_gr.mp hx
  obtain ⟨x1',x2'⟩:=mem_gr.mp hx'
  obtain ⟨r1,r2,r3⟩:=(mem_pw hw ho _ _ (Nat.le_refl _) (by omega) r).mp hr
  obtain ⟨r1',r2',r3'⟩:=(mem_pw hw ho _ _ (Nat.le_refl _) (by omega) r').mp hr'
  have hvl:(w.take p++x::r).length=w.length:=by rw [blk_len hp];omega
  have hvl':(w.take p'++x'::r').length=w.length:=by rw [blk_len hp'];omega
  have n1:=rot_blk_lt hp hp' hj hj' x1 hvl hvl' (pd_blk hw hp x1 r3) e
  have n2:=rot_blk_lt hp' hp hj' hj x1' hvl' hvl (pd_blk hw hp' x1' r3') e.symm
  obtain rfl:j=j':=by omega
  have e2:=rot_inj (by omega) e
  obtain ⟨h1,h2,h3⟩:=blk_inj hp hp' x1 x1' e2
  exact ⟨h1,rfl,h2,h3⟩
 have nle:∀ {n j:Nat},j∈List.range (n+1)->j<=n:=fun h=>by have:=List.mem_range.mp h;omega
 refine nodup_fm List.nodup_range (fun p hp=>nodup_fm List.nodup_range (fun j hj=>nodup_fm (gr_nodup ..) (fun x hx=>nodup_mp (pw_nodup hw ho _ _ (Nat.le_refl _) (by omega)) fun a ha b hb e=>?_) fun x hx y hy v hv hv'=>?_) fun j hj j' hj' v hv hv'=>?_) fun p hp p' hp' v hv hv'=>?_
 ·have hp:=List.mem_range.mp hp
  exact (key hp hp (nle hj) (nle hj) hx hx ha hb e).2.2.2
 ·have hp:=List.mem_range.mp hp
  obtain ⟨r,hr,rfl⟩:=List.mem_map.mp hv
  obtain ⟨r',hr',e⟩:=List.mem_map.mp hv'
  exact (key hp hp (nle hj) (nle hj) hx hy hr hr' e.symm).2.2.1
 ·have hp:=List.mem_range.mp hp
  obtain ⟨x,hx,h⟩:=List.mem_flatMap.mp hv
  obtain ⟨r,hr,rfl⟩:=List.mem_map.mp h
  obtain ⟨x',hx',h'⟩:=List.mem_flatMap.mp hv'
  obtain ⟨r',hr',e⟩:=List.mem_map.mp h'
  exact (key hp hp (nle hj) (nle hj') hx hx' hr hr' e.symm).2.1
 ·have hp:=List.mem_range.mp hp
  have hp':=List.mem_range.mp hp'
  obtain ⟨j,hj,h⟩:=List.mem_flatMap.mp hv
  obtain ⟨x,hx,h⟩:=List.mem_flatMap.mp h
  obtain ⟨r,hr,rfl⟩:=List.mem_map.mp h
  obtain ⟨j',hj',h'⟩:=List.mem_flatMap.mp hv'
  obtain ⟨x',hx',h'⟩:=List.mem_flatMap.mp h'
  obtain ⟨r',hr',e⟩:=List.mem_map.mp h'
  exact (key hp hp' (nle hj) (nle hj') hx hx' hr hr' e.symm).1
theorem gl_len (k:Nat)(w:W):(gl k w).length=((List.range w.length).map fun p=>(p+1)*(96+k-w.getD p 0)*(pw k w (w.length-1-p)).length).sum:=by
 unfold gl
 rw [List.length_flatMap]
 refine congrArg List.sum (List.map_congr_left fun p _=>?_)
 rw [fm_len _ _ ((96+k-w.getD p 0)*(pw k w (w.length-1-p)).length) (fun j=>by rw [fm_len _ _ (pw k w (w.length-1-p)).length (fun x=>List.length_map ..),gr_len]),List.length_range,Nat.mul_assoc]
def upN (k:Nat)(w:W):Nat:=((allW k w.length).filter fun u=>!decide (w<least u)).length
theorem allW_nd {k n:Nat}(hk:0<k):(allW k n).Nodup:=(allW_sorted hk).imp fun h e=>by rw [e] at h;exact ltir _ h
theorem LL.gt {k:Nat}{w l u:W}(h:LL k w l)(h0:0<w.length)(hu:u.length=w.length)(ho:Okk k u):l<least u↔w<least u:=by
 obtain ⟨h1,h2,h3⟩:=h
 have hlw:LW k w.length (least u):=by rw [<- hu];exact lw_least (by omega) ho
 constructor
 ·intro hl
  refine Classical.byContradiction fun hn=>?_
  exact h3 _ hlw hn hl
 ·intro hl
  exact Classical.byContradiction fun hn=>hn (by
   rcases Classical.em (l<least u) with g | g
   ·exact g
   ·exact absurd (ltle hl (fun z=>g z)) h2)
theorem filter_two (l:List W)(p:W->Bool):(l.filter p).length+(l.filter fun u=>!p u).length=l.length:=by
 induction l with
 | nil=>rfl
 | cons a l ih =>
  rw [List.filter_cons,List.filter_cons,List.length_cons]
  cases h:p a
  ·simp only [Bool.false_eq_true,if_false,Bool.not_false,if_true,List.length_cons];omega
  ·simp only [if_true,Bool.not_true,Bool.false_eq_true,if_false,List.length_cons];omega
theorem up_len {k:Nat}{w l:W}(hk:0<k)(h0:0<w.length)(h:LL k w l):upN k w+(gl k l).length=k ^ w.length:=by
 obtain ⟨hl1,hl2,hl3⟩:=h.1
 have hperm:(gl k l).Perm ((allW k w.length).filter fun u=>decide (w<least u)):=by
  refine (List.perm_ext_iff_of_nodup (gl_nodup hl3 hl2) ((allW_nd hk).filter _)).mpr fun u=>?_
  rw [mem_gl hl3 hl2,List.mem_filter,mem_allW hk,hl1,decide_eq_true_iff]
  constructor
  ·rintro ⟨⟨a,b⟩,c⟩
   exact ⟨⟨a,b⟩,(LL.gt h h0 a b).mp c⟩
  ·rintro ⟨⟨a,b⟩,c⟩
   exact ⟨⟨a,b⟩,(LL.gt h h0 a b).mpr c⟩
 rw [hperm.length_eq,upN,Nat.add_comm,<- allW_len k w.length]
 exact filter_two _ _
end Wd
namespace Wd
theorem up_all {k:Nat}{w:W}(hk:0<k)(h0:0<w.length)(h:∀ v,LW k w.length v->¬ w<v):upN k w=k ^ w.length:=by
 unfold upN
 rw [List.filter_eq_self.mpr,allW_len]
 intro u hu
 obtain ⟨h1,h2⟩:=(mem_allW hk).mp hu
 have:¬ w<least u:=h _ (by rw [<- h1];exact lw_least (by omega) h2)
 simp [this]
theorem filter_or (l:List W)(p q:W->Bool)(h:∀ x∈l,¬ (p x=true∧q x=true)):(l.filter fun x=>p x||q x).length=(l.filter p).length+(l.filter q).length:=by
 induction l with
 | nil=>rfl
 | cons a l ih =>
  have ih:=ih fun x hx=>h x (List.mem_cons_of_mem _ hx)
  have ha:=h a (List.mem_cons_self ..)
  rw [List.filter_cons,List.filter_cons,List.filter_cons]
  cases hp:p a <;> cases hq:q a
  ·simp only [Bool.or_self,Bool.false_eq_true,if_false];exact ih
  ·simp only [Bool.false_or,if_true,Bool.false_eq_true,if_false,List.length_cons,ih];omega
  ·simp only [Bool.or_false,if_true,Bool.false_eq_true,if_false,List.length_cons,ih];omega
  ·exact absurd ⟨hp,hq⟩ ha
theorem least_count {k:Nat}{r:W}{p:Nat}(hk:0<k)(h0:0<r.length)(hr:LW k r.length r)(hp:RootLen r p):((allW k r.length).filter fun u=>decide (least u=r)).length=p:=by
 refine turns_count hp _ ((allW_nd hk).filter _) fun u=>?_
 rw [List.mem_filter,mem_allW hk,decide_eq_true_iff,List.mem_map]
 constructor
 ·rintro ⟨⟨h1,h2⟩,h3⟩
  have ht:=turnBy_lt (w:=u) (by omega)
  rw [least_eq] at h3
  refine ⟨(u.length-turnBy u) % u.length,List.mem_range.mpr (by rw [<- h1];exact Nat.mod_lt _ (by omega)),?_⟩
  rw [<- h3,rot_rot (Nat.mod_lt _ (by omega)) ht,Nat.mod_add_mod,show u.length-turnBy u+turnBy u=u.length by omega,Nat.mod_self,rot_zero]
 ·rintro ⟨i,hi,rfl⟩
  have hi:=List.mem_range.mp hi
  exact ⟨⟨rot_length ..,okk_rot hr.ok⟩,by rw [least_rot hi];exact hr.lst.symm⟩
theorem up_next {k:Nat}{w r:W}{p:Nat}(hk:0<k)(h0:0<w.length)(h:NX k w r)(hp:RootLen r p):upN k r=upN k w+p:=by
 have hl:=h.lw.len
 have hc:=least_count hk (by omega) (by rw [hl];exact h.lw) hp
 unfold upN
 rw [hl] at hc ⊢
 rw [<- hc,<- filter_or]
 ·refine congrArg List.length (List.filter_congr fun u hu=>?_)
  obtain ⟨h1,h2⟩:=(mem_allW hk).mp hu
  have hlw:LW k w.length (least u):=by rw [<- h1];exact lw_least (by omega) h2
  rw [Bool.eq_iff_iff,Bool.or_eq_true,Bool.not_eq_true',decide_eq_false_iff_not,Bool.not_eq_true',decide_eq_false_iff_not,decide_eq_true_iff]
  constructor
  ·intro hn
   by_cases hw:w<least u
   ·exact .inr (tri (h.low _ hlw hw) hn)
   ·exact .inl hw
  ·rintro (hn | rfl)
   ·exact fun hlt=>hn (ltt h.gt hlt)
   ·exact ltir _
 ·rintro u hu ⟨h1,h2⟩
  have h2:=of_decide_eq_true h2
  rw [h2] at h1
  simp [h.gt] at h1
end Wd
namespace Wd
def dvt (n j:Nat):List Nat:=((List.range j).map (· + 1)).filter fun e=>decide (n % e=0)
open Classical in
def prs (k:Nat)(w:W)(e:Nat):List W:=(allW k e).filter fun q=>decide (Prime q∧¬ w<rep (w.length/e) q)
def rl (k:Nat)(w:W):List W:=(dvt w.length w.length).flatMap fun e=>(prs k w e).map (rep (w.length/e))
def pc (k:Nat)(w:W)(e:Nat):Nat:=(prs k w e).length
theorem num_lt {k n:Nat}{a b:W}(hk:0<k)(ha:a.length=n∧Okk k a)(hb:b.length=n∧Okk k b):a<b↔num k a<num k b:=by
 obtain ⟨a1,a2⟩:=spell_num n a ha.1 ha.2
 obtain ⟨b1,b2⟩:=spell_num n b hb.1 hb.2
 have key:∀ {x y:W},x.length=n∧Okk k x->y.length=n∧Okk k y->num k x<num k y->x<y:=fun {x y} hx hy h=>by
  obtain ⟨x1,x2⟩:=spell_num n x hx.1 hx.2
  obtain ⟨y1,y2⟩:=spell_num n y hy.1 hy.2
  have:=spell_lt hk n _ _ h y2
  rwa [x1,y1] at this
 refine ⟨fun h=>?_,key ha hb⟩
 rcases Nat.lt_trichotomy (num k a) (num k b) with g | g | g
 ·exact g
 ·have:a=b:=by rw [<- a1,<- b1,g]
  rw [this] at h
  exact absurd h (ltir _)
 ·exact absurd (ltt h (key hb ha g)) (ltir _)
end Wd
namespace Wd
def topW (k n:Nat):W:=List.replicate n (96+k)
theorem topW_len (k n:Nat):(topW k n).length=n:=List.length_replicate
theorem topW_ok {k n:Nat}(hk:0<k):Okk k (topW k n):=fun c hc=>by rw [(List.mem_replicate.mp hc).2];omega
theorem top_le {k n:Nat}{v:W}(hl:v.length=n)(ho:Okk k v):¬ topW k n<v:=fun h=>by
 obtain ⟨p,h1,h2,h3⟩:=lt_split (by rw [topW_len,hl]) h
 rw [topW_len] at h1
 have hd:(topW k n).getD p 0=96+k:=by
  unfold topW
  rw [List.getD_eq_getElem?_getD,List.getElem?_replicate,if_pos h1];rfl
 have:=okk_getD ho (i:=p) (by omega)
 omega
theorem up_top {k n:Nat}(hk:0<k)(hn:0<n):upN k (topW k n)=k ^ n:=by
 have:=up_all (w:=topW k n) hk (by rw [topW_len];exact hn) fun v hv=>top_le (by rw [hv.len,topW_len]) hv.ok
 rw [topW_len] at this
 exact this
end Wd
namespace Wd
theorem spell_top {k n:Nat}(hk:0<k):spell k n (k ^ n-1)=topW k n:=by
 have hp:0<k ^ n:=Nat.pow_pos hk
 obtain ⟨h1,h2⟩:=spell_num n (topW k n) (topW_len k n) (topW_ok hk)
 have h3:num k (topW k n)=k ^ n-1:=by
  refine Classical.byContradiction fun z=>?_
  have:=spell_lt hk n _ (k ^ n-1) (show num k (topW k n)<k ^ n-1 by omega) (by omega)
  rw [h1] at this
  exact top_le (spell_len ..) (spell_mem hk _ _) this
 rw [<- h3,h1]
end Wd
namespace Wd
def rootL (w:W):Nat:=if h:0<w.length then Classical.choose (rootLen_ex h) else 0
theorem rootL_is {w:W}(h:0<w.length):RootLen w (rootL w):=by
 unfold rootL
 rw [dif_pos h]
 exact Classical.choose_spec (rootLen_ex h)
theorem rootL_eq {w:W}{p:Nat}(h:RootLen w p):rootL w=p:=(rootL_is (Nat.lt_of_lt_of_le h.pos h.le)).uniq h
def rootW (w:W):W:=w.take (rootL w)
theorem rootW_len {w:W}(h:0<w.length):(rootW w).length=rootL w:=by
 have:=(rootL_is h).le
 rw [rootW,List.length_take]
 omega
theorem rootW_is {w:W}(h:0<w.length):∃ t,0<t∧w=rep t (rootW w)∧t*rootL w=w.length:=by
 have h1:=rootL_is h
 obtain ⟨_,h2,_⟩:=h1.rp
 exact ⟨w.length/rootL w,Nat.div_pos h1.le h1.pos,h1.is.symm,Nat.div_mul_cancel (Nat.dvd_of_mod_eq_zero h2)⟩
theorem rep_snoc (t:Nat)(q:W):rep (t+1) q=rep t q++q:=by
 induction t with
 | zero=>rw [rep_succ,rep_zero,List.append_nil];rfl
 | succ t ih =>
  calc rep (t+1+1) q=q++rep (t+1) q:=rep_succ ..
   _=q++(rep t q++q):=by rw [ih]
   _=(q++rep t q)++q:=by rw [List.append_assoc]
   _=rep (t+1) q++q:=by rw [<- rep_succ]
def ringOf (ls:List W):W:=(ls.map rootW).flatten
theorem ringOf_cons (l:W)(ls:List W):ringOf (l::ls)=rootW l++ringOf ls:=by unfold ringOf;rw [List.map_cons,List.flatten_cons]
theorem ringOf_app (a b:List W):ringOf (a++b)=ringOf a++ringOf b:=by unfold ringOf;rw [List.map_append,List.flatten_append]
theorem LO_nodup {k n:Nat}(hk:0<k):(LO k n).Nodup:=(LO_sorted hk).imp fun h e=>by rw [e] at h;exact ltir _ h
theorem nx_of {k n:Nat}{pre post:List W}{l l':W}(hk:0<k)(e:LO k n=pre++l::l'::post):NX k l l':=by
 have hs:=LO_sorted (k:=k) (n:=n) hk
 rw [e] at hs
 obtain ⟨_,h2,h3⟩:=List.pairwise_append.mp hs
 obtain ⟨h4,h5⟩:=List.pairwise_cons.mp h2
 obtain ⟨h6,_⟩:=List.pairwise_cons.mp h5
 have hm:∀ v,v∈LO k n↔LW k n v:=fun v=>mem_LO hk
 have hl:LW k n l:=(hm l).mp (by rw [e];simp)
 have hl':LW k n l':=(hm l').mp (by rw [e];simp)
 refine ⟨by rw [hl.len];exact hl',h4 l' (by simp),fun v hv hlv hvl=>?_⟩
 rw [hl.len] at hv
 have hv:=(hm v).mpr hv
 rw [e] at hv
 rcases List.mem_append.mp hv with g | g
 ·exact ltir _ (ltt (h3 v g l (by simp)) hlv)
 ·rcases List.mem_cons.mp g with rfl | g
  ·exact ltir _ hlv
  ·rcases List.mem_cons.mp g with rfl | g
   ·exact ltir _ hvl
   ·exact ltir _ (ltt (h6 v g) hvl)
theorem topW_LW {k n:Nat}(hk:0<k):LW k n (topW k n):=⟨topW_len k n,topW_ok hk,lst_rep _ _⟩
theorem last_top {k n:Nat}{pre:List W}{l:W}(hk:0<k)(e:LO k n=pre++[l]):l=topW k n:=by
 have hs:=LO_sorted (k:=k) (n:=n) hk
 have ht:topW k n∈LO k n:=(mem_LO hk).mpr (topW_LW hk)
 have hl:l∈LO k n:=by rw [e];simp
 have hl:=(mem_LO hk).mp hl
 rw [e] at hs ht
 obtain ⟨_,_,h3⟩:=List.pairwise_append.mp hs
 rcases List.mem_append.mp ht with g | g
 ·exact absurd (h3 _ g l (by simp)) (top_le hl.len hl.ok)
 ·exact (List.mem_singleton.mp g).symm
theorem next_begins {k n:Nat}{l l' y x:W}(hk:0<k)(hl:LW k n l)(h:NX k l l')(e:l=y++x)(hx:∃ c∈x,c≠96+k):∃ s,l'=y++s:=by
 obtain ⟨c,hc,hne⟩:=hx
 obtain ⟨x1,x2,rfl⟩:=List.append_of_mem hc
 have hcb:=hl.ok c (by rw [e];simp)
 have e2:l=(y++x1)++c::x2:=by rw [e,List.append_assoc]
 have hg:=lst_grow (k:=k) (p:=y++x1) (r:=x2) (c:=c) (d:=c+1) hk (by rw [<- e2];exact hl.lst) (by rw [<- e2];exact hl.ok) (by omega) (by omega)
 have hlen:((y++x1)++c::x2).length=n:=by rw [<- e2];exact hl.len
 rw [hlen] at hg
 have hpl:((y++x1)++[c+1]).length<=n:=by rw [<- hlen];simp
 have hv:LW k n (fill k n ((y++x1)++[c+1])):=⟨fill_len hpl,okk_fill hk (okk_app.mpr ⟨fun d hd=>hl.ok d (by rw [e2];exact List.mem_append_left _ hd),fun d hd=>by rw [List.mem_singleton.mp hd];omega⟩),hg⟩
 have hf:fill k n ((y++x1)++[c+1])=(y++x1)++(c+1)::List.replicate (n-((y++x1)++[c+1]).length) (96+k):=by unfold fill;rw [List.append_assoc];rfl
 have hgt:l<fill k n ((y++x1)++[c+1]):=by
  rw [hf,e2]
  exact (lt_app_left _).mpr (List.cons_lt_cons_iff.mpr (.inl (Nat.lt_succ_self c)))
 refine between (a:=l) (b:=fill k n ((y++x1)++[c+1])) ⟨_,e⟩ ⟨x1++(c+1)::_,by rw [hf,List.append_assoc]⟩ ?_ (fun z=>ltir _ (ltt z h.gt)) (fun z=>h.low _ (by rw [hl.len];exact hv) hgt z)
 have:=h.lw.len
 rw [hl.len] at this
 have:l.length=y.length+(x1++c::x2).length:=by rw [e,List.length_append]
 rw [hl.len] at this
 omega
theorem all_top {k:Nat}{x:W}(h:¬ ∃ c∈x,c≠96+k):x=topW k x.length :=
 List.eq_replicate_iff.mpr ⟨rfl,fun c hc=>Classical.byContradiction fun z=>h ⟨c,hc,z⟩⟩
theorem rep_top {k t p:Nat}:rep t (topW k p)=topW k (t*p):=by
 induction t with
 | zero=>rw [Nat.zero_mul];rfl
 | succ t ih=>rw [rep_succ,ih,topW,topW,topW,List.replicate_append_replicate,Nat.succ_mul,Nat.add_comm]
theorem top_begins {k n:Nat}{l:W}{c:Nat}{s:W}(hl:LW k n l)(e:l=(96+k)::s):l=topW k n:=by
 refine Classical.byContradiction fun hne=>?_
 have hlen:=hl.len
 have hx:∃ c∈l,c≠96+k:=Classical.byContradiction fun z=>hne (by rw [all_top z,hlen])
 obtain ⟨c,hc,hcn⟩:=hx
 have hcb:=hl.ok c hc
 obtain ⟨i,hi⟩:=List.getElem?_of_mem hc
 have hil:=(List.getElem?_eq_some_iff.mp hi).1
 have h0:0<l.length:=by omega
 refine lst_iff.mp hl.lst i hil (lt_at (j:=0) (fun j hj=>absurd hj (by omega)) (c:=c) (d:=96+k) ?_ (by rw [e];rfl) (by omega))
 rw [rot_get (by omega) h0,Nat.add_zero,Nat.mod_eq_of_lt hil]
 exact hi
theorem read_self {k n:Nat}(hk:0<k)(hn:0<n):∀ (ls:List W) (l:W) (pre:List W),LO k n=pre++l::ls->l≠topW k n->∃ z,ringOf (l::ls)=l++z
 | [],l,pre,e,hne=>absurd (last_top hk e) hne
 | l'::ls,l,pre,e,hne=>by
  have hl:LW k n l:=(mem_LO hk).mp (by rw [e];simp)
  have hl':LW k n l':=(mem_LO hk).mp (by rw [e];simp)
  have hnx:=nx_of hk e
  have h0:0<l.length:=by rw [hl.len];exact hn
  obtain ⟨t,ht,hrep,htl⟩:=rootW_is h0
  rw [ringOf_cons]
  by_cases h1:t=1
  ·rw [h1,rep_one] at hrep
   exact ⟨ringOf (l'::ls),by rw [<- hrep]⟩
  ·have hq:∃ c∈rootW l,c≠96+k:=Classical.byContradiction fun z=>hne (by
    have:=all_top z
    rw [hrep,this,rep_top,rootW_len h0,htl,hl.len])
   have hsp:l=rep (t-1) (rootW l)++rootW l:=by
    rw [<- rep_snoc,show t-1+1=t by omega]
    exact hrep
   obtain ⟨s,hs⟩:=next_begins hk hl hnx hsp hq
   have hne':l'≠topW k n:=fun z=>by
    obtain ⟨c,hc,hcn⟩:=hq
    have hm:c∈l':=by
     rw [hs,show t-1=(t-2)+1 by omega,rep_succ]
     exact List.mem_append_left _ (List.mem_append_left _ hc)
    rw [z] at hm
    exact hcn (List.mem_replicate.mp hm).2
   obtain ⟨z,hz⟩:=read_self hk hn ls l' (pre++[l]) (by rw [e];simp) hne'
   refine ⟨s++z,?_⟩
   rw [hz,hs]
   conv=>rhs;rw [hrep,show t=t-1+1 by omega,rep_succ]
   simp only [List.append_assoc]
theorem ahead_ends {k n:Nat}{y b u:W}(hk:0<k)(hn:0<n)(hb:LB k n y b)(hu:LW k n u)(h:NX k u b):∃ z,rootW u=z++topW k (n-y.length):=by
 obtain ⟨s,hs⟩:=hb.pre
 have hbl:=hb.lw.len
 have hyl:y.length<=n:=by rw [<- hbl,hs,List.length_append];omega
 have hul:=hu.len
 have htl:(u.take y.length).length=y.length:=by rw [List.length_take];omega
 have hne:u.take y.length≠y:=fun z=>hb.low u hu ⟨u.drop y.length,by conv=>lhs;rw [<- List.take_append_drop y.length u,z]⟩ h.gt
 have hlt:u.take y.length<y:=by
  have h1:=h.gt
  rw [hs] at h1
  conv at h1=>lhs;rw [<- List.take_append_drop y.length u]
  rcases lt_of_app htl h1 with g | ⟨g,_⟩
  ·exact g
  ·exact absurd g hne
 have hisb:=hu.isB hk (List.take_append_drop y.length u).symm
 have hv:=hisb.lw hk (fun c hc=>hu.ok c (List.mem_of_mem_take hc))
 have hf:fill k n (u.take y.length)=u.take y.length++topW k (n-y.length):=by unfold fill topW;rw [htl]
 have hvb:fill k n (u.take y.length)<b:=by
  rw [hf,hs]
  exact lt_app hlt (by omega) _ _
 have hle:=le_fill (k:=k) (v:=u) (p:=u.take y.length) (s:=u.drop y.length) hu.ok (List.take_append_drop y.length u).symm
 rw [hul] at hle
 have hueq:u=u.take y.length++topW k (n-y.length):=by
  rw [<- hf]
  exact tri (fun z=>h.low _ (by rw [hul];exact hv) z hvb) hle
 have h0:0<u.length:=by omega
 obtain ⟨t,ht,hrep,hp⟩:=rootW_is h0
 have hsuf:u=rep (t-1) (rootW u)++rootW u:=by
  rw [<- rep_snoc,show t-1+1=t by omega]
  exact hrep
 have hrl:=rootW_len h0
 have hle2:=(rootL_is h0).le
 generalize rootL u=p at hrl hp hle2
 generalize rootW u=q at hrl hrep hsuf ⊢
 have hql:(rep (t-1) q).length=n-p:=by
  have:=congrArg List.length hsuf
  rw [List.length_append,hrl,hul] at this
  omega
 by_cases hc:n-y.length<=p
 ·refine ⟨q.take (p-(n-y.length)),?_⟩
  have h1:u.drop y.length=topW k (n-y.length):=by
   conv=>lhs;rw [hueq]
   exact List.drop_left' htl
  have h2:u.drop y.length=q.drop (p-(n-y.length)):=by
   conv=>lhs;rw [hsuf]
   rw [List.drop_append,List.drop_eq_nil_of_le (by omega),List.nil_append,hql]
   congr 1
   omega
  rw [<- h1,h2,List.take_append_drop]
 ·exfalso
  have hq:q=topW k p:=by
   have h1:u.drop (n-p)=q:=by
    conv=>lhs;rw [hsuf]
    exact List.drop_left' hql
   have h2:u.drop (n-p)=topW k p:=by
    conv=>lhs;rw [hueq]
    rw [List.drop_append,List.drop_eq_nil_of_le (by omega),List.nil_append,htl,topW,List.drop_replicate,topW]
    congr 1
    omega
   rw [<- h1,h2]
  have:u=topW k n:=by rw [hrep,hq,rep_top,hp,hul]
  rw [this] at h
  exact top_le hbl hb.lw.ok h.gt
end Wd
namespace Wd
def cb (k:Nat)(l:W):Nat:=((allW k l.length).filter fun u=>decide (least u<l)).length
theorem up_cb {k:Nat}{l:W}(hk:0<k)(h0:0<l.length)(hl:LW k l.length l):upN k l=cb k l+rootL l:=by
 have hc:=least_count hk h0 hl (rootL_is h0)
 unfold upN cb
 rw [<- hc,<- filter_or]
 ·refine congrArg List.length (List.filter_congr fun u hu=>?_)
  rw [Bool.eq_iff_iff,Bool.or_eq_true,Bool.not_eq_true',decide_eq_false_iff_not,decide_eq_true_iff,decide_eq_true_iff]
  constructor
  ·intro h
   by_cases c:least u<l
   ·exact .inl c
   ·exact .inr (tri c h)
  ·rintro (h | h)
   ·exact fun z=>ltir _ (ltt h z)
   ·rw [h];exact ltir _
 ·rintro u hu ⟨h1,h2⟩
  have h1:=of_decide_eq_true h1
  have h2:=of_decide_eq_true h2
  rw [h2] at h1
  exact ltir _ h1
theorem cb_next {k n:Nat}{l l':W}(hk:0<k)(hn:0<n)(hl:LW k n l)(h:NX k l l'):cb k l'=cb k l+rootL l:=by
 have hll:=hl.len
 have hll':l'.length=n:=by rw [h.lw.len,hll]
 have h1:=up_next hk (by omega) h (rootL_is (w:=l') (by omega))
 have h2:=up_cb (l:=l') hk (by omega) (by rw [hll',<- hll];exact h.lw)
 have h3:=up_cb (l:=l) hk (by omega) (by rw [hll];exact hl)
 omega
theorem ring_len {k n:Nat}(hk:0<k)(hn:0<n):∀ (a pre b:List W) (l f:W),LO k n=pre++(a++l::b)->(a++l::b).head?=some f->(ringOf a).length+cb k f=cb k l
 | [],pre,b,l,f,e,hf=>by
  obtain rfl:l=f:=Option.some.inj hf
  show 0+cb k l=cb k l
  omega
 | g::a,pre,b,l,f,e,hf=>by
  obtain rfl:g=f:=Option.some.inj hf
  have hg:LW k n g:=(mem_LO hk).mp (by rw [e];simp)
  obtain ⟨f',t',e2⟩:∃ f' t',a++l::b=f'::t':=by
   cases a with
   | nil=>exact ⟨_,_,rfl⟩
   | cons x a=>exact ⟨_,_,rfl⟩
  have hnx:NX k g f':=nx_of (pre:=pre) (post:=t') hk (by rw [e,List.cons_append,e2])
  have ih:=ring_len hk hn a (pre++[g]) b l f' (by rw [e];simp) (by rw [e2];rfl)
  have hc:=cb_next hk hn hg hnx
  rw [ringOf_cons,List.length_append,rootW_len (by rw [hg.len];exact hn)]
  omega
theorem rootL_top {k n:Nat}(hn:0<n):rootL (topW k n)=1:=by
 refine rootL_eq ⟨Nat.one_pos,by rw [topW_len];exact hn,?_,fun q h1 h2=>by omega⟩
 rw [topW_len,Nat.div_one]
 have:(topW k n).take 1=topW k 1:=by unfold topW;rw [List.take_replicate,show min 1 n=1 by omega]
 rw [this,rep_top,Nat.mul_one]
theorem rootW_top {k n:Nat}(hn:0<n):rootW (topW k n)=topW k 1:=by
 unfold rootW
 rw [rootL_top hn]
 unfold topW
 rw [List.take_replicate,show min 1 n=1 by omega]
theorem ends_top {k n:Nat}{pre ls:List W}{f:W}(hk:0<k)(e:LO k n=pre++f::ls):∃ a,f::ls=a++[topW k n]:=by
 obtain ⟨a,x,hx⟩:∃ a x,f::ls=a++[x]:=⟨(f::ls).dropLast,(f::ls).getLast (by simp),(List.dropLast_concat_getLast (by simp)).symm⟩
 have:=last_top (pre:=pre++a) (l:=x) hk (by rw [e,hx,List.append_assoc])
 exact ⟨a,by rw [hx,this]⟩
theorem ring_total {k n:Nat}{pre ls:List W}{f:W}(hk:0<k)(hn:0<n)(e:LO k n=pre++f::ls):(ringOf (f::ls)).length+cb k f=k ^ n:=by
 obtain ⟨a,ha⟩:=ends_top hk e
 have h1:=ring_len hk hn a pre [] (topW k n) f (by rw [e,ha]) (by rw [<- ha];rfl)
 have h2:=up_cb (l:=topW k n) hk (by rw [topW_len];exact hn) (by rw [topW_len];exact topW_LW hk)
 have h3:=up_top hk hn
 rw [ha,ringOf_app,List.length_append,ringOf_cons,List.length_append,rootW_len (by rw [topW_len];exact hn)]
 show (ringOf a).length+(rootL (topW k n)+0)+cb k f=k ^ n
 omega
theorem ring_end {k n:Nat}{pre ls:List W}{f:W}(hk:0<k)(hn:0<n)(e:LO k n=pre++f::ls)(hf:f≠topW k n):∃ z,ringOf (f::ls)=z++topW k n:=by
 obtain ⟨a,ha⟩:=ends_top hk e
 have hane:a≠[]:=fun z=>by rw [z] at ha;exact hf (List.cons.inj ha).1
 obtain ⟨c,u,rfl⟩:∃ c u,a=c++[u]:=⟨a.dropLast,a.getLast hane,(List.dropLast_concat_getLast hane).symm⟩
 have e2:LO k n=(pre++c)++u::topW k n::[]:=by rw [e,ha];simp
 have hu:LW k n u:=(mem_LO hk).mp (by rw [e2];simp)
 have hnx:=nx_of hk e2
 have hlb:LB k n [96+k] (topW k n):=⟨topW_LW hk,⟨topW k (n-1),by unfold topW;rw [show n=n-1+1 by omega,List.replicate_succ];rfl⟩,fun v hv ⟨s,hs⟩=>by rw [top_begins (c:=0) hv hs];exact ltir _⟩
 obtain ⟨z,hz⟩:=ahead_ends hk hn hlb hu hnx
 refine ⟨ringOf c++z,?_⟩
 rw [ha,ringOf_app,ringOf_app,ringOf_cons,ringOf_cons,hz,rootW_top hn]
 show (ringOf c++(z++topW k (n-1)++[]))++(topW k 1++[])=ringOf c++z++topW k n
 have h1:topW k n=topW k (n-1)++topW k 1:=by
  unfold topW
  rw [List.replicate_append_replicate,show n-1+1=n by omega]
 rw [h1]
 simp only [List.append_nil,List.append_assoc]
theorem ringAt_mid {t a v b:W}(e:t=a++v++b):ringAt t v.length a.length=v:=by
 rw [<- row_at (by rw [e,List.length_append,List.length_append];omega),e,List.append_assoc,List.drop_left' rfl,List.take_left' rfl]
theorem ring_wrap {t a x y b:W}(h1:t=a++x)(h2:t=y++b)(h0:0<t.length):ringAt t (x.length+y.length) a.length=x++y:=by
 have l1:t.length=a.length+x.length:=by rw [h1,List.length_append]
 have l2:t.length=y.length+b.length:=by conv=>lhs;rw [h2,List.length_append]
 apply ext_get
 ·rw [ringAt_len,List.length_append]
 ·intro i hi
  rw [ringAt_len] at hi
  rw [ringAt_get hi h0]
  by_cases c:i<x.length
  ·rw [Nat.mod_eq_of_lt (by omega),List.getElem?_append_left c]
   conv=>lhs;rw [h1]
   rw [List.getElem?_append_right (by omega),Nat.add_sub_cancel_left]
  ·rw [show a.length+i=(i-x.length)+t.length by omega,Nat.add_mod_right,Nat.mod_eq_of_lt (by omega),List.getElem?_append_right (by omega)]
   conv=>lhs;rw [h2]
   rw [List.getElem?_append_left (by omega)]
theorem turn_root {w:W}(h0:0<w.length):turnBy w<rootL (least w):=by
 have hl0:0<(least w).length:=by rw [least_len];exact h0
 have hp:=rootL_is hl0
 obtain ⟨r1,_,_⟩:=hp.rp
 have hb:=turnBy_lt h0
 have hle:=hp.le
 rw [least_len] at hle
 have hpos:=hp.pos
 refine Classical.byContradiction fun hc=>?_
 have hj:=turnBy_first (w:=w) (j:=turnBy w-rootL (least w)) (by omega)
 have h1:=(rp_rot hp.le).mpr r1
 have hrl:(rot (turnBy w-rootL (least w)) w).length=w.length:=rot_length ..
 have h2:rot (rootL (least w)) (rot (turnBy w-rootL (least w)) w)=rot (turnBy w) w:=by
  by_cases e:rootL (least w)=w.length
  ·exfalso;omega
  ·rw [rot_rot (by omega) (by omega),show rootL (least w)+(turnBy w-rootL (least w))=turnBy w by omega,Nat.mod_eq_of_lt hb]
 rw [<- least_eq] at h2 hj
 have h3:rot (rootL (least w)) (rot (turnBy w-rootL (least w)) w)=rot (rootL (least w)) (least w):=by rw [h2,h1]
 have h4:=rot_inj (by rw [rot_length,least_len]) h3
 rw [h4] at hj
 exact ltir _ hj
set_option genInjectivity false in
structure At (R:W)(n:Nat)(w:W)(i:Nat):Prop where
 lt:i<R.length
 is:ringAt R n i=w
section
variable {k n:Nat}{pre ls:List W}{f:W}
theorem split_at (hk:0<k)(e:LO k n=pre++f::ls){l:W}(hl:LW k n l)(hge:¬ l<f):∃ a b,f::ls=a++l::b:=by
 have hm:l∈LO k n:=(mem_LO hk).mpr hl
 have hs:=LO_sorted (k:=k) (n:=n) hk
 rw [e] at hm hs
 obtain ⟨_,_,h3⟩:=List.pairwise_append.mp hs
 rcases List.mem_append.mp hm with g | g
 ·exact absurd (h3 l g f (by simp)) hge
 ·exact List.append_of_mem g
theorem ring_pos (hk:0<k)(hn:0<n)(e:LO k n=pre++f::ls):0<(ringOf (f::ls)).length:=by
 have hf:LW k n f:=(mem_LO hk).mp (by rw [e];simp)
 rw [ringOf_cons,List.length_append,rootW_len (by rw [hf.len];exact hn)]
 have:=(rootL_is (w:=f) (by rw [hf.len];exact hn)).pos
 omega
theorem at_top (hk:0<k)(hn:0<n)(e:LO k n=pre++f::ls):∃ i:Nat,((((ringOf (f::ls)).length:Nat):Int)-(n:Int)) % (((ringOf (f::ls)).length:Nat):Int)=(i:Int)∧At (ringOf (f::ls)) n (topW k n) i:=by
 have hpos:=ring_pos hk hn e
 by_cases hf:f=topW k n
 ·have hls:ls=[]:=by
   obtain ⟨a,ha⟩:=ends_top hk e
   cases a with
   | nil=>exact (List.cons.inj ha).2
   | cons x a =>
    exfalso
    have hnd:=LO_nodup (k:=k) (n:=n) hk
    rw [e] at hnd
    have h2:=(List.nodup_append.mp hnd).2.1
    rw [ha,hf.symm] at h2
    have hx:x=f:=(List.cons.inj ha).1.symm
    rw [hx] at h2
    have:=(List.nodup_cons.mp h2).1
    exact this (by simp)
  have hR:ringOf (f::ls)=topW k 1:=by rw [hls,hf,ringOf_cons,rootW_top hn];exact List.append_nil _
  refine ⟨0,by rw [hR,topW_len];omega,by rw [hR,topW_len];omega,?_⟩
  rw [hR]
  apply ext_get
  ·rw [ringAt_len,topW_len]
  ·intro i hi
   rw [ringAt_len] at hi
   rw [ringAt_get hi (by rw [topW_len];omega),topW_len,Nat.mod_one]
   unfold topW
   rw [List.getElem?_replicate,List.getElem?_replicate,if_pos (by omega),if_pos hi]
 ·obtain ⟨z,hz⟩:=ring_end hk hn e hf
  have hl:(ringOf (f::ls)).length=z.length+n:=by rw [hz,List.length_append,topW_len]
  refine ⟨z.length,?_,by omega,?_⟩
  ·rw [hl,show (((z.length+n:Nat):Int))-(n:Int)=(z.length:Int) by omega,Int.emod_eq_of_lt (by omega) (by omega)]
  ·have:=ringAt_mid (t:=ringOf (f::ls)) (a:=z) (v:=topW k n) (b:=[]) (by rw [hz,List.append_nil])
   rw [topW_len] at this
   exact this
theorem rot_parts (w:W):w=w.take (turnBy w)++w.drop (turnBy w)∧least w=w.drop (turnBy w)++w.take (turnBy w):=⟨(List.take_append_drop _ _).symm,least_eq w⟩
theorem at_in (hk:0<k)(hn:0<n)(e:LO k n=pre++f::ls){w:W}(hw:w.length=n∧Okk k w)(hge:¬ least w<f)(hx:w.take (turnBy w)≠topW k (turnBy w)) :
  cb k f<=cb k (least w)∧turnBy w<=rootL (least w)∧At (ringOf (f::ls)) n w (cb k (least w)-cb k f+rootL (least w)-turnBy w):=by
 have h0:0<w.length:=by omega
 have hlw:LW k n (least w):=by rw [<- hw.1];exact lw_least h0 hw.2
 have hby:=turn_root h0
 have hbl:=turnBy_lt h0
 obtain ⟨p1,p2⟩:=rot_parts w
 have hxl:(w.take (turnBy w)).length=turnBy w:=by rw [List.length_take];omega
 have hyl:(w.drop (turnBy w)).length=n-turnBy w:=by rw [List.length_drop,hw.1]
 generalize hxe:w.take (turnBy w)=x at *
 generalize hye:w.drop (turnBy w)=y at *
 have hxc:∃ c∈x,c≠96+k:=Classical.byContradiction fun z=>hx (by have:=all_top z;rw [hxl] at this;exact this)
 obtain ⟨a,b,hab⟩:=split_at hk e hlw hge
 have hlen:=ring_len hk hn a pre b (least w) f (by rw [e,hab]) (by rw [<- hab];rfl)
 have hl0:0<(least w).length:=by rw [hlw.len];exact hn
 have hltop:least w≠topW k n:=fun z=>by
  obtain ⟨c,hc,hcn⟩:=hxc
  have:c∈least w:=by rw [p2];exact List.mem_append_right _ hc
  rw [z] at this
  exact hcn (List.mem_replicate.mp this).2
 cases b with
 | nil=>exact absurd (last_top (pre:=pre++a) hk (by rw [e,hab,List.append_assoc])) hltop
 | cons l' b =>
  have e2:LO k n=(pre++a)++least w::l'::b:=by rw [e,hab];simp
  obtain ⟨s,hs⟩:=next_begins hk hlw (nx_of hk e2) p2 hxc
  have hl':LW k n l':=(mem_LO hk).mp (by rw [e2];simp)
  have hl'top:l'≠topW k n:=fun z=>by
   cases y with
   | nil=>simp at hyl;omega
   | cons c y =>
    rw [hs] at z
    have hc:c=96+k:=by
     have:=congrArg List.head? z
     unfold topW at this
     rw [show n=n-1+1 by omega,List.replicate_succ] at this
     exact Option.some.inj this
    exact hltop (top_begins (c:=0) (s:=y++x) hlw (by rw [p2,hc];rfl))
  obtain ⟨z,hz⟩:=read_self hk hn b l' (pre++a++[least w]) (by rw [e2];simp) hl'top
  obtain ⟨t,ht,hrep,htl⟩:=rootW_is hl0
  have hrl:=rootW_len hl0
  obtain ⟨q1,hq1⟩:∃ q1,rootW (least w)=q1++x:=by
   refine ⟨(rootW (least w)).take (rootL (least w)-turnBy w),?_⟩
   have hsuf:least w=rep (t-1) (rootW (least w))++rootW (least w):=by
    rw [<- rep_snoc,show t-1+1=t by omega]
    exact hrep
   generalize rootW (least w)=q at hsuf hrl ⊢
   generalize rootL (least w)=p at hrl hby ⊢
   have h1:(y++x).drop (n-turnBy w)=x:=List.drop_left' hyl
   rw [<- p2,hsuf,List.drop_append] at h1
   have h2:(rep (t-1) q).length=n-p:=by
    have:=congrArg List.length hsuf
    rw [List.length_append,hrl,hlw.len] at this
    omega
   rw [List.drop_eq_nil_of_le (by omega),List.nil_append,h2] at h1
   have hpn:p<=n:=by
    have:=congrArg List.length hsuf
    rw [List.length_append,hrl,hlw.len] at this
    omega
   rw [show n-turnBy w-(n-p)=p-turnBy w by omega] at h1
   conv=>lhs;rw [<- List.take_append_drop (p-turnBy w) q,h1]
  have hR:ringOf (f::ls)=(ringOf a++q1)++w++(s++z):=by
   rw [hab,ringOf_app,ringOf_cons,hz,hq1,hs]
   conv=>rhs;rw [p1]
   simp only [List.append_assoc]
  have hq1l:q1.length=rootL (least w)-turnBy w:=by
   have:=congrArg List.length hq1
   rw [List.length_append,hrl,hxl] at this
   omega
  have hpos:cb k (least w)-cb k f+rootL (least w)-turnBy w=(ringOf a++q1).length:=by rw [List.length_append];omega
  refine ⟨by omega,by omega,?_,?_⟩
  ·have h9:=congrArg List.length hR
   have h8:=hw.1
   rw [hpos]
   simp only [List.length_append] at h9 ⊢
   omega
  ·rw [hpos]
   have:=ringAt_mid hR
   rw [hw.1] at this
   exact this
theorem at_begin (hk:0<k)(hn:0<n)(e:LO k n=pre++f::ls){w bb:W}(hw:w.length=n∧Okk k w)(hge:¬ least w<f)(hx:w.take (turnBy w)=topW k (turnBy w))(hne:w≠topW k n)(hb:LB k n (w.drop (turnBy w)) bb) :
  ∃ i:Nat,(((cb k (if f<bb then bb else f):Nat):Int)-((cb k f:Nat):Int)-((turnBy w:Nat):Int)) % (((ringOf (f::ls)).length:Nat):Int)=(i:Int)∧At (ringOf (f::ls)) n w i:=by
 have h0:0<w.length:=by omega
 have hpos:=ring_pos hk hn e
 have hlw:LW k n (least w):=by rw [<- hw.1];exact lw_least h0 hw.2
 have hbl:=turnBy_lt h0
 obtain ⟨p1,p2⟩:=rot_parts w
 have hxl:(w.take (turnBy w)).length=turnBy w:=by rw [List.length_take];omega
 have hyl:(w.drop (turnBy w)).length=n-turnBy w:=by rw [List.length_drop,hw.1]
 rw [hx] at p1 p2
 generalize hye:w.drop (turnBy w)=y at *
 generalize hbe:turnBy w=by_ at *
 have hf:LW k n f:=(mem_LO hk).mp (by rw [e];simp)
 have hyt:∀ {v s:W},v=y++s->v≠topW k n:=fun {v s} hv z=>by
  cases y with
  | nil=>simp at hyl;omega
  | cons c y =>
   rw [hv] at z
   have hc:c=96+k:=by
    have:=congrArg List.head? z
    unfold topW at this
    rw [show n=n-1+1 by omega,List.replicate_succ] at this
    exact Option.some.inj this
   have hlt:least w=topW k n:=top_begins (c:=0) (s:=y++topW k by_) hlw (by rw [p2,hc];rfl)
   have h1:y=topW k (n-by_-1)∧True:=by
    refine ⟨?_,trivial⟩
    rw [hlt] at p2
    have h2:∀ d∈(c::y)++topW k by_,d=96+k:=fun d hd=>by rw [<- p2] at hd;exact (List.mem_replicate.mp hd).2
    refine List.eq_replicate_iff.mpr ⟨by simp at hyl;omega,fun d hd=>h2 d (by simp [hd])⟩
   refine hne ?_
   rw [p1,h1.1,hc]
   refine List.eq_replicate_iff.mpr ⟨by simp [topW_len];omega,fun d hd=>?_⟩
   simp [topW] at hd
   omega
 obtain ⟨s,hs⟩:=hb.pre
 by_cases hlt:f<bb
 ·rw [if_pos hlt]
  obtain ⟨a,b,hab⟩:=split_at hk e hb.lw (fun z=>ltir _ (ltt z hlt))
  have hane:a≠[]:=fun z=>by
   rw [z] at hab
   have:=(List.cons.inj hab).1
   rw [this] at hlt
   exact ltir _ hlt
  obtain ⟨c,u,rfl⟩:∃ c u,a=c++[u]:=⟨a.dropLast,a.getLast hane,(List.dropLast_concat_getLast hane).symm⟩
  have e2:LO k n=(pre++c)++u::bb::b:=by rw [e,hab];simp
  have hu:LW k n u:=(mem_LO hk).mp (by rw [e2];simp)
  obtain ⟨z1,hz1⟩:=ahead_ends hk hn hb hu (nx_of hk e2)
  rw [hyl,show n-(n-by_)=by_ by omega] at hz1
  obtain ⟨z2,hz2⟩:=read_self hk hn b bb (pre++(c++[u])) (by rw [e,hab];simp) (hyt hs)
  have hlen:=ring_len hk hn (c++[u]) pre b bb f (by rw [e,hab]) (by rw [<- hab];rfl)
  have hR:ringOf (f::ls)=(ringOf c++z1)++w++(s++z2):=by
   rw [hab,ringOf_app,ringOf_app,ringOf_cons,hz2,hs,hz1]
   conv=>rhs;rw [p1]
   show (ringOf c++(z1++topW k by_++[]))++(y++s++z2)=ringOf c++z1++(topW k by_++y)++(s++z2)
   simp only [List.append_nil,List.append_assoc]
  have hl1:(ringOf (c++[u])).length=(ringOf c++z1).length+by_:=by
   rw [ringOf_app,ringOf_cons,hz1]
   show (ringOf c++(z1++topW k by_++[])).length=_
   simp only [List.append_nil,List.length_append,topW_len]
   omega
  have hRl:(ringOf (f::ls)).length=(ringOf c++z1).length+n+(s++z2).length:=by rw [hR,List.length_append,List.length_append,hw.1]
  refine ⟨(ringOf c++z1).length,?_,by omega,?_⟩
  ·rw [show ((cb k bb:Nat):Int)-((cb k f:Nat):Int)-((by_:Nat):Int)=(((ringOf c++z1).length:Nat):Int) by omega]
   exact Int.emod_eq_of_lt (by omega) (by omega)
  ·have:=ringAt_mid hR
   rw [hw.1] at this
   exact this
 ·rw [if_neg hlt]
  obtain ⟨s',hs'⟩:∃ s',f=y++s':=between ⟨s,hs⟩ ⟨topW k by_,p2⟩ (by rw [hyl,hf.len];omega) hlt hge
  obtain ⟨z0,hz0⟩:=read_self hk hn ls f pre e (hyt hs')
  obtain ⟨z,hz⟩:=ring_end hk hn e (hyt hs')
  have htop:topW k n=topW k (n-by_)++topW k by_:=by unfold topW;rw [List.replicate_append_replicate,show n-by_+by_=n by omega]
  have hR1:ringOf (f::ls)=(z++topW k (n-by_))++topW k by_:=by rw [hz,htop,List.append_assoc]
  have hR2:ringOf (f::ls)=y++(s'++z0):=by rw [hz0,hs',List.append_assoc]
  have hw2:=ring_wrap hR1 hR2 hpos
  rw [topW_len,hyl,show by_+(n-by_)=n by omega,<- p1] at hw2
  have hl1:(ringOf (f::ls)).length=(z++topW k (n-by_)).length+by_:=by rw [hR1,List.length_append,topW_len]
  refine ⟨(z++topW k (n-by_)).length % (ringOf (f::ls)).length,?_,Nat.mod_lt _ hpos,by rw [ringAt_mod];exact hw2⟩
  rw [Int.sub_self,Int.natCast_emod,show (0:Int)-((by_:Nat):Int)=(((z++topW k (n-by_)).length:Nat):Int)-(((ringOf (f::ls)).length:Nat):Int) by omega,Int.sub_emod_right]
end
end Wd
namespace Wd
theorem nodup_of_all:∀ {a b:List W},b.Nodup->(∀ x∈b,x∈a)->a.length<=b.length->a.Nodup
 | [],_,_,_,_=>List.nodup_nil
 | x::a,b,hb,h,hl=>by
  have hx:x∉a:=fun hx=>by
   have:=nodup_le b a hb fun y hy=>by
    rcases List.mem_cons.mp (h y hy) with rfl | g
    ·exact hx
    ·exact g
   rw [List.length_cons] at hl
   omega
  refine List.nodup_cons.mpr ⟨hx,nodup_of_all (b:=b.erase x) (hb.erase x) (fun y hy=>?_) ?_⟩
  ·have h1:=(List.Nodup.mem_erase_iff hb).mp hy
   exact (List.mem_cons.mp (h y h1.2)).resolve_left h1.1
  ·rw [List.length_cons] at hl
   have:=List.length_erase (a:=x) (l:=b)
   split at this <;> omega
def due (k n:Nat)(f:W):List W:=(allW k n).filter fun w=>!decide (least w<f)
theorem mem_due {k n:Nat}{f w:W}(hk:0<k):w∈due k n f↔(w.length=n∧Okk k w)∧¬ least w<f:=by
 unfold due
 rw [List.mem_filter,mem_allW hk]
 simp
theorem due_nodup {k n:Nat}{f:W}(hk:0<k):(due k n f).Nodup:=(allW_nd hk).filter _
section
variable {k n:Nat}{pre ls:List W}{f:W}
theorem due_len (hk:0<k)(hn:0<n)(e:LO k n=pre++f::ls):(due k n f).length=(ringOf (f::ls)).length:=by
 have hf:LW k n f:=(mem_LO hk).mp (by rw [e];simp)
 have h1:=ring_total hk hn e
 have h2:=filter_two (allW k n) fun u=>decide (least u<f)
 rw [allW_len] at h2
 have h3:cb k f=((allW k n).filter fun u=>decide (least u<f)).length:=by unfold cb;rw [hf.len]
 unfold due
 omega
theorem lb_ex (hk:0<k){y x:W}(h:LW k n (y++x)):∃ b,LB k n y b:=by
 have hm:y++x∈(LO k n).filter (begs y):=List.mem_filter.mpr ⟨(mem_LO hk).mpr h,begs_iff.mpr ⟨x,rfl⟩⟩
 cases he:(LO k n).filter (begs y) with
 | nil=>rw [he] at hm;cases hm
 | cons b r=>exact ⟨b,begs_head hk he⟩
theorem stands (hk:0<k)(hn:0<n)(e:LO k n=pre++f::ls){w:W}(hw:w∈due k n f):∃ i,At (ringOf (f::ls)) n w i:=by
 obtain ⟨h1,h2⟩:=(mem_due hk).mp hw
 by_cases ht:w=topW k n
 ·obtain ⟨i,_,hi⟩:=at_top hk hn e
  exact ⟨i,by rw [ht];exact hi⟩
 ·by_cases hx:w.take (turnBy w)=topW k (turnBy w)
  ·obtain ⟨b,hb⟩:=lb_ex (n:=n) (y:=w.drop (turnBy w)) (x:=w.take (turnBy w)) hk (by rw [<- (rot_parts w).2,<- h1.1];exact lw_least (by omega) h1.2)
   obtain ⟨i,_,hi⟩:=at_begin hk hn e h1 h2 hx ht hb
   exact ⟨i,hi⟩
  ·exact ⟨_,(at_in hk hn e h1 h2 hx).2.2⟩
theorem At.get {R:W}{w:W}{i:Nat}(h:At R n w i):(ringW R n)[i]?=some w:=by rw [ringW_get h.lt,h.is]
theorem At.mem {R:W}{w:W}{i:Nat}(h:At R n w i):w∈ringW R n:=List.mem_of_getElem? h.get
theorem fkm (hk:0<k)(hn:0<n)(e:LO k n=pre++f::ls):(ringW (ringOf (f::ls)) n).Nodup∧(ringW (ringOf (f::ls)) n).Perm (due k n f):=by
 have hl:(ringW (ringOf (f::ls)) n).length=(due k n f).length:=by rw [ringW_len,due_len hk hn e]
 have hall:∀ w∈due k n f,w∈ringW (ringOf (f::ls)) n:=fun w hw=>(stands hk hn e hw).elim fun _ h=>h.mem
 have hnd:=nodup_of_all (due_nodup hk) hall (by omega)
 refine ⟨hnd,(List.perm_ext_iff_of_nodup hnd (due_nodup hk)).mpr fun w=>⟨fun hw=>?_,hall w⟩⟩
 refine Classical.byContradiction fun hno=>?_
 have:=nodup_le (w::due k n f) (ringW (ringOf (f::ls)) n) (List.nodup_cons.mpr ⟨hno,due_nodup hk⟩) fun y hy=>by
  rcases List.mem_cons.mp hy with rfl | hy
  ·exact hw
  ·exact hall y hy
 rw [List.length_cons] at this
 omega
theorem At.uniq (hk:0<k)(hn:0<n)(e:LO k n=pre++f::ls){w:W}{i j:Nat}(h1:At (ringOf (f::ls)) n w i)(h2:At (ringOf (f::ls)) n w j):i=j:=by
 have hnd:=(fkm hk hn e).1
 have a1:=h1.get
 have a2:=h2.get
 obtain ⟨l1,g1⟩:=List.getElem?_eq_some_iff.mp a1
 obtain ⟨l2,g2⟩:=List.getElem?_eq_some_iff.mp a2
 rcases Nat.lt_trichotomy i j with h | h | h
 ·exact absurd (g1.trans g2.symm) (List.pairwise_iff_getElem.mp hnd i j l1 l2 h)
 ·exact h
 ·exact absurd (g2.trans g1.symm) (List.pairwise_iff_getElem.mp hnd j i l2 l1 h)
theorem root_at:∀ (ls:List W) (i:Nat),i<(ringOf ls).length->(∀ l∈ls,0<l.length)->∃ a l b,ls=a++l::b∧(ringOf a).length<=i∧i<(ringOf a).length+rootL l
 | [],i,h,_=>absurd h (by show ¬ i<0;omega)
 | l::ls,i,h,hp=>by
  rw [ringOf_cons,List.length_append,rootW_len (hp l (by simp))] at h
  by_cases c:i<rootL l
  ·exact ⟨[],l,ls,rfl,Nat.zero_le _,by show i<0+rootL l;omega⟩
  ·obtain ⟨a,l',b,e1,e2,e3⟩:=root_at ls (i-rootL l) (by omega) fun x hx=>hp x (by simp [hx])
   refine ⟨l::a,l',b,by rw [e1];rfl,?_,?_⟩ <;> rw [ringOf_cons,List.length_append,rootW_len (hp l (by simp))] <;> omega
theorem filter_le:∀ (l:List W) (p q:W->Bool),(∀ u,p u=true->q u=true)->(l.filter p).length<=(l.filter q).length
 | [],_,_,_=>Nat.le_refl _
 | a::l,p,q,h=>by
  have ih:=filter_le l p q h
  rw [List.filter_cons,List.filter_cons]
  cases hp:p a with
  | true=>rw [h a hp];simp only [if_true,List.length_cons];omega
  | false =>
   cases hq:q a with
   | true=>simp only [Bool.false_eq_true,if_false,if_true,List.length_cons];omega
   | false=>simp only [Bool.false_eq_true,if_false];exact ih
theorem up_thr {l w:W}{N:Nat}(hk:0<k)(hl:LW k n l)(hw:w.length=n)(h1:cb k l<=N)(h2:N<upN k l):N<upN k w↔¬ w<l:=by
 have hll:=hl.len
 constructor
 ·intro h hlt
  have:upN k w<=cb k l:=by
   unfold upN cb
   rw [hw,hll]
   refine filter_le _ _ _ fun u hu=>?_
   have hu:¬ w<least u:=by simpa using hu
   have:least u<l:=Classical.byContradiction fun z=>hu (ltle hlt z)
   simp [this]
  omega
 ·intro h
  refine Nat.lt_of_lt_of_le h2 ?_
  unfold upN
  rw [hw,hll]
  refine filter_le _ _ _ fun u hu=>?_
  have hu:¬ l<least u:=by simpa using hu
  have:¬ w<least u:=lele hu h
  simp [this]
theorem first_thr {l:W}{m:Nat}(hk:0<k)(hl:l.length=n∧Okk k l)(hm:m<k ^ n)(h1:¬ spell k n m<l)(h2:m=0∨spell k n (m-1)<l):spell k n m=l:=by
 have hsp:∀ j,(spell k n j).length=n∧Okk k (spell k n j):=fun j=>⟨spell_len ..,spell_mem hk _ _⟩
 obtain ⟨s1,s2⟩:=spell_num n l hl.1 hl.2
 have g1:¬ m<num k l:=fun z=>h1 ((num_lt hk (hsp m) hl).mpr (by rw [num_spell hk n m hm];exact z))
 have g2:m=0∨m-1<num k l:=h2.imp id fun h=>by
  have:=(num_lt hk (hsp (m-1)) hl).mp h
  rwa [num_spell hk n (m-1) (by omega)] at this
 have:num k l=m:=by omega
 rw [<- s1,this]
set_option genInjectivity false in
structure Walk (R:W)(f:W)(k:Nat)(ls:List W)(p:Nat)(t u:W):Prop where
 mem:u∈ls
 rd:t=ringAt R t.length p
 at_:(p+t.length) % R.length=cb k u-cb k f
 ge:cb k f<=cb k u
theorem Walk.step (hk:0<k)(hn:0<n)(e:LO k n=pre++f::ls){p:Nat}{t u:W}(h:Walk (ringOf (f::ls)) f k (f::ls) p t u):t++rootW u=ringAt (ringOf (f::ls)) (t++rootW u).length p∧cb k u-cb k f+rootL u<=(ringOf (f::ls)).length∧(p+(t++rootW u).length) % (ringOf (f::ls)).length=(cb k u-cb k f+rootL u) % (ringOf (f::ls)).length:=by
 have hpos:=ring_pos hk hn e
 obtain ⟨a,b,hab⟩:=List.append_of_mem h.mem
 have hu:LW k n u:=(mem_LO hk).mp (by rw [e,hab];simp)
 have hu0:0<u.length:=by rw [hu.len];exact hn
 have hlen:=ring_len hk hn a pre b u f (by rw [e,hab]) (by rw [<- hab];rfl)
 have hrl:=rootW_len hu0
 have hR:ringOf (f::ls)=ringOf a++rootW u++ringOf b:=by rw [hab,ringOf_app,ringOf_cons,List.append_assoc]
 have hRl:(ringOf (f::ls)).length=(ringOf a).length+rootL u+(ringOf b).length:=by rw [hR,List.length_append,List.length_append,hrl]
 have hbeg:cb k u-cb k f=(ringOf a).length:=by omega
 have hat:=h.at_
 rw [hbeg] at hat
 refine ⟨?_,by omega,?_⟩
 ·apply ext_get
  ·rw [ringAt_len]
  ·intro i hi
   rw [List.length_append] at hi
   rw [ringAt_get (by rw [List.length_append];exact hi) hpos]
   by_cases c:i<t.length
   ·rw [List.getElem?_append_left c]
    conv=>lhs;rw [h.rd]
    rw [ringAt_get c hpos]
   ·rw [List.getElem?_append_right (by omega)]
    have e1:(p+i) % (ringOf (f::ls)).length=(ringOf a).length+(i-t.length):=by
     rw [show p+i=(p+t.length)+(i-t.length) by omega,Nat.add_mod,hat]
     rw [hrl] at hi
     rw [Nat.mod_eq_of_lt (show i-t.length<(ringOf (f::ls)).length by omega),Nat.mod_eq_of_lt (by omega)]
    rw [e1]
    conv=>rhs;rw [hR,List.append_assoc]
    rw [List.getElem?_append_right (by omega),Nat.add_sub_cancel_left,List.getElem?_append_left (by omega)]
 ·rw [List.length_append,hrl,<- Nat.add_assoc,Nat.add_mod,hat,hbeg]
  conv=>rhs;rw [Nat.add_mod]
  rw [Nat.mod_eq_of_lt (show (ringOf a).length<(ringOf (f::ls)).length by have:=(rootL_is hu0).pos;omega)]
theorem Walk.next (hk:0<k)(hn:0<n)(e:LO k n=pre++f::ls){p:Nat}{t u v:W}(h:Walk (ringOf (f::ls)) f k (f::ls) p t u)(hv:(NX k u v)∨(v=f∧∀ x,LW k n x->¬ u<x)):Walk (ringOf (f::ls)) f k (f::ls) p (t++rootW u) v:=by
 obtain ⟨h1,h2,h3⟩:=h.step hk hn e
 have hu:LW k n u:=(mem_LO hk).mp (by rw [e];exact List.mem_append_right _ h.mem)
 rcases hv with hv | ⟨rfl,hno⟩
 ·have hc:=cb_next hk hn hu hv
  have hvl:LW k n v:=by have:=hv.lw;rwa [hu.len] at this
  have hge:=h.ge
  have hm:v∈f::ls:=by
   have hfu:¬ u<f:=fun z=>by
    obtain ⟨a,b,hab⟩:=List.append_of_mem h.mem
    have hs:=LO_sorted (k:=k) (n:=n) hk
    rw [e] at hs
    obtain ⟨_,h2,_⟩:=List.pairwise_append.mp hs
    rcases List.mem_cons.mp h.mem with rfl | hm
    ·exact ltir _ z
    ·exact ltir _ (ltt z ((List.pairwise_cons.mp h2).1 u hm))
   obtain ⟨a,b,hab⟩:=split_at hk e hvl (fun z=>hfu (ltt hv.gt z))
   rw [hab];simp
  refine ⟨hm,h1,?_,by omega⟩
  rw [h3,hc,show cb k u+rootL u-cb k f=cb k u-cb k f+rootL u by omega]
  refine Nat.mod_eq_of_lt ?_
  have hvp:=(rootL_is (w:=v) (by rw [hvl.len];exact hn)).pos
  obtain ⟨a,b,hab⟩:=List.append_of_mem hm
  have hlen:=ring_len hk hn a pre b v f (by rw [e,hab]) (by rw [<- hab];rfl)
  have hRl:(ringOf (f::ls)).length=(ringOf a).length+(rootL v+(ringOf b).length):=by rw [hab,ringOf_app,List.length_append,ringOf_cons,List.length_append,rootW_len (by rw [hvl.len];exact hn)]
  omega
 ·have htop:u=topW k n:=tri (hno _ (topW_LW hk)) (top_le hu.len hu.ok) |>.symm▸rfl
  have htot:=ring_total hk hn e
  have hup:=up_top (k:=k) (n:=n) hk hn
  have hucb:=up_cb (l:=topW k n) hk (by rw [topW_len];exact hn) (by rw [topW_len];exact topW_LW hk)
  have hge:=h.ge
  rw [htop] at h1 h2 h3 hge ⊢
  refine ⟨by simp,h1,?_,Nat.le_refl _⟩
  rw [h3,show cb k (topW k n)-cb k v+rootL (topW k n)=(ringOf (v::ls)).length by omega,Nat.mod_self,Nat.sub_self]
end
end Wd
namespace Wd
def ringF (k:Nat)(f:W):W:=ringOf ((LO k f.length).filter fun v=>!decide (v<f))
theorem ringF_is {k n:Nat}{f:W}(hk:0<k)(hf:LW k n f):∃ pre ls,LO k n=pre++f::ls∧ringF k f=ringOf (f::ls):=by
 obtain ⟨pre,ls,e⟩:=List.append_of_mem ((mem_LO hk).mpr hf)
 refine ⟨pre,ls,e,?_⟩
 have hs:=LO_sorted (k:=k) (n:=n) hk
 rw [e] at hs
 obtain ⟨_,h2,h3⟩:=List.pairwise_append.mp hs
 obtain ⟨h4,_⟩:=List.pairwise_cons.mp h2
 unfold ringF
 rw [hf.len,e,List.filter_append,List.filter_eq_nil_iff.mpr (fun v hv=>by simp [h3 v hv f (by simp)]),List.nil_append]
 rw [List.filter_eq_self.mpr]
 intro v hv
 rcases List.mem_cons.mp hv with rfl | hv
 ·simp [ltir]
 ·have:¬ v<f:=fun z=>ltir _ (ltt z (h4 v hv))
  simp [this]
theorem ringF_len {k n:Nat}{f:W}(hk:0<k)(hn:0<n)(hf:LW k n f):(ringF k f).length+cb k f=k ^ n∧0<(ringF k f).length:=by
 obtain ⟨pre,ls,e,h⟩:=ringF_is hk hf
 rw [h]
 exact ⟨ring_total hk hn e,ring_pos hk hn e⟩
theorem ringF_at {k n:Nat}{f:W}{i:Nat}(hk:0<k)(hn:0<n)(hf:LW k n f)(hi:i<(ringF k f).length):∃ l,LW k n l∧¬ l<f∧cb k f<=cb k l∧cb k l<=cb k f+i∧cb k f+i<upN k l:=by
 obtain ⟨pre,ls,e,h⟩:=ringF_is hk hf
 rw [h] at hi
 have hall:∀ x∈f::ls,LW k n x:=fun x hx=>(mem_LO hk).mp (by rw [e];exact List.mem_append_right _ hx)
 obtain ⟨a,l,b,h1,h2,h3⟩:=root_at (f::ls) i hi fun x hx=>by rw [(hall x hx).len];exact hn
 have hl:=hall l (by rw [h1];simp)
 have hlen:=ring_len hk hn a pre b l f (by rw [e,h1]) (by rw [<- h1];rfl)
 have hup:=up_cb (l:=l) hk (by rw [hl.len];exact hn) (by rw [hl.len];exact hl)
 refine ⟨l,hl,fun z=>?_,by omega,by omega,by omega⟩
 have hs:=LO_sorted (k:=k) (n:=n) hk
 rw [e] at hs
 obtain ⟨_,g2,_⟩:=List.pairwise_append.mp hs
 have hm:l∈f::ls:=by rw [h1];simp
 rcases List.mem_cons.mp hm with rfl | hm
 ·exact ltir _ z
 ·exact ltir _ (ltt z ((List.pairwise_cons.mp g2).1 l hm))
theorem first_up {k n N m:Nat}{l:W}(hk:0<k)(hl:LW k n l)(hm:m<k ^ n)(h1:N<upN k (spell k n m))(h2:m=0∨upN k (spell k n (m-1))<=N)(h3:cb k l<=N)(h4:N<upN k l):spell k n m=l:=by
 refine first_thr hk ⟨hl.len,hl.ok⟩ hm ((up_thr hk hl (spell_len ..) h3 h4).mp h1) (h2.imp id fun h=>?_)
 exact Classical.byContradiction fun z=>by have:=(up_thr hk hl (spell_len k n (m-1)) h3 h4).mpr z;omega
theorem ringAt_part {R t:W}{p s m:Nat}(hR:0<R.length)(h:t=ringAt R t.length p)(hl:s+m<=t.length):(t.drop s).take m=ringAt R m (p+s):=by
 apply ext_get
 ·rw [List.length_take,List.length_drop,ringAt_len];omega
 ·intro i hi
  rw [List.length_take,List.length_drop] at hi
  rw [List.getElem?_take_of_lt (by omega),List.getElem?_drop,ringAt_get (by omega) hR]
  conv=>lhs;rw [h]
  rw [ringAt_get (by omega) hR,Nat.add_assoc]
end Wd
namespace Wd
section
variable {k n:Nat}{pre ls:List W}{f:W}
end
section
variable {k n:Nat}{f:W}
theorem ringF_uniq (hk:0<k)(hn:0<n)(hf:LW k n f){w:W}{i j:Nat}(h1:At (ringF k f) n w i)(h2:At (ringF k f) n w j):i=j:=by
 obtain ⟨pre,ls,e,hR⟩:=ringF_is hk hf
 rw [hR] at h1 h2
 exact At.uniq hk hn e h1 h2
end
end Wd
namespace Wd
end Wd
namespace Wd
section
variable {k n:Nat}{f:W}
end
end Wd
namespace L2
open PySem PySem.Spec PyProof.Rows
def tx (l:List Nat):Str:=⟨l.toArray⟩
abbrev T (l:List Nat):V:=.str (tx l)
theorem tx_len (l:List Nat):(tx l).length=l.length:=by simp [tx,Str.length]
theorem tx_cps (l:List Nat):(tx l).cps.toList=l:=by simp [tx]
theorem tx_eta (x:Str):tx x.cps.toList=x:=by cases x;simp [tx]
theorem tx_inj {a b:List Nat}(h:tx a=tx b):a=b:=by
 have e:=congrArg (fun x:Str=>x.cps.toList) h
 simpa [tx] using e
theorem T_inj {a b:List Nat}(h:T a=T b):a=b:=tx_inj (V.str.inj h)
theorem T_dec {a b:List Nat}:decide (T a=T b)=decide (a=b):=by
 rw [Bool.eq_iff_iff,decide_eq_true_iff,decide_eq_true_iff]
 exact ⟨T_inj,fun h=>by rw [h]⟩
theorem tx_app (a b:List Nat):tx a++tx b=tx (a++b):=by
 rw [<- tx_eta (tx a++tx b),PySem.W.KT.app_list,tx_cps,tx_cps]
section
variable {X:Cx}
theorem op_add_T:OpR X (binaryOp .Add) (fun x y H Q=>∃ a,x=T a∧∃ b,y=T b∧a.length+b.length<=sizeLine∧Q (T (a++b)) H):=by
 intro pins s σ H x y v u Q I rx ry h
 obtain ⟨a,e1,b,e2,hz,q⟩:=h
 exact op_add_str pins s σ H x y v u Q I rx ry ⟨tx a,tx b,e1,e2,by rw [tx_len,tx_len];exact hz,by rw [tx_app];exact q⟩
theorem op_lt_T:OpR X (compareOp .Lt) (fun x y H Q=>∃ a,x=T a∧∃ b,y=T b∧Q (.bl (decide (a<b))) H):=by
 intro pins s σ H x y v u Q I rx ry h
 obtain ⟨a,e1,b,e2,q⟩:=h
 exact op_lt_str pins s σ H x y v u Q I rx ry ⟨tx a,tx b,e1,e2,by rw [tx_cps,tx_cps];exact q⟩
theorem op_gt_T:OpR X (compareOp .Gt) (fun x y H Q=>∃ a,x=T a∧∃ b,y=T b∧Q (.bl (decide (b<a))) H):=by
 intro pins s σ H x y v u Q I rx ry h
 obtain ⟨a,rfl,b,rfl,q⟩:=h
 obtain ⟨t,rfl⟩:=rx
 obtain ⟨t',rfl⟩:=ry
 exact PySem.P.gt_str (fin_bl I q (by rw [tx_cps,tx_cps]))
theorem op_eq_T:OpR X (compareOp .Eq) (fun x y H Q=>∃ a,x=T a∧∃ b,y=T b∧Q (.bl (decide (a=b))) H):=by
 intro pins s σ H x y v u Q I rx ry h
 obtain ⟨a,rfl,b,rfl,q⟩:=h
 exact op_eq pins s σ H _ _ v u Q I rx ry ⟨rfl,by rw [T_dec];exact q⟩
theorem op_ne_T:OpR X (compareOp .NotEq) (fun x y H Q=>∃ a,x=T a∧∃ b,y=T b∧Q (.bl (!decide (a=b))) H):=by
 intro pins s σ H x y v u Q I rx ry h
 obtain ⟨a,rfl,b,rfl,q⟩:=h
 exact op_ne pins s σ H _ _ v u Q I rx ry ⟨rfl,by rw [T_dec];exact q⟩
theorem op_eq_I:OpR X (compareOp .Eq) (fun x y H Q=>∃ a,x = .int a∧∃ b,y = .int b∧Q (.bl (decide (a=b))) H):=by
 intro pins s σ H x y v u Q I rx ry h
 obtain ⟨a,rfl,b,rfl,q⟩:=h
 exact op_eq pins s σ H _ _ v u Q I rx ry ⟨rfl,by rw [dec_int,Bool.beq_eq_decide_eq];exact q⟩
theorem op_ne_I:OpR X (compareOp .NotEq) (fun x y H Q=>∃ a,x = .int a∧∃ b,y = .int b∧Q (.bl (!decide (a=b))) H):=by
 intro pins s σ H x y v u Q I rx ry h
 obtain ⟨a,rfl,b,rfl,q⟩:=h
 exact op_ne pins s σ H _ _ v u Q I rx ry ⟨rfl,by rw [dec_int,Bool.beq_eq_decide_eq];exact q⟩
def cutL (l:List Nat)(lo hi:Option Int):List Nat:=(l.drop (HT.sIx l.length 0 lo)).take (HT.sIx l.length l.length hi-HT.sIx l.length 0 lo)
theorem cutL_length_le (l:List Nat)(lo hi:Option Int):(cutL l lo hi).length<=l.length:=by
 unfold cutL
 rw [List.length_take,List.length_drop]
 omega
theorem clip_sIx (v:Option Int)(n d:Nat):(match v with | none=>(d:Int) | some i=>max 0 (min (if i<0 then i+(n:Int) else i) (n:Int)))=((HT.sIx n d v:Nat):Int):=by
 cases v with
 | none=>rfl
 | some i =>
  show max 0 (min (if i<0 then i+(n:Int) else i) (n:Int))=(((if i<0 then (i+(n:Int)).toNat else min i.toNat n):Nat):Int)
  by_cases hi:i<0
  ·simp only [if_pos hi];omega
  ·simp only [if_neg hi];omega
theorem indices_sIx (lo hi:Option Int)(n:Nat):Builtin.Str.strSliceIndices lo hi 1 n=Builtin.Str.strSliceIndices (some ((HT.sIx n 0 lo:Nat):Int)) (some ((HT.sIx n n hi:Nat):Int)) 1 n:=by
 have h1:=HT.sIx_le n 0 (Nat.zero_le _) lo
 have h2:=HT.sIx_le n n (Nat.le_refl _) hi
 have c1:=clip_sIx lo n 0
 have c2:=clip_sIx hi n n
 have d1:=clip_sIx (some ((HT.sIx n 0 lo:Nat):Int)) n 0
 have d2:=clip_sIx (some ((HT.sIx n n hi:Nat):Int)) n n
 rw [HT.sIx_nat,Nat.min_eq_left h1] at d1
 rw [HT.sIx_nat,Nat.min_eq_left h2] at d2
 unfold Builtin.Str.strSliceIndices
 simp only [show ((1:Int)>0) from by decide,if_true]
 have g:∀ a b c d:Int,a=c->b=d->sliceRange a b 1=sliceRange c d 1:=fun a b c d h1 h2=>by rw [h1,h2]
 exact g _ _ _ _ (c1.trans d1.symm) (c2.trans d2.symm)
theorem slice_tx (l:List Nat)(lo hi:Option Int):Txt.slice (tx l) lo hi=tx (cutL l lo hi):=by
 have h1:=HT.sIx_le l.length 0 (Nat.zero_le _) lo
 have h2:=HT.sIx_le l.length l.length (Nat.le_refl _) hi
 unfold Txt.slice
 rw [tx_len,indices_sIx]
 by_cases hab:HT.sIx l.length 0 lo<=HT.sIx l.length l.length hi
 ·have e:=StrLaws.sliceText_nat (tx l) hab (by rw [tx_len];exact h2)
  unfold StrLaws.sliceText at e
  rw [tx_len,tx_cps] at e
  exact e
 ·have e0:Builtin.Str.strSliceIndices (some ((HT.sIx l.length 0 lo:Nat):Int)) (some ((HT.sIx l.length l.length hi:Nat):Int)) 1 l.length=[]:=by
   unfold Builtin.Str.strSliceIndices sliceRange
   have n1:¬ (((HT.sIx l.length 0 lo:Nat):Int)<0):=by omega
   have n2:¬ (((HT.sIx l.length l.length hi:Nat):Int)<0):=by omega
   simp only [show ((1:Int)>0) from by decide,if_true,if_neg n1,if_neg n2]
   have n3:¬ (max (0:Int) (min ((HT.sIx l.length 0 lo:Nat):Int) (l.length:Int))<max (0:Int) (min ((HT.sIx l.length l.length hi:Nat):Int) (l.length:Int))):=by omega
   simp [n3]
  have e1:cutL l lo hi=[]:=by
   unfold cutL
   rw [show HT.sIx l.length l.length hi-HT.sIx l.length 0 lo=0 by omega,List.take_zero]
  rw [e0,e1]
  cases l with
  | nil=>rfl
  | cons c r=>rfl
theorem sl_T:SlR X (fun x lo hi H Q=>∃ a,x=T a∧a.length<=sizeLine∧Q (T (cutL a lo hi)) H):=by
 intro pins s σ H x v vl vu lo hi sl Q I rx hs pl pu h
 obtain ⟨a,rfl,hz,q⟩:=h
 obtain ⟨t,rfl⟩:=rx
 obtain ⟨l,hl1,hl2⟩:∃ l:Option (Int×Tok),partValue l=vl∧l.map (·.1)=lo:=by
  cases pl with
  | none=>exact ⟨none,rfl,rfl⟩
  | int i t=>exact ⟨some (i,t),rfl,rfl⟩
 obtain ⟨u,hu1,hu2⟩:∃ u:Option (Int×Tok),partValue u=vu∧u.map (·.1)=hi:=by
  cases pu with
  | none=>exact ⟨none,rfl,rfl⟩
  | int i t=>exact ⟨some (i,t),rfl,rfl⟩
 refine ⟨"str",_,F.slot_str_getitem.lookup,typeIs_str _ _ _,?_⟩
 have hsl:s.heap.IsSlice sl l u none:=by
  obtain ⟨o,ho,hc,hd⟩:=hs
  exact ⟨o,ho,hc,by rw [hl1,hu1];exact hd⟩
 refine wpAny_getItem_str_slice hsl rfl ?_
 have key:(if ((1:Int)==1&&(Builtin.Str.strSliceIndices lo hi 1 (tx a).length).length==(tx a).length)=true then (tx a) else ⟨((Builtin.Str.strSliceIndices lo hi 1 (tx a).length).filterMap ((tx a).cps[·]?)).toArray⟩)=tx (cutL a lo hi):=slice_tx a lo hi
 unfold sliceMade slicePicked
 rw [hl2,hu2]
 refine post_val_or_str ⟨?_,fun t' k=>?_⟩
 ·show (Txt.slice (tx a) lo hi).length<=sizeLine
  exact Nat.le_trans (Txt.slice_le _ _ _) (by rw [tx_len];exact hz)
 ·refine ⟨T (cutL a lo hi),H,I.tok _,⟨t',?_⟩,q⟩
  exact congrArg (fun z=>Value.str z t') key
theorem rep_length (n:Nat)(l:List Nat):(Wd.rep n l).length=n*l.length:=Wd.rep_len n l
theorem foldl_cps (n:Nat)(c:Array Nat):∀ acc:Array Nat,(List.replicate n c).foldl (· ++ ·) acc=acc++(Wd.rep n c.toList).toArray:=by
 induction n with
 | zero=>intro acc;simp [Wd.rep]
 | succ n ih =>
  intro acc
  rw [List.replicate_succ,List.foldl_cons,ih]
  rw [Wd.rep_succ,Array.append_assoc]
  congr 1
  apply Array.ext'
  simp
theorem mul_tx (n:Nat)(l:List Nat):Txt.mul (tx l) (n:Int)=tx (Wd.rep n l):=by
 unfold Txt.mul
 by_cases h1:(n:Int)<1
 ·have e:n=0:=by omega
  subst e
  rw [if_pos h1]
  rfl
 ·rw [if_neg h1]
  by_cases h2:((n:Int)==1||(tx l).length==0)=true
  ·rw [if_pos h2]
   rw [Bool.or_eq_true,beq_iff_eq,beq_iff_eq,tx_len] at h2
   rcases h2 with h2 | h2
   ·have e:n=1:=by omega
    subst e
    rw [Wd.rep_one]
   ·have e:l=[]:=List.length_eq_zero_iff.mp h2
    subst e
    have:Wd.rep n []=[]:=List.length_eq_zero_iff.mp (by rw [rep_length];simp)
    rw [this]
  ·rw [if_neg h2,Int.toNat_natCast,foldl_cps]
   simp [tx]
theorem op_mul_T:OpR X (binaryOp .Mult) (fun x y H Q=>∃ a,x=T a∧∃ n:Nat,y = .int n∧(n<=sizeLine∧n*a.length<=sizeLine)∧Q (T (Wd.rep n a)) H):=by
 intro pins s σ H x y v u Q I rx ry h
 obtain ⟨a,rfl,n,rfl,⟨h1,h2⟩,q⟩:=h
 obtain ⟨t,rfl⟩:=rx
 obtain ⟨t',rfl⟩:=ry
 have hs:sizeLine=16777216:=sizeLine_eq
 refine SB.mul ⟨?_,?_,?_⟩ fun t' k=>⟨T (Wd.rep n a),H,I.tok _,⟨t',by rw [mul_tx]⟩,q⟩
 ·have e1:decide ((n:Int) < -(2 ^ 63:Int))=false:=decide_eq_false (by omega)
  have e2:decide ((n:Int)≥2 ^ 63)=false:=decide_eq_false (by omega)
  rw [e1,e2]
  rfl
 ·intro hn _
  rw [tx_len]
  have h3:n*a.length<=16777216:=by omega
  intro hc
  have h4:((n*a.length:Nat):Int)<=16777216:=by omega
  have hn':(0:Int)<n:=by omega
  have h5:((2 ^ 63-1)/(n:Int))*n<=2 ^ 63-1:=Int.ediv_mul_le _ (by omega)
  have h6:(2 ^ 63-1:Int)<((2 ^ 63-1)/(n:Int)+1)*n:=Int.lt_ediv_add_one_mul_self _ hn'
  have h7:((2 ^ 63-1)/(n:Int)+1)*n<=(a.length:Int)*n:=Int.mul_le_mul_of_nonneg_right (by omega) (by omega)
  have h8:((n*a.length:Nat):Int)=(a.length:Int)*n:=by rw [Int.natCast_mul,Int.mul_comm]
  omega
 ·intro hn _
  rw [tx_len,Int.toNat_natCast,Nat.mul_comm]
  unfold Builtin.Str.tooLong
  exact decide_eq_false (by omega)
theorem strsAre_T:∀ {ls:List (List Nat)} {us:List Value},Vals (ls.map T) us->StrsAre us (ls.map tx)
 | [],us,r=>by
  cases r
  exact .nil
 | l::ls,us,r=>by
  rw [List.map_cons] at r
  cases r with
  | cons r1 r2 =>
   obtain ⟨t,rfl⟩:=r1
   exact .cons _ _ (strsAre_T r2)
theorem glued_empty:∀ (ls:List (List Nat)) (acc:Array Nat),(ls.map tx).foldl (fun acc p=>acc++(tx []).cps++p.cps) acc=acc++ls.flatten.toArray
 | [],acc=>by simp
 | l::ls,acc=>by
  rw [List.map_cons,List.foldl_cons,glued_empty ls]
  simp [tx]
theorem join_tx (ls:List (List Nat)):Txt.join (tx []) (ls.map tx)=tx ls.flatten:=by
 unfold Txt.join Builtin.Str.glued
 cases ls with
 | nil=>rfl
 | cons l ls =>
  rw [List.map_cons,List.drop_succ_cons,List.drop_zero,List.headD_cons,glued_empty]
  simp [tx]
theorem sum_len_tx (ls:List (List Nat)):((ls.map tx).map (·.length)).sum=ls.flatten.length:=by
 induction ls with
 | nil=>rfl
 | cons l ls ih=>rw [List.map_cons,List.map_cons,List.sum_cons,ih,List.flatten_cons,List.length_append,tx_len]
theorem mt_join:MtR X "str.join" (fun x xs H Q=>x=T []∧∃ (p:Addr) (ls:List (List Nat)),xs=[.ref p]∧SqL X.K H p (ls.map T)∧ls.flatten.length<=sizeLine∧Q (T ls.flatten) H):=by
 intro pins s σ H x xs v us Q I rx rs h
 obtain ⟨rfl,p,ls,rfl,hq,hz,q⟩:=h
 obtain ⟨t,rfl⟩:=rx
 obtain ⟨u,rfl,ru⟩:=vals1 rs
 cases ru
 obtain ⟨its,r,pl,_⟩:=I.list hq
 have hs:sizeLine=16777216:=sizeLine_eq
 refine join_list pl.isList (ys:=ls.map tx) (by simpa using strsAre_T r) ?_ fun t' k=>⟨T ls.flatten,H,I.tok _,⟨t',by rw [join_tx]⟩,q⟩
 rw [sum_len_tx,tx_len,List.length_nil,Nat.mul_zero]
 omega
end
end L2
namespace L2
theorem cutL_from {w:List Nat}{k:Nat}(h:k<=w.length):cutL w (some (k:Int)) none=w.drop k:=by
 unfold cutL
 rw [HT.sIx_nat,HT.sIx_none,Nat.min_eq_left h]
 exact List.take_of_length_le (by rw [List.length_drop];omega)
theorem cutL_to {w:List Nat}{k:Nat}(h:k<=w.length):cutL w none (some (k:Int))=w.take k:=by
 unfold cutL
 rw [HT.sIx_nat,HT.sIx_none,Nat.min_eq_left h,List.drop_zero,Nat.sub_zero]
theorem cutL_mid {w:List Nat}{a b:Nat}(hb:b<=w.length)(hab:a<=b):cutL w (some (a:Int)) (some (b:Int))=(w.drop a).take (b-a):=by
 unfold cutL
 rw [HT.sIx_nat,HT.sIx_nat,Nat.min_eq_left hb,Nat.min_eq_left (show a<=w.length by omega)]
end L2
namespace L2
open PySem PySem.Spec PyProof.Rows
set_option genInjectivity false in
structure CompSc (N N':List Str)(sc scope:Scope)(x:Str):Prop where
 kind:scope.kind = .function
 cell:∀ y∈scope.names,y.2≠.cell
 names:∀ y∈scope.names,y.2 = .local->scope.names.lookup y.1=some .local
 var:scope.names.lookup x=some .local
 ok:∀ y∈scope.names,y.2 = .free->sc.names.lookup y.1=some .cell∨sc.names.lookup y.1=some .free
 hd:N'[0]?=some x
 len:N'.length=N.length+1
 sub:∀ i,i<N.length->N'[i+1]?=N[i]?∨(N'[i+1]?.map fun y=>scope.names.lookup y)=some none
 noe:scope.names.lookup ("" : Str)=none
 nol:∀ y∈N'.tail,scope.names.lookup y≠some .local
 nd:N'.Nodup
def closOf (cells:List (Str×Addr)):List (Str×NameKind)->List (Str×Addr)->List (Str×Addr)
 | [],acc=>acc
 | (n,k)::r,acc=>closOf cells r (if k == .free then (n,(cells.lookup n).getD 0)::acc else acc)
theorem clos_sound {cells:List (Str×Addr)}{y:Str}{c:Addr}:∀ (names:List (Str×NameKind)) (acc:List (Str×Addr)),(∀ z∈names,z.2 = .free->∃ c,cells.lookup z.1=some c) ->
  (acc.lookup y=some c->cells.lookup y=some c)->(closOf cells names acc).lookup y=some c->cells.lookup y=some c
 | [],acc,_,ha,h=>ha h
 | (n,k)::r,acc,hz,ha,h=>by
  unfold closOf at h
  refine clos_sound r _ (fun z hm=>hz z (List.mem_cons_of_mem _ hm)) (fun q=>?_) h
  split at q
  ·rename_i hk
   obtain ⟨c',e⟩:=hz (n,k) List.mem_cons_self (by simpa using hk)
   rw [List.lookup_cons] at q
   split at q
   ·rename_i he
    have:y=n:=by simpa using he
    subst this
    rw [e] at q
    rw [e]
    exact q
   ·exact ha q
  ·exact ha q
theorem clos_acc {cells:List (Str×Addr)}{y:Str}:∀ (names:List (Str×NameKind)) (acc:List (Str×Addr)),(∃ c,acc.lookup y=some c)->∃ c,(closOf cells names acc).lookup y=some c
 | [],acc,h=>h
 | (n,k)::r,acc,⟨c,h⟩=>by
  unfold closOf
  refine clos_acc r _ ?_
  split
  ·rw [List.lookup_cons]
   split
   ·exact ⟨_,rfl⟩
   ·exact ⟨c,h⟩
  ·exact ⟨c,h⟩
theorem clos_has {cells:List (Str×Addr)}{y:Str}:∀ (names:List (Str×NameKind)) (acc:List (Str×Addr)),(y,NameKind.free)∈names->∃ c,(closOf cells names acc).lookup y=some c
 | (n,k)::r,acc,h=>by
  unfold closOf
  rcases List.mem_cons.mp h with e | h
  ·cases e
   refine clos_acc r _ ⟨(cells.lookup y).getD 0,?_⟩
   simp
  ·exact clos_has r _ h
theorem clos_eq {scope:Scope}{env:Env}(h:∀ z∈scope.names,z.2 = .free->∃ c,env.cells.lookup z.1=some c):closureFor scope env=pure (closOf env.cells scope.names []):=by
 have gen:∀ (names:List (Str×NameKind)) (acc:List (Str×Addr)),(∀ z∈names,z.2 = .free->∃ c,env.cells.lookup z.1=some c) ->
   (forIn names acc fun (x:Str×NameKind) (r:List (Str×Addr))=>(if (x.2==NameKind.free)=true then (do let a <- cellOf env x.1;pure (ForInStep.yield ((x.1,a)::r))) else pure (ForInStep.yield r):Sem (ForInStep (List (Str×Addr)))))=(pure (closOf env.cells names acc):Sem (List (Str×Addr))):=by
  intro names
  induction names with
  | nil=>intro acc _;rfl
  | cons z r ih =>
   intro acc hz
   obtain ⟨n,k⟩:=z
   rw [List.forIn_cons]
   unfold closOf
   by_cases hk:(k==NameKind.free)=true
   ·obtain ⟨c,e⟩:=hz (n,k) List.mem_cons_self (by simpa using hk)
    have e':env.cells.lookup n=some c:=e
    simp only [hk,if_true,cellOf,e',pure_bind,Option.getD_some]
    exact ih _ fun z hm=>hz z (List.mem_cons_of_mem _ hm)
   ·simp only [hk,Bool.false_eq_true,if_false,pure_bind]
    exact ih _ fun z hm=>hz z (List.mem_cons_of_mem _ hm)
 have g:=gen scope.names [] h
 unfold closureFor
 refine Eq.trans ?_ (congrArg (fun (m:Sem (List (Str×Addr)))=>m >>= fun cs=>pure cs) g)
 rfl
theorem relabel_lookup (scope:Scope)(env:Env)(y:Str):(relabel scope env).names.lookup y=(scope.names.lookup y).map fun k=>if (k==NameKind.free&&env.scope.kind == .function&&env.kindOf y==some .cell)=true then NameKind.cell else k:=by
 unfold relabel
 show List.lookup y (scope.names.map fun (n,k)=>if (k==NameKind.free&&env.scope.kind == .function&&env.kindOf n==some .cell)=true then (n,NameKind.cell) else (n,k))=_
 induction scope.names with
 | nil=>rfl
 | cons z r ih =>
  obtain ⟨n,k⟩:=z
  rw [List.map_cons]
  by_cases hy:(y==n)=true
  ·have e:y=n:=by simpa using hy
   subst e
   by_cases hc:(k==NameKind.free&&env.scope.kind == .function&&env.kindOf y==some .cell)=true
   ·simp only [hc,if_true,List.lookup_cons,beq_self_eq_true,Option.map_some]
   ·simp only [hc,if_false,List.lookup_cons,beq_self_eq_true,Option.map_some,Bool.false_eq_true]
  ·have hy':(y==n)=false:=by simpa using hy
   by_cases hc:(k==NameKind.free&&env.scope.kind == .function&&env.kindOf n==some .cell)=true
   ·simp only [hc,if_true,List.lookup_cons,hy']
    exact ih
   ·simp only [hc,if_false,List.lookup_cons,hy',Bool.false_eq_true]
    exact ih
theorem lookup_mem {κ:Type}:∀ {l:List (Str×κ)} {y:Str} {k:κ},l.lookup y=some k->(y,k)∈l:=fun h=>PySem.mem_of_lookup h
abbrev cxComp (X:Cx)(N':List Str)(scope:Scope)(cl:List (Str×Addr))(C:Addr)(s:Shared)(H:Hp)(fp:List Addr):Cx :=
 { X with env:=compEnvC scope cl C X.env,N:=N',s₀:=s,H₀:=H,outer:=X.stack,stack:=X.stack,ex:=fp,fn:=fun _=>false,xe:=fun _ _=>False }
abbrev tstF (cds:List Expr)(env:Env):Sem Bool:=forIn cds true fun c r=>if r=true then do let ok <- isTrue c env (eval c env);pure (ForInStep.yield ok) else pure (ForInStep.yield r)
def PTL (X:Cx)(cds:List Expr)(t:TT):Prop :=
 ∀ (pins:List (Addr×Obj)) (s:Shared) (σ:St) (H:Hp) (Q:Bool->Hp->Prop),Inv X pins σ H s->t σ H Q->wpAny (model X.prog X.w) X.A (tstF cds X.env) (TP X pins σ Q) X.xe s
theorem ptl_nil {X:Cx}:PTL X [] (fun _ H k=>k true H):=fun pins s σ H Q I q=>wpAny_tests_nil ⟨H,I,q⟩
theorem ptl_one {X:Cx}{cd:Expr}{tc:TT}(h:PT X cd tc):PTL X [cd] tc:=fun pins s σ H Q I q=>wpAny_tests_one (h pins s σ H Q I q)
theorem codeAny_compLoop_ts {prog:Program}{w:World}{A:Around}{R:Result->Shared->Prop}{s:Shared}{elt target iter:Expr}{cds:List Expr}{scope:Scope}{pos:Pos}{it acc:Value}{env:Env}(I:Nat->Shared->Prop)
  (turn:∀ n s,I n s->wpAny (model prog w) A (pyNext it) (fun r s₁=>match r with
   | none=>R (.ok .next) s₁
   | some v=>wpAny (model prog w) A (letOwnedTupleGo target it v) (fun _ s₁'=>wpAny (model prog w) A (assign target env v) (fun _ s₂=>wpAny (model prog w) A (tstF cds env) (fun ok s₂' =>
    if ok=true then wpAny (model prog w) A (eval elt env) (fun x s₃ =>
     wpAny (model prog w) A (call (.builtin "list.append") [acc,x]) (fun _ s₄=>∃ m,m<n∧I m s₄) (fun _ _=>False) s₃) (fun _ _=>False) s₂'
    else ∃ m,m<n∧I m s₂') (fun _ _=>False) s₂) (fun _ _=>False) s₁') (fun _ _=>False) s₁) (fun _ _=>False) s)
  (n:Nat) (h:I n s) :
  codeAny (model prog w) A (.compLoop (.ListComp elt [⟨target,iter,cds,0⟩] scope pos) 0 it acc env) R s:=by
 refine codeAny_loop rfl I (fun n s hI=>?_) n h
 show wpAny _ A ((compTurn (.ListComp elt [⟨target,iter,cds,0⟩] scope pos) 0 it acc env).onRaise (fun x=>do noteFrame x env;theTreesLotGoes x)) _ _ s
 refine wpAny_noted ?_
 rw [compTurn_list]
 refine wpAny_bind (wpAny_standAt (wpAny_bind (wpAny_mono (turn n s hI) (fun r s₁ h₁=>?_) fun _ _ h'=>h'.elim)))
 cases r with
 | none=>exact wpAny_pure h₁
 | some v =>
  refine wpAny_bind (wpAny_mono h₁ (fun _ s₀ h₀=>?_) fun _ _ h'=>h'.elim)
  refine wpAny_bind (wpAny_mono h₀ (fun _ s₂ h₂=>?_) fun _ _ h'=>h'.elim)
  refine wpAny_bind ((wpAny_mono h₂ (fun ok s₃ h₃=>?_) fun _ _ h'=>h'.elim))
  cases ok with
  | false=>exact wpAny_pure ⟨rfl,by simpa using h₃⟩
  | true =>
   have h₃':=h₃
   simp only [if_true] at h₃'
   exact wpAny_bind (wpAny_bind (wpAny_mono h₃' (fun x s₄ h₄=>wpAny_bind (wpAny_mono h₄ (fun _ s₅ h₅=>wpAny_pure (wpAny_pure ⟨rfl,h₅⟩)) fun _ _ h'=>h'.elim)) fun _ _ h'=>h'.elim))
def compAt (te:TE)(σ:St)(Q:VK)(J:It)(H1:Hp):Prop:=∀ D,H1 D=none->∃ W:Nat->Nat->List V->Hp->Prop,(∃ m,W 0 m [] (upd H1 D (.lst [])))∧∀ i m ys H2,W i m ys H2 ->
 (J.stop i H2∧Q (.ref D) H2)∨(J.go i H2∧ys.length<sizeLine∧∃ N:V->Hp->Prop,(∀ v H',N v H'->H' D=some (.lst ys)∧∃ m',m'<m∧W (i+1) m' (ys++[v]) (upd H' D (.lst (ys++[v])))) ∧
  ∀ y H',J.yld i H2 y H'->te (some y::σ) H' N)
def tComp (wi:TI)(te:TE):TE:=fun σ H Q=>wi σ H (compAt te σ Q)
def compAtF (tc:TT)(te:TE)(σ:St)(Q:VK)(J:It)(H1:Hp):Prop:=∀ D,H1 D=none->∃ W:Nat->Nat->List V->Hp->Prop,(∃ m,W 0 m [] (upd H1 D (.lst [])))∧∀ i m ys H2,W i m ys H2 ->
 (J.stop i H2∧Q (.ref D) H2)∨(J.go i H2∧ys.length<sizeLine∧∃ N:V->Hp->Prop,(∀ v H',N v H'->H' D=some (.lst ys)∧∃ m',m'<m∧W (i+1) m' (ys++[v]) (upd H' D (.lst (ys++[v])))) ∧
  ∃ Nn:Hp->Prop,(∀ H',Nn H'->∃ m',m'<m∧W (i+1) m' ys H') ∧
  ∀ y H',J.yld i H2 y H'->tc (some y::σ) H' fun b H''=>if b=true then te (some y::σ) H'' N else Nn H'')
def tCompF (wi:TI)(tc:TT)(te:TE):TE:=fun σ H Q=>wi σ H (compAtF tc te σ Q)
section
variable {X:Cx}{N':List Str}{scope:Scope}{x:Str}{px:Pos}{elt iter:Expr}{cds:List Expr}{pos:Pos}{te:TE}{tc:TT}{wi:TI}
theorem compx_core (S:CompSc X.N N' X.env.scope scope x)(hc:X.calm=true)(ht:∀ cl C s H fp,PTL (cxComp X N' scope cl C s H fp) cds tc)(he:∀ cl C s H fp,PE (cxComp X N' scope cl C s H fp) elt te)
  {pins:List (Addr×Obj)} {σ:St} {H:Hp} {s:Shared} {Q:VK} {E:Value->Shared->Prop} {RR:Value->Addr->Result->Shared->Prop} {it:Addr} {fp:List Addr} {tn:Nat->Heap->Prop} {J:It}
  (I:Inv X pins σ H s) (T:Turn X.prog X.w X.K (.Name x px) J fp it tn) (st:tn 0 s.heap) (f2:∀ b∈fp,FpOk X pins H b)
  (hw:compAtF tc te σ Q J H)
  (hRR:∀ D C s' H',Inv X pins σ H' s'->(∃ m,s'.heap.Ns C m)->C≠X.env.locals->(∀ y c,X.env.cells.lookup y=some c->c≠C)->H' C=none->X.s₀.heap.objs.size<=C->(∀ p∈X.pn++pins,p.1≠C)->Q (.ref D) H'->RR (.ref D) C (.ok .next) s') :
  ∃ cl,closureFor scope X.env=pure cl∧wpAny (model X.prog X.w) X.A (newList []) (fun acc s₃=>wpAny (model X.prog X.w) X.A (newFunctionEnv scope X.env.globals cl [] X.env.qual none .none (some X.env)) (fun cenv s₄ =>
   codeAny (model X.prog X.w) X.A (.compStart (.ListComp elt [⟨.Name x px,iter,cds,0⟩] scope pos) 0 (.ref it) acc { cenv with scope:=relabel scope X.env }) (RR acc cenv.locals) s₄) E s₃) E s:=by
 have hfree:∀ z∈scope.names,z.2 = .free->∃ c,X.env.cells.lookup z.1=some c:=fun z hz hk=>by
  rcases S.ok z hz hk with q | q
  ·exact I.ok.has z.1 (.inl q)
  ·exact I.ok.has z.1 (.inr q)
 refine ⟨_,clos_eq hfree,?_⟩
 have clS:∀ y c,(closOf X.env.cells scope.names []).lookup y=some c->X.env.cells.lookup y=some c:=fun y c=>clos_sound scope.names [] hfree fun q=>by cases q
 generalize hcl:closOf X.env.cells scope.names []=cl at clS
 have clH:∀ y,scope.names.lookup y=some .free->∃ c,cl.lookup y=some c:=fun y hy=>by
  rw [<- hcl]
  exact clos_has scope.names [] (lookup_mem hy)
 refine wpAny_newObj_type (wpAny_newFunctionEnv S.cell (by intro y hy;simp at hy) (fun h₁ hns₁ hsb₁=>?_) S.kind)
 have I3:Inv X pins σ (upd H s.heap.objs.size (.lst [])) { s with heap:=s.heap.push { cls:=.type "list",data:=.seq ([]:List Value).toArray } }:=I.lnew (t':=s.toks) .nil (Nat.zero_le _)
 obtain ⟨W,⟨m0,w0⟩,turn⟩:=hw s.heap.objs.size I.fresh
 dsimp only at hns₁ hsb₁ ⊢
 generalize hs3:({ s with heap:=s.heap.push { cls:=.type "list",data:=.seq ([]:List Value).toArray } }:Shared)=s3 at I3
 have hh3:s3.heap=s.heap.push { cls:=.type "list",data:=.seq ([]:List Value).toArray }:=by rw [<- hs3]
 have hsz3:s3.heap.objs.size=s.heap.objs.size+1:=by rw [hh3,Heap.size_push]
 rw [<- hh3] at hns₁ hsb₁ ⊢
 have old:∀ b o,s3.heap.get? b=some o->h₁.get? b=some o:=fun b o e=>hsb₁.extBut b o (by have:=Heap.lt_size e;exact Nat.ne_of_lt this) (Heap.get?_push_of_some _ e)
 have old0:∀ b o,s.heap.get? b=some o->h₁.get? b=some o:=fun b o e=>old b o (by rw [hh3];exact Heap.get?_push_of_some _ e)
 have CneL:s3.heap.objs.size≠X.env.locals:=Nat.ne_of_gt I3.lt
 have CneC:∀ y c,X.env.cells.lookup y=some c->c≠s3.heap.objs.size:=fun y c e z=>by
  obtain ⟨v,q⟩:=I3.cell y c e
  have:=q.lt
  rw [z] at this
  exact absurd this (Nat.lt_irrefl _)
 have CneP:∀ p∈X.pn++pins,p.1≠s3.heap.objs.size:=fun p hp z=>by
  have:=Heap.lt_size (I3.pin p hp).1
  rw [z] at this
  exact absurd this (Nat.lt_irrefl _)
 have CfreeH:∀ b o,s3.heap.get? b=some o->b<s3.heap.objs.size:=fun b o e=>by have:=Heap.lt_size e;exact this
 have fpLt:∀ b∈fp,b<s3.heap.objs.size:=fun b hb=>by
  obtain ⟨o,e,_⟩:=T.obj 0 s.heap st b hb
  rw [hsz3]
  exact Nat.lt_succ_of_lt (Heap.lt_size e)
 have fpD:∀ b∈fp,b≠s.heap.objs.size:=fun b hb=>by
  obtain ⟨o,e,_⟩:=T.obj 0 s.heap st b hb
  exact Nat.ne_of_lt (Heap.lt_size e)
 have ok':(cxComp X N' scope cl s3.heap.objs.size s3 (upd H s.heap.objs.size (.lst [])) fp).Ok:=by
  refine ⟨I3.ok.mod,?_,I3.ok.glob,I3.ok.blt,Nat.le_refl _,fun y z c h1 h2=>I3.ok.inj y z c (clS y c h1) (clS z c h2),fun y hy=>?_,fun y c hf=>(by cases hf),I3.ok.hd,I3.ok.frames,.inl rfl,fun b hb=>⟨Nat.ne_of_lt (fpLt b hb),fun y c e=>(f2 b hb).2.2.2.2.1 y c (clS y c e)⟩,
   fun b o e=>I3.bs b o e,Nat.le_trans I3.ok.bsz I3.sz,fun b o e hb=>?_,fun b hb z=>?_,I3.stack,I3.stkFree⟩
  ·show (relabel scope X.env).kind = .function
   exact S.kind
  ·have hy':(relabel scope X.env).names.lookup y=some .cell∨(relabel scope X.env).names.lookup y=some .free:=hy
   rw [relabel_lookup] at hy'
   cases q:scope.names.lookup y with
   | none=>rw [q] at hy';rcases hy' with z | z <;> cases z
   | some k =>
    have hm:=lookup_mem q
    cases k with
    | free=>exact clH y q
    | cell=>exact absurd rfl (S.cell _ hm)
    | «local» => rw [q] at hy';rcases hy' with z | z <;> simp at z
    | globalExplicit=>rw [q] at hy';rcases hy' with z | z <;> simp at z
    | globalImplicit=>rw [q] at hy';rcases hy' with z | z <;> simp at z
  ·rcases (f2 b hb).2.2.2.1 with z | z
   ·exact I.ok.noex b o e z
   ·exact absurd (Nat.lt_of_lt_of_le (Heap.lt_size e) (Nat.le_trans I.ok.bsz z)) (Nat.lt_irrefl _)
  ·rcases List.mem_cons.mp (I3.stkSub b z) with q | q
   ·exact (f2 b hb).2.1 q
   ·exact (f2 b hb).2.2.1 q
 have fpOk':∀ {H':Hp},(∀ b∈fp,H' b=none)->∀ b∈fp,FpOk (cxComp X N' scope cl s3.heap.objs.size s3 (upd H s.heap.objs.size (.lst [])) fp) pins H' b:=fun hn b hb =>
  ⟨hn b hb,Nat.ne_of_lt (fpLt b hb),fun z=>by
   rcases List.mem_cons.mp (I3.stkSub b z) with q | q
   ·exact (f2 b hb).2.1 q
   ·exact (f2 b hb).2.2.1 q,.inl hb,fun y c e=>(f2 b hb).2.2.2.2.1 y c (clS y c e),(f2 b hb).2.2.2.2.2⟩
 have I4:Inv (cxComp X N' scope cl s3.heap.objs.size s3 (upd H s.heap.objs.size (.lst [])) fp) pins (none::σ) (upd H s.heap.objs.size (.lst [])) { s3 with heap:=h₁,toks:=s3.toks+([]:List (Str×Value)).length }:=by
  refine ⟨ok',rfl,I3.bare,Un.kept old,⟨_,hns₁,fun i y v e1 e2 vis=>?_⟩,fun y c e=>?_,?_,fun y c e=>I3.freeC y c (clS y c e),fun p hp=>?_,I3.hok.kept old,?_⟩
  ·cases i with
   | zero=>cases e2
   | succ i =>
    have e2':σ[i]?=some (some v):=by simpa using e2
    have hi:i<X.N.length:=by rw [<- I3.len];exact (List.getElem?_eq_some_iff.mp e2').1
    have vis':(relabel scope X.env).names.lookup y=some .local∨(relabel scope X.env).names.lookup y=some .cell∨(relabel scope X.env).names.lookup y=some .free:=vis
    have e1':N'[i+1]?=some y:=e1
    rcases S.sub i hi with q | q
    ·rw [e1'] at q
     have hy:X.N[i]?=some y:=q.symm
     have hmem:y∈N'.tail:=by
      rw [List.mem_iff_getElem?]
      exact ⟨i,by rw [List.getElem?_tail];exact e1'⟩
     have hfr:scope.names.lookup y=some .free:=by
      rw [relabel_lookup] at vis'
      cases q2:scope.names.lookup y with
      | none=>rw [q2] at vis';rcases vis' with z | z | z <;> cases z
      | some k =>
       cases k with
       | free=>rfl
       | cell=>exact absurd rfl (S.cell _ (lookup_mem q2))
       | «local» => exact absurd q2 (S.nol y hmem)
       | globalExplicit=>rw [q2] at vis';rcases vis' with z | z | z <;> simp at z
       | globalImplicit=>rw [q2] at vis';rcases vis' with z | z | z <;> simp at z
     have hok:=S.ok (y,.free) (lookup_mem hfr) rfl
     obtain ⟨m,hn,hl⟩:=I3.loc
     have visX:Vis X.env.scope y:=by
      rcases hok with z | z
      ·exact .inr (.inl z)
      ·exact .inr (.inr z)
     obtain ⟨u,r,l⟩:=hl i y v hy e2' visX
     refine ⟨u,r,.inr ⟨?_,?_⟩⟩
     ·show (relabel scope X.env).names.lookup y=some .cell∨(relabel scope X.env).names.lookup y=some .free
      rw [relabel_lookup,hfr,Option.map_some]
      by_cases hcnd:(NameKind.free==NameKind.free&&X.env.scope.kind == .function&&X.env.kindOf y==some .cell)=true
      ·left
       rw [if_pos hcnd]
      ·right
       rw [if_neg hcnd]
     ·rcases l with ⟨k,_⟩ | ⟨k,c,e,z⟩
      ·have k':X.env.scope.names.lookup y=some .local:=k
       have hok':X.env.scope.names.lookup y=some .cell∨X.env.scope.names.lookup y=some .free:=hok
       rw [k'] at hok'
       rcases hok' with z | z <;> cases z
      ·obtain ⟨c',e'⟩:=clH y hfr
       have e3:=clS y c' e'
       rw [e] at e3
       cases e3
       obtain ⟨o,ho,hd⟩:=z
       exact ⟨c,e',o,old c o ho,hd⟩
    ·rw [e1'] at q
     have q:scope.names.lookup y=none:=Option.some.inj q
     rw [relabel_lookup,q] at vis'
     rcases vis' with z | z | z <;> cases z
  ·obtain ⟨v,o,ho,hd⟩:=I3.cell y c (clS y c e)
   exact ⟨v,o,old c o ho,hd⟩
  ·show upd H s.heap.objs.size (.lst []) s3.heap.objs.size=none
   exact I3.hok.fresh (Nat.le_refl _)
  ·obtain ⟨e,n,ne,nf,d⟩:=I3.pin p hp
   refine ⟨old _ _ e,n,CneP p hp,fun z=>?_,d⟩
   rcases List.mem_cons.mp (I3.stkSub p.1 z) with q | q
   ·exact ne q
   ·exact nf q
  ·show (none::σ).length=N'.length
   rw [S.len,List.length_cons,I3.len]
 have st4:tn 0 h₁:=T.keep 0 s.heap h₁ st fun b _ o e=>old0 b o e
 have loop:∀ s₄:Shared,s₄ = { s3 with heap:=h₁,toks:=s3.toks+([]:List (Str×Value)).length } ->
   codeAny (model X.prog X.w) X.A (.compLoop (.ListComp elt [⟨.Name x px,iter,cds,0⟩] scope pos) 0 (.ref it) (.ref s.heap.objs.size) (compEnvC scope cl s3.heap.objs.size X.env)) (RR (.ref s.heap.objs.size) s3.heap.objs.size) s₄:=by
  rintro s₄ rfl
  refine codeAny_compLoop_ts (fun n s'=>∃ i v0 ys H',Inv (cxComp X N' scope cl s3.heap.objs.size s3 (upd H s.heap.objs.size (.lst [])) fp) pins (v0::σ) H' s'∧tn i s'.heap∧(∀ b∈fp,H' b=none)∧W i n ys H') ?_ m0
   ⟨0,none,[],_,I4,st4,fun b hb=>by rw [upd_ne (fpD b hb)];exact (f2 b hb).1,w0⟩
  rintro n s5 ⟨i,v0,ys,H5,I5,st5,fr5,w5⟩
  rcases turn i n ys H5 w5 with ⟨stop,qn⟩ | ⟨go,hz,N,hN,Nn,hNn,step⟩
  ·refine thn (T.done (cxComp X N' scope cl s3.heap.objs.size s3 (upd H s.heap.objs.size (.lst [])) fp) rfl rfl rfl hc i pins s5 (v0::σ) H5 (fun _ _=>False) I5 (fpOk' fr5) st5 stop) fun r s6 ⟨hr,I6⟩=>?_
   subst hr
   have hch:∀ b∈fp,(b∈X.ex∨X.s₀.heap.objs.size<=b)∧b≠X.env.locals∧(∀ x c,X.env.cells.lookup x=some c->c≠b)∧∀ p∈X.pn++pins,p.1≠b:=fun b hb =>
    ⟨(f2 b hb).2.2.2.1,(f2 b hb).2.1,(f2 b hb).2.2.2.2.1,(f2 b hb).2.2.2.2.2⟩
   have I7:Inv X pins σ H5 s6:=I3.call' (ch:=fp) I6.os I6.base I6.hok I6.bare hch
   obtain ⟨m,hm,_⟩:=I6.loc
   exact hRR s.heap.objs.size s3.heap.objs.size s6 H5 I7 ⟨m,hm⟩ CneL CneC I6.free (Nat.le_trans I3.sz (Nat.le_refl _)) CneP qn
  ·refine thn (T.item (cxComp X N' scope cl s3.heap.objs.size s3 (upd H s.heap.objs.size (.lst [])) fp) rfl rfl rfl hc i pins s5 (v0::σ) H5 (fun _ _=>False) I5 (fpOk' fr5) st5 go) fun r s6 ⟨u,hr,h6⟩=>?_
   subst hr
   refine thn h6 fun _ s7 ⟨y,H7,I7,r7,y7,st7,fr7⟩=>?_
   have I7':=I7.pinned (fpOk' fr7) (T.obj _ _ st7)
   refine wpAny_assign_Name (store_ok (i:=0) (v:=y) I7' S.nd S.hd (.inl (lookup_relabel_local S.var)) r7 (fun s8 I8=>?_) (.inr (lookup_relabel_local S.var)))
   have I8':Inv (cxComp X N' scope cl s3.heap.objs.size s3 (upd H s.heap.objs.size (.lst [])) fp) (pins++pinsAt fp s7.heap) (some y::σ) H7 s8:=I8
   refine thn (ht cl s3.heap.objs.size s3 (upd H s.heap.objs.size (.lst [])) fp _ s8 (some y::σ) H7 (fun b H''=>if b=true then te (some y::σ) H'' N else Nn H'') I8' (step y H7 y7)) fun okb s8 ⟨H8,I8,q8⟩=>?_
   cases okb with
   | false =>
    have q8':Nn H8:=by simpa using q8
    obtain ⟨m',hm,w9⟩:=hNn H8 q8'
    refine ⟨m',hm,i+1,some y,ys,_,I8.unpinned,T.keep _ _ _ st7 fun b hb o e=>(I8.pin (b,o) (List.mem_append_right _ (List.mem_append_right _ (mem_pinsAt hb e)))).1,fun b hb=>?_,w9⟩
    obtain ⟨o,e,d⟩:=T.obj _ _ st7 b hb
    exact (I8.pin (b,o) (List.mem_append_right _ (List.mem_append_right _ (mem_pinsAt hb e)))).2.1
   | true =>
    refine thn (he cl s3.heap.objs.size s3 (upd H s.heap.objs.size (.lst [])) fp _ s8 (some y::σ) H8 N I8 (by simpa using q8)) fun w s9 ⟨v,H9,I9,r9,q9⟩=>?_
    obtain ⟨hD9,m',hm,w9⟩:=hN v H9 q9
    refine thn (mt_append _ s9 (some y::σ) H9 (.ref s.heap.objs.size) [v] (.ref s.heap.objs.size) [w] (fun z H10=>z = .non∧H10=upd H9 s.heap.objs.size (.lst (ys++[v]))) I9 rfl (.cons r9 .nil) ⟨s.heap.objs.size,ys,v,rfl,rfl,hD9,hz,rfl,rfl⟩) fun _ s10 ⟨z,H10,I10,_,ez,e10⟩=>?_
    subst e10
    refine ⟨m',hm,i+1,some y,ys++[v],_,I10.unpinned,T.keep _ _ _ st7 fun b hb o e=>(I10.pin (b,o) (List.mem_append_right _ (List.mem_append_right _ (mem_pinsAt hb e)))).1,fun b hb=>?_,w9⟩
    obtain ⟨o,e,d⟩:=T.obj _ _ st7 b hb
    exact (I10.pin (b,o) (List.mem_append_right _ (List.mem_append_right _ (mem_pinsAt hb e)))).2.1
 exact codeAny_compStart_list (loop _ (by rw [<- hs3])) (T.self X.A 0 _ _ _ st4 (loop _ (by rw [<- hs3])))
theorem compAt.toF {te:TE}{σ:St}{Q:VK}{J:It}{H:Hp}(hw:compAt te σ Q J H):compAtF (fun _ H k=>k true H) te σ Q J H:=fun D hD=>by
 obtain ⟨W,h0,hW⟩:=hw D hD
 refine ⟨W,h0,fun i m ys H2 hw2=>?_⟩
 rcases hW i m ys H2 hw2 with g | ⟨g1,g2,N,g3,g4⟩
 ·exact .inl g
 ·exact .inr ⟨g1,g2,N,g3,fun _=>False,fun _ z=>z.elim,fun y H' hy=>iteT (g4 y H' hy)⟩
theorem pe_compx {at':St->VK->It->Hp->Prop}(S:CompSc X.N N' X.env.scope scope x)(hc:X.calm=true)(hi:PI X (.Name x px) iter wi)(ht:∀ cl C s H fp,PTL (cxComp X N' scope cl C s H fp) cds tc)(he:∀ cl C s H fp,PE (cxComp X N' scope cl C s H fp) elt te)(cv:∀ σ Q J H,at' σ Q J H->compAtF tc te σ Q J H)
  (hs:∀ x,foldedSetIterable iter X.env x=pure x:=by intro _;rfl):PE X (.ListComp elt [⟨.Name x px,iter,cds,0⟩] scope pos) (fun σ H Q=>wi σ H (at' σ Q)):=by
 intro pins s σ H Q I h
 rw [eval_ListComp]
 have hfree:∀ z∈scope.names,z.2 = .free->∃ c,X.env.cells.lookup z.1=some c:=fun z hz hk=>by
  rcases S.ok z hz hk with q | q
  ·exact I.ok.has z.1 (.inl q)
  ·exact I.ok.has z.1 (.inr q)
 refine wpAny_comprehension_free (use:=none) rfl hs (clos_eq hfree) S.kind S.names (thn (hi pins s σ H _ I h) fun xv s1 h1=>thn h1 fun itv s2 h2=>?_)
 obtain ⟨it,fp,tn,J,H2,e,I2,T,st2,f2,hw⟩:=h2
 subst e
 obtain ⟨cl,hcl,hrun⟩:=compx_core (tc:=tc) (cds:=cds) (elt:=elt) (iter:=iter) (pos:=pos) (px:=px) (E:=X.xe) (RR:=fun acc C=>compPost (model X.prog X.w) X.A X.xe none (EP X pins σ Q) acc C) S hc ht he I2 T st2 f2 (cv _ _ _ _ hw) (fun D C s' H' I' ⟨m,hm⟩ n1 n2 n3 n4 n5 q =>
  ⟨m,hm,fun h' hsb=>⟨.ref D,H',I'.turned (it:=C) (t':=s'.toks) (fun b o hb e=>(hsb.2 b hb).trans e) n3 n1 (.inr n4) n2 n5,rfl,q⟩⟩)
 have ecl:(pure (closOf X.env.cells scope.names []):Sem (List (Str×Addr)))=pure cl:=(clos_eq hfree).symm.trans hcl
 have ecl':closOf X.env.cells scope.names []=cl:=by
  injection ecl
 rw [ecl']
 exact hrun
theorem ps_setCompx {at':St->VK->It->Hp->Prop}{i:Nat}{y:Str}{py spos:Pos}(S:CompSc X.N N' X.env.scope scope x)(hc:X.calm=true)(hi:PI X (.Name x px) iter wi)(ht:∀ cl C s H fp,PTL (cxComp X N' scope cl C s H fp) cds tc)(he:∀ cl C s H fp,PE (cxComp X N' scope cl C s H fp) elt te)(cv:∀ σ Q J H,at' σ Q J H->compAtF tc te σ Q J H)
  (hN:X.N.Nodup) (hy:X.N[i]?=some y) (hyl:X.env.scope.names.lookup y=some .local)
  (hsw:swapsWith (.ListComp elt [⟨.Name x px,iter,cds,0⟩] scope pos) (some (.Name y py)) spos.line X.env=pure true:=by rfl)
  (hs:∀ x,foldedSetIterable iter X.env x=pure x:=by intro _;rfl):PS X (.Assign [.Name y py] (.ListComp elt [⟨.Name x px,iter,cds,0⟩] scope pos) spos) (tAsg (fun σ H Q=>wi σ H (at' σ Q)) (gName i)):=by
 intro pins s σ H D0 I h
 have hfree:∀ z∈scope.names,z.2 = .free->∃ c,X.env.cells.lookup z.1=some c:=fun z hz hk=>by
  rcases S.ok z hz hk with q | q
  ·exact I.ok.has z.1 (.inl q)
  ·exact I.ok.has z.1 (.inr q)
 rw [exec_Assign_Name_used _ _ _ _ hsw]
 refine wpAny_bind (wpAny_standAt (wpAny_bind ?_))
 show wpAny _ X.A (do let _ <- comprehension (.ListComp elt [⟨.Name x px,iter,cds,0⟩] scope pos) scope X.env _ (newList []) false (eval iter X.env) (some (assign (.Name y py) X.env))) _ _ s
 refine wpAny_bind (wpAny_mono (wpAny_comprehension_free (use:=some (assign (.Name y py) X.env)) (Q:=fun _ s'=>SP X pins D0 .next s') rfl hs (clos_eq hfree) S.kind S.names
  (thn (hi pins s σ H _ I h) fun xv s1 h1=>thn h1 fun itv s2 h2=>?_)) (fun _ s' hq=>wpAny_pure (wpAny_pure hq)) fun _ _ e=>e)
 obtain ⟨it,fp,tn,J,H2,e,I2,T,st2,f2,hw⟩:=h2
 subst e
 obtain ⟨cl,hcl,hrun⟩:=compx_core (tc:=tc) (cds:=cds) (elt:=elt) (iter:=iter) (pos:=pos) (px:=px) (E:=X.xe) (Q:=fun x H1=>gName i x σ H1 D0.nx) (RR:=fun acc C=>compPost (model X.prog X.w) X.A X.xe (some (assign (.Name y py) X.env)) (fun _ s'=>SP X pins D0 .next s') acc C) S hc ht he I2 T st2 f2 (cv _ _ _ _ hw) (fun D C s' H' I' ⟨m,hm⟩ n1 n2 n3 n4 n5 q=>by
  show wpAny _ X.A (assign (.Name y py) X.env (.ref D)) _ _ _
  refine wpAny_assign_Name (store_ok2 (i:=i) (v:=.ref D) I' hN hy (.inl hyl) rfl (fun s'' I'' ⟨a,hsa,hwa⟩=>?_) (.inr hyl))
  have haC:C≠a:=by
   rcases hwa with z | z
   ·rw [z];exact n1
   ·intro z2
    exact n2 y a z z2.symm
  refine ⟨m,hm.sameBut hsa haC,fun h' hsb=>?_⟩
  exact ⟨_,H',I''.turned (it:=C) (t':=s''.toks) (fun b o hb e=>(hsb.2 b hb).trans e) n3 n1 (.inr n4) n2 n5,q⟩)
 have ecl:(pure (closOf X.env.cells scope.names []):Sem (List (Str×Addr)))=pure cl:=(clos_eq hfree).symm.trans hcl
 have ecl':closOf X.env.cells scope.names []=cl:=by
  injection ecl
 rw [ecl']
 exact hrun
theorem pe_comp (S:CompSc X.N N' X.env.scope scope x)(hc:X.calm=true)(hi:PI X (.Name x px) iter wi)(he:∀ cl C s H fp,PE (cxComp X N' scope cl C s H fp) elt te)
  (hs:∀ x,foldedSetIterable iter X.env x=pure x:=by intro _;rfl):PE X (.ListComp elt [⟨.Name x px,iter,[],0⟩] scope pos) (tComp wi te) :=
 pe_compx (at':=fun σ Q=>compAt te σ Q) S hc hi (fun _ _ _ _ _=>ptl_nil) he (fun _ _ _ _ h=>h.toF) hs
theorem ps_setComp {i:Nat}{y:Str}{py spos:Pos}(S:CompSc X.N N' X.env.scope scope x)(hc:X.calm=true)(hi:PI X (.Name x px) iter wi)(he:∀ cl C s H fp,PE (cxComp X N' scope cl C s H fp) elt te)
  (hN:X.N.Nodup) (hy:X.N[i]?=some y) (hyl:X.env.scope.names.lookup y=some .local)
  (hsw:swapsWith (.ListComp elt [⟨.Name x px,iter,[],0⟩] scope pos) (some (.Name y py)) spos.line X.env=pure true:=by rfl)
  (hs:∀ x,foldedSetIterable iter X.env x=pure x:=by intro _;rfl):PS X (.Assign [.Name y py] (.ListComp elt [⟨.Name x px,iter,[],0⟩] scope pos) spos) (tAsg (tComp wi te) (gName i)) :=
 ps_setCompx (at':=fun σ Q=>compAt te σ Q) S hc hi (fun _ _ _ _ _=>ptl_nil) he (fun _ _ _ _ h=>h.toF) hN hy hyl hsw hs
end
theorem comp_range {lo:Int}{n:Nat}{te:TE}{σ:St}{H:Hp}{Q:VK}(f:Nat->V)(hn:n<=sizeLine)
  (he:∀ i H',i<n->Same H H'->∀ N:V->Hp->Prop,(∀ H'',Same H' H''->N (f i) H'')->te (some (.int (lo+i))::σ) H' N)
  (hq:∀ D H',H D=none->Same H H'->H' D=some (.lst ((List.range n).map f))->Q (.ref D) H') :
  compAt te σ Q (Itr lo n) H:=by
 intro D hD
 refine ⟨fun i m ys H2=>m=n-i∧i<=n∧ys=(List.range i).map f∧Same H H2∧H2 D=some (.lst ys),⟨n,rfl,Nat.zero_le _,rfl,fun b o e=>?_,upd_same⟩,?_⟩
 ·rw [upd_ne (ne_of_none e hD)]
  exact e
 ·rintro i m ys H2 ⟨rfl,hi,rfl,hs,hd⟩
  by_cases hlt:i<n
  ·refine .inr ⟨hlt,by rw [List.length_map,List.length_range];omega,fun v H'=>v=f i∧Same H2 H',fun v H' ⟨ev,hs'⟩=>⟨hs' D _ hd,n-(i+1),by omega,rfl,hlt,?_,fun b o e=>?_,upd_same⟩,fun y H' hy=>?_⟩
   ·rw [ev,List.range_succ,List.map_append]
    rfl
   ·rw [upd_ne (ne_of_none e hD)]
    exact hs' b o (hs b o e)
   ·obtain ⟨e1,e2⟩:=hy
    subst e1 e2
    exact he i _ hlt hs _ fun H'' h''=>⟨rfl,h''⟩
  ·have e:i=n:=by omega
   subst e
   exact .inl ⟨Nat.le_refl _,hq D H2 hD hs hd⟩
theorem comp_list {K:PySem.W.Frag}{a:Addr}{xs:List V}{te:TE}{σ:St}{H:Hp}{Q:VK}(f:Nat->V)(hl:SqL K H a xs)(hn:xs.length<=sizeLine)
  (he:∀ i x H',xs[i]?=some x->Same H H'->∀ N:V->Hp->Prop,(∀ H'',Same H' H''->N (f i) H'')->te (some x::σ) H' N)
  (hq:∀ D H',H D=none->Same H H'->H' D=some (.lst ((List.range xs.length).map f))->Q (.ref D) H') :
  compAt te σ Q (Itl K a) H:=by
 intro D hD
 refine ⟨fun i m ys H2=>m=xs.length-i∧i<=xs.length∧ys=(List.range i).map f∧Same H H2∧H2 D=some (.lst ys),⟨xs.length,rfl,Nat.zero_le _,rfl,fun b o e=>?_,upd_same⟩,?_⟩
 ·rw [upd_ne (ne_of_none e hD)]
  exact e
 ·rintro i m ys H2 ⟨rfl,hi,rfl,hs,hd⟩
  by_cases hlt:i<xs.length
  ·refine .inr ⟨⟨xs,xs[i],hs.seq hl,by simp [hlt]⟩,by rw [List.length_map,List.length_range];omega,fun v H'=>v=f i∧Same H2 H',fun v H' ⟨ev,hs'⟩=>⟨hs' D _ hd,xs.length-(i+1),by omega,rfl,hlt,?_,fun b o e=>?_,upd_same⟩,fun y H' hy=>?_⟩
   ·rw [ev,List.range_succ,List.map_append]
    rfl
   ·rw [upd_ne (ne_of_none e hD)]
    exact hs' b o (hs b o e)
   ·obtain ⟨e1,e2⟩:=hy
    subst e1
    exact he i y _ (e2 xs (hs.seq hl)) hs _ fun H'' h''=>⟨rfl,h''⟩
  ·have e:i=xs.length:=by omega
   subst e
   exact .inl ⟨⟨xs,hs.seq hl,Nat.le_refl _⟩,hq D H2 hD hs hd⟩
end L2
namespace L2
open PySem PySem.Spec PyProof.Rows
set_option genInjectivity false in
structure Cal (P:Program)(w:World)(K:PySem.W.Frag)(mg:Str->Option Value)(base:Heap)(CX:CXT)(x:Str)(k:Nat)(ps:List Str)(sp:Sp):Prop where
 ex:∃ (f:Addr) (fd:FuncData),FnOk P w K mg base CX k f fd ps sp∧mg x=some (.ref f)∧PySem.W.keepIn K (.ref f)=true∧Binds K fd ps []
section
variable {X:Cx}
theorem pe_cal {CX:CXT}{x:Str}{j k:Nat}{ps:List Str}{sp:Sp}{E:XK}{e:Expr}{es:List Expr}{t:TA}{p pos:Pos}(c:Cal X.prog X.w X.K X.mg X.base CX x j ps sp)(hr:Room k X.A)(hx:Passes CX X E)(ha:PA X (e::es) t)
  (hjk:j<=k:=by decide) (hg:Gl X x:=by rfl) (hdb:(x==("__debug__" : Str))=false:=by decide) (he:starEach (e::es) X.env=(false,eval e X.env)::starEach es X.env:=by rfl) (hpl:(backTo pos (starEach es X.env)).any (·.1)=false:=by rfl) :
  PE X (.Call (.Name x p) (e::es) [] pos) (tCall sp [] E t):=by
 obtain ⟨f,fd,F,hm,hk,hb⟩:=c.ex
 exact pe_call F (hr.mono hjk) hg hm hk hb .nil hx ha hdb he hpl
theorem pe_strT (l:List Nat){x:Str}{j pos}(h:x=tx l):PE X (.Constant (.str x) j pos) (tC (T l)):=by
 subst h
 exact pe_str
theorem call_len_T:CallR X (.builtin "len") (fun xs H Q=>∃ (l:List Nat),xs=[T l]∧l.length<=sizeLine∧Q (.int (l.length:Nat)) H):=by
 intro pins s σ H xs us Q I r h
 obtain ⟨l,e,hz,q⟩:=h
 exact call_len_str pins s σ H xs us Q I r ⟨tx l,e,by rw [tx_len];exact hz,by rw [tx_len];exact q⟩
theorem ix_T:IxR X (fun x y H Q=>∃ (l:List Nat),x=T l∧∃ (i:Int),y = .int i∧l.length<=sizeLine∧∃ c,atI l i=some c∧Q (T [c]) H):=by
 intro value slice pins s σ H x y v u Q I rx ry h hs
 obtain ⟨l,e1,i,e2,hz,c,hc,q⟩:=h
 exact ix_str value slice pins s σ H x y v u Q I rx ry ⟨tx l,i,c,e1,e2,by rw [tx_len];exact hz,by rw [tx_cps];exact hc,q⟩ hs
theorem call_isinst:CallR X (.builtin "isinstance") (fun xs H Q=>∃ (x:V) (c:String) (t:Value) (b:Bool),xs=[x,.ty c]∧TyOf X.K H x t∧PySem.W.kitOne X.K t (.type c)=some b∧Q (.bl b) H):=by
 intro pins s σ H xs us Q I r h
 obtain ⟨x,c,t,b,rfl,ty,e,q⟩:=h
 obtain ⟨u,w',rfl,ru,rw'⟩:=vals2 r
 cases (show w'=Value.type c from rw')
 exact isinst_ok I ru ty e fun tk=>⟨.bl b,H,I.tok tk,rfl,q⟩
theorem kit_same {K:PySem.W.Frag}(T:String):PySem.W.kitOne K (.type T) (.type T)=some true:=by
 unfold PySem.W.kitOne
 rw [if_pos (by simp)]
theorem op_catL:OpR X (binaryOp .Add) (fun x y H Q=>∃ (l b:Addr) (xs zs:List V),x = .ref l∧y = .ref b∧SqL X.K H l xs∧SqL X.K H b zs∧xs.length+zs.length<=sizeLine∧∀ p,H p=none->Q (.ref p) (upd H p (.lst (xs++zs)))):=by
 intro pins s σ H x y v u Q I rx ry h
 obtain ⟨l,b,xs,zs,rfl,rfl,hH,hB,hz,q⟩:=h
 cases rx
 cases ry
 obtain ⟨its,r,⟨⟨cls,dd,data,sl⟩,n,ho,hc,hdd,hd⟩,_⟩:=I.list hH
 obtain ⟨its2,r2,⟨⟨cls2,dd2,data2,sl2⟩,n2,ho2,hc2,hdd2,hd2⟩,_⟩:=I.list hB
 simp only at hc hd hc2 hd2
 subst hc hd hc2 hd2
 have e:its.toArray++its2.toArray=(its++its2).toArray:=by simp
 refine concat_meets ⟨_,ho,rfl⟩ ⟨_,ho2,rfl⟩ noFill_list_add seq_list_add PySem.F.slot_list_add PySem.F.entry_list_add (PySem.F.args_list_add_2 _ _) (list_addW l b its.toArray its2.toArray n n2 dd dd2 sl sl2 (by rw [List.size_toArray,List.size_toArray,<- r.length,<- r2.length];exact hz)) ⟨ho,ho2,?_⟩
 rw [e]
 exact ⟨.ref _,_,I.lnew (t':=s.toks) (r.append r2) (by rw [List.length_append];exact hz),rfl,q _ I.fresh⟩
theorem eqAt_T {ls ms:List (List Nat)}{us ws:List Value}(r:Vals (ls.map T) us)(r':Vals (ms.map T) ws){A:Around}{s:Shared}{j:Nat}{u w:Value}(hu:us[j]?=some u)(hw:ws[j]?=some w):SeqAt.EqAt A s u w (decide (ls[j]?=ms[j]?)):=by
 have h1:j<ls.length:=by have:=r.length;rw [List.length_map] at this;rw [this];exact (List.getElem?_eq_some_iff.mp hu).1
 have h2:j<ms.length:=by have:=r'.length;rw [List.length_map] at this;rw [this];exact (List.getElem?_eq_some_iff.mp hw).1
 obtain ⟨u',e1,q1⟩:=r.get (i:=j) (x:=T ls[j]) (by rw [List.getElem?_map,List.getElem?_eq_getElem h1];rfl)
 obtain ⟨w',e2,q2⟩:=r'.get (i:=j) (x:=T ms[j]) (by rw [List.getElem?_map,List.getElem?_eq_getElem h2];rfl)
 rw [hu] at e1
 cases e1
 rw [hw] at e2
 cases e2
 have e:=eqAt_V (A:=A) (s:=s) q1 q2 rfl rfl
 have ee:eqV (T ls[j]) (T ms[j])=decide (ls[j]?=ms[j]?):=by
  show (tx ls[j]==tx ms[j])=_
  rw [Bool.eq_iff_iff,beq_iff_eq,decide_eq_true_iff,List.getElem?_eq_getElem h1,List.getElem?_eq_getElem h2]
  exact ⟨fun h=>by rw [tx_inj h],fun h=>by rw [Option.some.inj h]⟩
 rw [ee] at e
 exact e
theorem all_range_eq {ls ms:List (List Nat)}(h:ls.length=ms.length):(List.range ls.length).all (fun j=>decide (ls[j]?=ms[j]?))=decide (ls=ms):=by
 rw [Bool.eq_iff_iff,List.all_eq_true,decide_eq_true_iff]
 constructor
 ·intro g
  apply List.ext_getElem?
  intro i
  by_cases hi:i<ls.length
  ·exact of_decide_eq_true (g i (List.mem_range.mpr hi))
  ·rw [List.getElem?_eq_none (by omega),List.getElem?_eq_none (by omega)]
 ·intro g j _
  rw [g]
  exact decide_eq_true rfl
theorem op_eq_LT (hu:X.A.units<cLine):OpR X (compareOp .Eq) (fun x y H Q=>∃ (p b:Addr) (ls ms:List (List Nat)),x = .ref p∧y = .ref b∧SqL X.K H p (ls.map T)∧SqL X.K H b (ms.map T)∧Q (.bl (decide (ls=ms))) H):=by
 intro pins s σ H x y v u Q I rx ry h
 obtain ⟨p,b,ls,ms,rfl,rfl,h1,h2,q⟩:=h
 cases rx
 cases ry
 obtain ⟨its,r,pl,_⟩:=I.list h1
 obtain ⟨its2,r2,pl2,_⟩:=I.list h2
 have l1:=r.length
 have l2:=r2.length
 rw [List.length_map] at l1 l2
 by_cases hl:ls.length=ms.length
 ·refine SeqAt.eq_listAt (e:=fun j=>decide (ls[j]?=ms[j]?)) pl.isList pl2.isList (by rw [List.size_toArray,List.size_toArray];omega) hu (fun j g1 g2=>eqAt_T r r2 (by simp) (by simp)) ?_
  rw [List.size_toArray,<- l1,all_range_eq hl]
  exact ⟨.bl _,H,I,rfl,q⟩
 ·refine SeqAt.eq_list_lengthsAt pl.isList pl2.isList (by rw [List.size_toArray,List.size_toArray,bne_iff_ne];omega) hu ?_
  have e:decide (ls=ms)=false:=decide_eq_false fun z=>hl (by rw [z])
  rw [e] at q
  exact ⟨.bl _,H,I,rfl,q⟩
end
end L2
namespace L2
open PySem PySem.Spec PyProof.Rows
set_option genInjectivity false in
structure Fly (P:Program)(w:World)(outer:List Env)(H:Hp)(s:Shared)(a:Addr)(cls:Value)(H':Hp)(s':Shared):Prop where
 os:s'.os=s.os
 bare:AllBare s'.gens
 ex:∃ (B:Heap) (t:Addr),Heap.FlyingW B outer a cls (.ref t) s'.heap∧HOk P w H' B∧(∀ b o,s.heap.get? b=some o->H b=none->b∉frs outer->B.get? b=some o) ∧
  ∀ b o,s.heap.get? b=some o->b∉frs outer->∃ o',B.get? b=some o'
 slot:∀ b o,s.heap.get? b=some o->H b=none->b∈frs outer->∃ sl,s'.heap.get? b=some { o with slots:=sl }
 free:∀ b o,s.heap.get? b=some o->H b=none->H' b=none
 tups:∀ b xs,H b=some (.tup xs)->H' b=some (.tup xs)
 frzs:∀ b o u,H b=some (.frz o u)->H' b=some (.frz o u)
 tbls:∀ b ps,H b=some (.tbl ps)->∃ more,H' b=some (.tbl (ps++more))
def CX1 (P:Program)(w:World):CXT:=fun outer H s E e s'=>∃ a cls H',e = .ref a∧Fly P w outer H s a cls H' s'∧E cls none H'
section
variable {X:Cx}{pins:List (Addr×Obj)}{σ:St}{H H':Hp}{s s':Shared}{a:Addr}{cls:Value}{E:Value->Shared->Prop}
set_option genInjectivity false in
structure Own (X:Cx):Prop where
 stk:X.stack=X.env::X.outer
 fr:X.env.frame=some X.env.locals
 ex:X.ex=[]
theorem Own.frs (O:Own X){b:Addr}:b∈frs X.stack↔b=X.env.locals∨b∈frs X.outer:=by
 unfold L2.frs
 rw [O.stk,List.filterMap_cons,O.fr]
 exact List.mem_cons
theorem Inv.oldNe (I:Inv X pins σ H s){b:Addr}{o:Obj}(e:X.s₀.heap.get? b=some o):b≠X.env.locals:=Nat.ne_of_lt (Nat.lt_of_lt_of_le (Heap.lt_size e) I.ok.above)
theorem Inv.hidHok (I:Inv X pins σ H s):HOk X.prog X.w H (PySem.W.hideAll s.heap (L2.frs X.stack)):=fun b u e =>
 (I.hok b u e).stay (fun c v hc q=>PySem.W.hideAll_get _ q fun hm=>by
  have n:=I.stkFree c hm
  rcases hc with z | z
  ·rw [z,e] at n
   cases n
  ·rw [z] at n
   cases n) (fun _ q=>q) fun _ _ q=>q
theorem Fly.raised {args:List Value}{h:Heap}(I:Inv X pins σ H s)(O:Own X)(hx:Heap.MadeExcOf s.heap h a cls args) :
  wpAny (model X.prog X.w) X.A (leaving X.env (.ref a)) (fun _ s''=>Fly X.prog X.w X.outer X.H₀ X.s₀ a cls H s'') E { s with heap:=h }:=by
 have hst:=I.stack
 have hin:∀ env∈X.stack,∀ b,env.frame=some b->b∈L2.frs X.stack:=fun env he b hb=>List.mem_filterMap.mpr ⟨env,he,hb⟩
 have hl:=PySem.W.funFrames_hide hst hin
 rw [O.stk] at hl
 have hfr:=I.ok.frames
 rw [O.stk] at hfr
 have noEx:∀ b,b∉X.ex:=fun b z=>by
  rw [O.ex] at z
  cases z
 refine wpAny_leaves_madeW (s:={ s with heap:=h }) hfr O.fr (fun b o q=>PySem.W.of_hideAll _ q) hl hx fun h' t x1 x2 x3 x4=>?_
 have notIn:∀ b o,X.s₀.heap.get? b=some o->b∉L2.frs X.outer->b∉L2.frs (X.env::X.outer):=fun b o e nb z=>by
  rw [<- O.stk] at z
  rcases O.frs.mp z with q | q
  ·exact I.oldNe e q
  ·exact nb q
 have hokB:=I.hidHok
 rw [O.stk] at hokB
 refine ⟨I.os,I.bare,⟨_,t,x1,hokB,fun b o e n nb=>?_,fun b o e nb=>?_⟩,fun b o e n hb=>?_,fun b o e n=>I.base.free b o e n (noEx b),I.base.tups,I.base.frzs,I.base.tbls⟩
 ·exact PySem.W.hideAll_get _ (I.base.keep b o e n nb (noEx b)) (notIn b o e nb)
 ·obtain ⟨o',e'⟩:=I.base.there b o e (noEx b)
  exact ⟨o',PySem.W.hideAll_get _ e' (notIn b o e nb)⟩
 ·obtain ⟨sl,e1⟩:=I.base.slot b o e n hb (noEx b)
  obtain ⟨_,o2,e2,hd⟩:=I.funs.mem hb
  rw [e1] at e2
  cases e2
  obtain ⟨sl2,e3⟩:=x4 b _ (hx.keeps b _ e1) hd
  exact ⟨sl2,e3⟩
theorem Fly.on (I:Inv X pins σ H s)(O:Own X)(Y:Fly X.prog X.w X.stack H s a cls H' s') :
  wpAny (model X.prog X.w) X.A (leaving X.env (.ref a)) (fun _ s''=>Fly X.prog X.w X.outer X.H₀ X.s₀ a cls H' s'') E s':=by
 obtain ⟨B,t,hfl,hokB,kp,th⟩:=Y.ex
 have hfr:=I.ok.frames
 rw [O.stk] at hfr hfl
 have noEx:∀ b,b∉X.ex:=fun b z=>by
  rw [O.ex] at z
  cases z
 have notIn:∀ b o,X.s₀.heap.get? b=some o->b∉L2.frs X.outer->b∉L2.frs X.stack:=fun b o e nb z=>by
  rcases O.frs.mp z with q | q
  ·exact I.oldNe e q
  ·exact nb q
 refine wpAny_leaves_onW hfr O.fr hfl fun h' x1 x2=>?_
 refine ⟨Y.os.trans I.os,Y.bare,⟨B,t,x1,hokB,fun b o e n nb=>kp b o (I.base.keep b o e n nb (noEx b)) (I.base.free b o e n (noEx b)) (notIn b o e nb),fun b o e nb=>?_⟩,fun b o e n hb=>?_,fun b o e n=>?_,
  fun b xs q=>Y.tups b xs (I.base.tups b xs q),fun b o u q=>Y.frzs b o u (I.base.frzs b o u q),fun b ps q=>?_⟩
 ·obtain ⟨o',e'⟩:=I.base.there b o e (noEx b)
  exact th b o' e' (notIn b o e nb)
 ·obtain ⟨sl,e1⟩:=I.base.slot b o e n hb (noEx b)
  obtain ⟨_,o2,e2,hd⟩:=I.funs.mem hb
  rw [e1] at e2
  cases e2
  obtain ⟨sl2,e3⟩:=Y.slot b _ e1 (I.base.free b o e n (noEx b)) (O.frs.mpr (.inr hb))
  obtain ⟨sl3,e4⟩:=x2 b _ e3 hd
  exact ⟨sl3,e4⟩
 ·obtain ⟨o',e'⟩:=I.base.there b o e (noEx b)
  exact Y.free b o' e' (I.base.free b o e n (noEx b))
 ·obtain ⟨m1,e1⟩:=I.base.tbls b ps q
  obtain ⟨m2,e2⟩:=Y.tbls b _ e1
  exact ⟨m1++m2,by rw [e2,Array.append_assoc]⟩
theorem Fly.un (I:Inv X pins σ H s)(Y:Fly X.prog X.w X.stack H s a cls H' s'):Un (L2.frs X.stack) [] H H' s.heap s'.heap:=by
 obtain ⟨B,t,hfl,hokB,kp,th⟩:=Y.ex
 refine ⟨fun b o e n nb _=>hfl.1 b o (kp b o e n nb),fun b o e n hb _=>Y.slot b o e n hb,fun b o e n _=>Y.free b o e n,fun b o e _=>?_,Y.tups,Y.frzs,Y.tbls⟩
 by_cases hb:b∈L2.frs X.stack
 ·obtain ⟨sl,q⟩:=Y.slot b o e (I.stkFree b hb) hb
  exact ⟨_,q⟩
 ·obtain ⟨o',q⟩:=th b o e hb
  exact ⟨o',hfl.1 b o' q⟩
theorem Fly.inv (I:Inv X pins σ H s)(Y:Fly X.prog X.w X.stack H s a cls H' s'):Inv X pins σ H' s':=by
 have hok:HOk X.prog X.w H' s'.heap:=by
  obtain ⟨B,t,hfl,hokB,kp,th⟩:=Y.ex
  exact hokB.kept hfl.1
 exact I.call' (ch:=[]) Y.os (Y.un I) hok Y.bare fun _ z=>nomatch z
theorem Fly.slots {outer:List Env}{h':Heap}(Y:Fly X.prog X.w outer H s a cls H' s')(hd:∀ b∈L2.frs outer,∃ o,s.heap.get? b=some o∧∀ vs,o.data≠.fields vs)(x:s'.heap.UpToSlots h') :
  ∀ b o,s.heap.get? b=some o->H b=none->b∈L2.frs outer->∃ sl,h'.get? b=some { o with slots:=sl }:=fun b o e n hb=>by
 obtain ⟨sl,q⟩:=Y.slot b o e n hb
 obtain ⟨o2,e2,d2⟩:=hd b hb
 rw [e] at e2
 cases e2
 obtain ⟨sl',q'⟩:=x b _ q d2
 exact ⟨sl',q'⟩
theorem Fly.again {A:Around}{Q:Unit->Shared->Prop}(I:Inv X pins σ H s)(Y:Fly X.prog X.w X.stack H s a cls H' s')(h:∀ h',Fly X.prog X.w X.stack H s a cls H' { s' with heap:=h' }->Q () { s' with heap:=h' }) :
  wpAny (model X.prog X.w) A (setFlight (.ref a) none) Q E s':=by
 obtain ⟨B,t,hfl,hokB,kp,th⟩:=Y.ex
 refine lands_againW hfl fun h' x1 x2=>h h' ?_
 exact ⟨Y.os,Y.bare,⟨B,t,x1,hokB,kp,th⟩,Y.slots (fun b hb=>(I.stack.mem hb).2) x2,Y.free,Y.tups,Y.frzs,Y.tbls⟩
theorem Fly.look {Q:Unit->Shared->Prop}(I:Inv X pins σ H s)(O:Own X)(Y:Fly X.prog X.w X.stack H s a cls H' s')(h:∀ h',Fly X.prog X.w X.stack H s a cls H' { s' with heap:=h' }->Q () { s' with heap:=h' }) :
  wpAny (model X.prog X.w) X.A (noteFrame (.ref a) X.env) (fun _ s2=>wpAny (model X.prog X.w) X.A (setFlight (.ref a) none) Q E s2) E s':=by
 obtain ⟨B,t,hfl,hokB,kp,th⟩:=Y.ex
 have hfr:=I.ok.frames
 have hfl':=hfl
 rw [O.stk] at hfr hfl'
 refine wpAny_looks_onW hfr O.fr hfl' fun h4 x4 y4=>?_
 refine wpAny_landsW (s:={ s' with heap:=h4 }) x4 fun h5 x5 y5=>h h5 ?_
 rw [<- O.stk] at x5
 exact ⟨Y.os,Y.bare,⟨B,t,x5,hokB,kp,th⟩,Y.slots (fun b hb=>(I.stack.mem hb).2) (y4.trans y5),Y.free,Y.tups,Y.frzs,Y.tbls⟩
theorem Fly.looks {M:Model}{outer:List Env}(Y:Fly X.prog X.w outer H s a cls H' s'):PySem.W.Looks M s'.heap (typeOf (.ref a)) cls:=by
 obtain ⟨B,t,hfl,_⟩:=Y.ex
 obtain ⟨ob,hob,hc⟩:=hfl.there
 subst hc
 exact (PySem.W.Looks.ld hob).andThen .now
end
abbrev bmVE:List Value:=[.type "ValueError",.type "Exception",.type "BaseException",.type "object"]
set_option genInjectivity false in
structure Exc (K:PySem.W.Frag)(mg:Str->Option Value)(x:Str)(C:Addr):Prop where
 mg:mg x=some (.ref C)
 is:PySem.W.excIn K C bmVE "ValueError.__new__" = true
theorem Exc.own {K:PySem.W.Frag}{mg:Str->Option Value}{x:Str}{C:Addr}{h:Heap}(c:Exc K mg x C)(X:K.In h):OwnCls x C bmVE "ValueError.__new__" mg h:=by
 refine ⟨c.mg,?_⟩
 have q:=c.is
 unfold PySem.W.excIn at q
 split at q
 ·rename_i dd cd sl ho
  split at q
  ·rename_i C' bm k0 k1 k2 k3 n k5 hm hs
   simp only [beq_iff_eq,Bool.not_eq_true',Bool.and_eq_true] at q
   obtain ⟨⟨⟨⟨⟨g1,g2⟩,g3⟩,g4⟩,g5⟩,g6⟩:=q
   subst g1 g2
   obtain ⟨nm,bs,mro,ns,qn,hd,sn,sub,ab,col,del⟩:=cd
   have hsl:sl = #[k0,k1,k2,k3,some (.builtin "ValueError.__new__"),k5]:=by
    cases sl with
    | mk l =>
     have hs':l=_:=hs
     rw [hs']
   have hm':mro=_:=hm
   have g3':del=false:=g3
   subst hsl hm' g3'
   refine ⟨bm,ns,nm,qn,bs,hd,sn,sub,ab,col,dd,k0,k1,k2,k3,k5,h.nsMap ns,X _ _ ho,?_,?_,?_⟩
   ·exact .of_isNs (PySem.W.isNs_of_in X g5)
   ·exact PySem.W.nsMap_none_of_in X g5 g6
   ·exact PySem.W.tail_of_in X g4
  ·cases q
 ·cases q
def tRaise (E:Value->Hp->Prop)(C:Addr)(t:TA):TS:=fun _ σ H=>t σ H fun vs H1=>vs.length<=sizeLine∧E (.ref C) H1
theorem ps_raise {x:Str}{C:Addr}{e₀:Expr}{rest:List Expr}{np cpos pos:Pos}{t:TA}{E:Value->Hp->Prop}(c:Exc X.K X.mg x C)(hc:X.calm=true)
  (hE:∀ (pins:List (Addr×Obj)) (σ:St) (H:Hp) (s:Shared) (h:Heap) (a:Addr) (args:List Value),Inv X pins σ H s->Heap.MadeExcOf s.heap h a (.ref C) args->E (.ref C) H->X.xe (.ref a) { s with heap:=h })
  (ha:PA X (e₀::rest) t) (hg:Gl X x:=by rfl) (hd:(x==("__debug__" : Str))=false:=by decide)
  (he:starEach (e₀::rest) X.env=(false,eval e₀ X.env)::starEach rest X.env:=by rfl) (hpl:(backTo cpos (starEach rest X.env)).any (·.1)=false:=by rfl) :
  PS X (.Raise (some (.Call (.Name x np) (e₀::rest) [] cpos)) none pos) (tRaise E C t):=by
 intro pins s σ H D I h
 have O:=c.own I.mod.kin
 obtain ⟨tl,N,nm,q,bs,hdct,sn,sub,ab,col,dd,k0,k1,k2,k3,k5,mN,hC,hN,hni,T⟩:=O.obj
 refine wpAny_Raise_call_subT (C:=C) (nm:=nm) (q:=q) (N:=N) (bs:=bs) (bm:=tl) (hdct:=hdct) (sn:=sn) (sub:=sub) (ab:=ab) (col:=col) (dd:=dd) (k0:=k0) (k1:=k1) (k2:=k2) (k3:=k3) (k5:=k5) PySem.F.excBase_ValueError (mN:=mN)
  (T.hasType (by decide +kernel)) (I.ok.hd hc) (by rw [he];show (false||(backTo cpos (starEach rest X.env)).any (·.1))=false;rw [hpl];rfl) hni (ld_glob I hg c.mg ⟨rfl,?_⟩ hd)
 have hA:=ha cpos pins s σ H _ I h
 rw [he] at hA ⊢
 refine Calls.evalArgs_plain (thn hA fun us s2 ⟨vs,H2,I2,r2,hz,q2⟩=>?_)
 exact ⟨rfl,by rw [<- r2.length];exact hz,I2.bk _ _ hC,hN.keeps I2.bk,T.keeps I2.bk,fun h' e hx=>hE pins σ H2 s2 h' e us I2 hx q2⟩
section
variable {P:Program}{w:World}{K:PySem.W.Frag}{mg:Str->Option Value}{base:Heap}{N:List Str}{qual:Str}{scope:Scope}{f:Addr}{cdv:Value}{A:Around}{outer:List Env}{s:Shared}{H:Hp}{E:XK}
theorem ownX {CX:CXT}:Own (cxOf CX P w K mg base N qual scope f cdv A outer s H E):=⟨rfl,rfl,rfl⟩
theorem passX:Passes (CX1 P w) (cxOf (CX1 P w) P w K mg base N qual scope f cdv A outer s H E) E:=fun pins σ H1 s1 e s' I h=>by
 obtain ⟨a,cls,H',rfl,Y,q⟩:=h
 exact thn (Fly.on I ownX Y) fun _ s'' Z=>⟨a,cls,H',rfl,Z,q⟩
theorem raiseX {C:Addr}{pins:List (Addr×Obj)}{σ:St}{H1:Hp}{s1:Shared}{h:Heap}{a:Addr}{args:List Value}(I:Inv (cxOf (CX1 P w) P w K mg base N qual scope f cdv A outer s H E) pins σ H1 s1)(hx:Heap.MadeExcOf s1.heap h a (.ref C) args)(q:E (.ref C) none H1) :
 (cxOf (CX1 P w) P w K mg base N qual scope f cdv A outer s H E).xe (.ref a) { s1 with heap:=h }:=thn (Fly.raised I ownX hx) fun _ s'' Z=>⟨a,.ref C,H1,rfl,Z,q⟩
theorem pass1 {X:Cx}:Passes (CX1 P w) X E0:=fun _ _ _ _ _ _ _ h=>by
 obtain ⟨_,_,_,_,_,q⟩:=h
 exact q.elim
theorem Fun.okX {x qual:Str}{st:Stmt}{f:Addr}{fd:FuncData}{N ps:List Str}{k:Nat}{sp:Sp}(F:Fun K x qual st f fd)(S:FnScope N ps (defScope st))(len:∀ vs H Q E,sp vs H Q E->vs.length=ps.length)
  (hbody:∀ (cdv:Value) (A:Around) (outer:List Env) (s:Shared) (H:Hp) (vs:List V) (Q:VK) (E:XK),Room k (A.deeper (envOfC qual (defScope st) s.heap.objs.size f cdv))->sp vs H Q E ->
   ∃ t,PSs (cxOf (CX1 P w) P w K mg base N qual (defScope st) f cdv A outer s H E) (defBody st) t∧t { nx:=fun _ H'=>Q .non H',rt:=Q } (start N vs) H):FnOk P w K mg base (CX1 P w) (k+1) f fd ps sp:=by
 obtain ⟨oc,od,kV,doc,pm,an,cdv,ct,osl,rfl,lk,hcd⟩:=F.ex
 exact fn_of lk hcd S len fun A outer s H vs Q E hr hsp=>hbody cdv A outer s H vs Q E hr hsp
end
end L2
namespace L2
open PySem PySem.Spec PyProof.Rows
def XP (X:Cx)(pins:List (Addr×Obj))(R:St->Value->Hp->Prop)(e:Value)(s':Shared):Prop :=
 ∃ a cls σ' H s1 H',e = .ref a∧Inv X pins σ' H s1∧Fly X.prog X.w X.stack H s1 a cls H' s'∧R σ' cls H'
abbrev TTy:=Ends->(St->Value->Hp->Prop)->St->Hp->Prop
def PTy (X:Cx)(st:List Stmt)(t:TTy):Prop :=
 ∀ (pins:List (Addr×Obj)) (s:Shared) (σ:St) (H:Hp) (D:Ends) (R:St->Value->Hp->Prop),Inv X pins σ H s->t D R σ H->wpAny (model X.prog X.w) X.A (execs st X.env) (SP X pins D) (XP X pins R) s
section
variable {X:Cx}
def tyIf (c:TT)(t u:TTy):TTy:=fun D R σ H=>c σ H fun b H1=>if b=true then t D R σ H1 else u D R σ H1
theorem py_if {c:Expr}{a b:List Stmt}{tc:TT}{t u:TTy}{pos:Pos}(hc:PT X.nox c tc)(ha:PTy X a t)(hb:PTy X b u):PTy X [.If c a b pos] (tyIf tc t u):=by
 intro pins s σ H D R I q
 refine wpAny_execs_cons (wpAny_If (wpAny_mono (hc pins s σ H _ (I.wish _) q) (fun d s1 z=>?_) fun _ _ z=>False.elim z))
 obtain ⟨H1,I0,q1⟩:=z
 have I1:Inv X pins σ H1 s1:=I0.unwish
 have fin:∀ (f:Flow) (s2:Shared),SP X pins D f s2->(match f with | .next=>wpAny (model X.prog X.w) X.A (execs [] X.env) (SP X pins D) (XP X pins R) s2 | f=>SP X pins D f s2):=fun f s2 z=>by
  cases f with
  | next=>exact wpAny_execs_nil z
  | ret v=>exact z
  | brk=>exact z
  | cont=>exact z
 cases d with
 | true=>exact wpAny_mono (ha pins s1 σ H1 D R I1 q1) (fun f s2 z=>fin f s2 z) fun _ _ z=>z
 | false=>exact wpAny_mono (hb pins s1 σ H1 D R I1 q1) (fun f s2 z=>fin f s2 z) fun _ _ z=>z
abbrev TH:=Ends->St->Value->Hp->Prop
def PH (X:Cx)(hs:List ExceptHandler)(t:TH):Prop :=
 ∀ (pins:List (Addr×Obj)) (σ:St) (H:Hp) (s:Shared) (a:Addr) (cls:Value) (H':Hp) (s':Shared) (D:Ends),Inv X pins σ H s->Fly X.prog X.w X.stack H s a cls H' s'->t D σ cls H' ->
  wpAny (model X.prog X.w) X.A (handleBy (.ref a) X.env hs) (SP X pins D) X.xe s'
abbrev cxMark (X:Cx)(a:Addr):Cx:={ X with A:=X.A.mark (some (.ref a)),calm:=false,xe:=fun _ _=>False }
theorem Inv.mark {pins:List (Addr×Obj)}{σ:St}{H:Hp}{s:Shared}(I:Inv X pins σ H s)(a:Addr):Inv (cxMark X a) pins σ H s:=by
 have ok:=I.ok
 exact ⟨⟨ok.mod,ok.kind,ok.glob,ok.blt,ok.above,ok.inj,ok.has,ok.cab,fun z=>(by cases z),ok.frames,ok.stk,ok.exf,ok.bs,ok.bsz,ok.noex,ok.exfs,ok.funs,ok.frf⟩,I.os,I.bare,I.base,I.loc,I.cell,I.free,I.freeC,I.pin,I.hok,I.len⟩
theorem Inv.unmark {pins:List (Addr×Obj)}{σ:St}{H:Hp}{s:Shared}{a:Addr}(I:Inv (cxMark X a) pins σ H s)(J:X.Ok):Inv X pins σ H s:=⟨J,I.os,I.bare,I.base,I.loc,I.cell,I.free,I.freeC,I.pin,I.hok,I.len⟩
theorem SP.unmark {pins:List (Addr×Obj)}{D:Ends}{f:Flow}{s':Shared}{a:Addr}(J:X.Ok)(h:SP (cxMark X a) pins D f s'):SP X pins D f s':=by
 cases f with
 | next=>obtain ⟨σ',H',I,q⟩:=h;exact ⟨σ',H',I.unmark J,q⟩
 | brk=>obtain ⟨σ',H',I,q⟩:=h;exact ⟨σ',H',I.unmark J,q⟩
 | cont=>obtain ⟨σ',H',I,q⟩:=h;exact ⟨σ',H',I.unmark J,q⟩
 | ret u=>obtain ⟨v,σ',H',I,r,q⟩:=h;exact ⟨v,σ',H',I.unmark J,r,q⟩
def thPlain (K:PySem.W.Frag)(c:Value)(ts:TS)(tr:TH):TH:=fun D σ cls H'=>(PySem.W.exmOne K cls c=some true∧ts D σ H')∨(PySem.W.exmOne K cls c=some false∧tr D σ cls H')
def thNone:TH:=fun _ _ _ _=>False
theorem ph_nil:PH X [] thNone:=fun _ _ _ _ _ _ _ _ _ _ _ h=>False.elim h
theorem ph_plain {x:Str}{c:Value}{np pos:Pos}{b₀:Stmt}{suite:List Stmt}{rest:List ExceptHandler}{ts:TS}{tr:TH}(hm:X.mg x=some c)(hsu:∀ a,PSs (cxMark X a) (b₀::suite) ts)(hr:PH X rest tr)(hg:Gl X x:=by rfl)(hd:(x==("__debug__" : Str))=false:=by decide) :
  PH X (.ExceptHandler (some (.Name x np)) none (b₀::suite) pos::rest) (thPlain X.K c ts tr):=by
 intro pins σ H s a cls H' s' D I Y h
 have I1:=Y.inv I
 refine wpAny_handleBy_cons (codeAny_handlers_test (ld_glob (X:=cxMark X a) (I1.mark a) hg hm ?_ hd)) (by intro q;cases q)
 rcases h with ⟨e,h⟩ | ⟨e,h⟩
 ·refine (PySem.W.exm_one I1.kIn Y.looks e).here ?_
  refine codeAny_handlers_suite (Y.again I fun h6 Y6=>?_)
  have I6:=Y6.inv I
  exact wpAny_mono (hsu a pins _ σ H' D (I6.mark a) h) (fun f s2 z=>z.unmark I.ok) fun _ _ z=>False.elim z
 ·refine (PySem.W.exm_one I1.kIn Y.looks e).here ?_
  exact hr pins σ H s a cls H' s' D I Y h
def tTry (tb:TTy)(th:TH):TS:=fun D σ H=>tb D (fun σ' cls H'=>th D σ' cls H') σ H
theorem ps_try {body:List Stmt}{h₀:ExceptHandler}{hs:List ExceptHandler}{pos:Pos}{tb:TTy}{th:TH}(O:Own X)(hb:PTy X body tb)(hh:PH X (h₀::hs) th):PS X (.Try body (h₀::hs) [] [] pos) (tTry tb th):=by
 intro pins s σ H D I q
 refine wpAny_Try_except (wpAny_mono (hb pins s σ H D _ I q) (fun f s1 z=>?_) fun e s1 z=>?_)
 ·cases f with
  | next=>exact wpAny_execs_nil z
  | ret v=>exact z
  | brk=>exact z
  | cont=>exact z
 ·obtain ⟨a,cls,σ',H1,s2,H',rfl,I2,Y,q2⟩:=z
  exact Y.look I2 O fun h' Y'=>hh pins σ' H1 s2 a cls H' _ D I2 Y' q2
end
end L2
namespace L2
open PySem PySem.Spec PyProof.Rows
namespace RV
theorem lri_no_len:typeLookup (.type "list_reverseiterator") "__len__" = pure none:=by rw [typeLookup_type,builtinLookup_eq_fast];kernel_rfl
theorem lri_hint:typeLookup (.type "list_reverseiterator") "__length_hint__" = pure (some (.builtin "list_reverseiterator.__length_hint__")):=by rw [typeLookup_type,builtinLookup_eq_fast];kernel_rfl
section
variable {prog:Program}{w:World}{A:Around}{E:Value->Shared->Prop}{s:Shared}
theorem hint_rev {it l:Addr}{i:Int}{Q:Bool->Shared->Prop}(hit:s.heap.IsRevIter it l i)(h:Q false s):wpAny (model prog w) A (Builtin.List.listLengthHint (.ref it)) Q E s:=by
 unfold Builtin.List.listLengthHint
 refine wpAny_bind (wpAny_specialOf hit.typeIs lri_no_len ?_)
 show wpAny _ A (specialOf (Value.ref it) (Str.ofString "__length_hint__") >>= _) _ _ _
 refine wpAny_bind (wpAny_specialOf hit.typeIs lri_hint ?_)
 generalize hid:("list_reverseiterator.__length_hint__" : String)=id0
 wp_delta
 rw [show splitId id0=some ("list_reverseiterator", "__length_hint__") from by subst hid;decide +kernel]
 subst hid
 refine wpAny_bind (wpAny_isInstance (T := "list_reverseiterator") (b:=true) hit.typeIs (by rw [isSubtype_type];kernel_rfl) ?_)
 refine wpAny_ite_split (fun hab=>absurd hab (by decide)) (fun _=>?_)
 refine wpAny_ite_split (fun _=>?_) (fun hab=>absurd (by decide +kernel) hab)
 refine wpAny_ite_split (fun hab=>absurd hab (by decide +kernel)) (fun _=>?_)
 exact wpAny_pure h
theorem extend_rev {R:Result->Shared->Prop}(hh:A.handled=none){it l:Addr}{items:Array Value}(hit:s.heap.IsRevIter it l ((items.size:Int)-1))(hl:s.heap.IsList l items)(hne:l≠it)(S:Addr)(res:Value)(c₀:Nat)
  (h1:S≠it) (h2:S≠l) (hS:s.heap.get? S=some { cls:=.type "list",data:=.seq #[] c₀ })
  (hR:∀ h' tk acc' c',(∀ b o,b≠S->b≠it->s.heap.get? b=some o->h'.get? b=some o)->h'.get? S=some { cls:=.type "list",dict:=none,data:=.seq acc' c',slots:=#[] } ->
   acc'.toList=items.toList.reverse->R (.ok (.ret res)) { s with heap:=h',toks:=tk }) (hn:items.size<=sizeLine) :
  wpAny (model prog w) A.in1 (Builtin.List.listExtendWith (.ref S) (.ref it) res)
   (fun fin s'=>match fin with | .done f=>R (.ok f) s' | .again c'=>c'.quiet=true∧codeAny (model prog w) A c' R s') (fun e s'=>R (.error e) s') s:=by
 have W:=(Walks.listRev (prog:=prog) (w:=w) (A:=A.in1) hh it l hne items).toS
 unfold Builtin.List.listExtendWith
 refine wpAny_bind (wpAny_typeOf hit.typeIs ?_)
 have g1:Builtin.List.listSameRef (.ref S) (.ref it)=false:=by simp [Builtin.List.listSameRef,h1]
 have g2:(Value.type "list_reverseiterator" == Value.type "list")=false:=by decide
 have g3:(Value.type "list_reverseiterator" == Value.type "tuple")=false:=by decide
 simp only [g1,g2,g3,Bool.or_false,Bool.false_eq_true,if_false]
 refine wpAny_bind (wpAny_pyIter_revIter hit ?_)
 refine wpAny_bind (wpAny_holding (hint_rev hit ?_))
 refine wpAny_ite_split (fun hab=>absurd hab (by decide +kernel)) (fun _=>?_)
 have e0:(items.size:Int)-1-((0:Nat):Int)=(items.size:Int)-1:=by omega
 refine wpAny_pure ⟨plainId_quiet F.plain_extend_loop _,codeAny_extend_loopS W hn S (by simp [h1,h2]) res items.size 0 _ #[] c₀ rfl (Nat.zero_le _) ⟨Nat.zero_le _,by rw [e0];exact hit,hl⟩ hS (ItemsOf.nil _) fun s' acc' c' hm hS' hacc=>?_⟩
 rw [Moved.eq_with hm]
 refine hR s'.heap s'.toks acc' c' (fun b o hb hb2 e=>hm.heap b o (by simp [hb,hb2]) e) hS' ?_
 ·apply List.ext_getElem?
  intro i
  have hsz:=hacc.1
  by_cases hi:i<items.size
  ·have e1:acc'[i]?=some (acc'[i]'(by omega)):=Array.getElem?_eq_getElem (by omega)
   have e2:=hacc.2 i _ e1
   rw [List.getElem?_reverse (by simpa using hi),Array.getElem?_toList,Array.getElem?_toList,e1,<- e2]
   simp
  ·rw [List.getElem?_eq_none (by simp;omega),List.getElem?_eq_none (by simp;omega)]
end
end RV
section
variable {X:Cx}
theorem arg1 {e:Expr}{pos:Pos}{s:Shared}{Q:List Value->Shared->Prop}{E:Value->Shared->Prop}(h:wpAny (model X.prog X.w) X.A (eval e X.env) (fun u s1=>Q [u] s1) E s)(hs:starEach [e] X.env=(false,eval e X.env)::starEach [] X.env) :
  wpAny (model X.prog X.w) X.A (spliced (backTo pos (starEach [e] X.env))) Q E s:=by
 rw [hs]
 show wpAny _ _ (spliced ((false,eval e X.env)::backTo pos (starEach [] X.env))) _ _ s
 exact Calls.spliced_cons (thn h fun u s1 q=>Calls.spliced_nil q)
theorem rising_pw:∀ (x:List Nat) (ls:List (List Nat)),risingS (tx x) (ls.map tx)=true->(∀ y∈ls,¬ y<x)∧ls.Pairwise (fun a b=>¬ b<a)
 | x,[],_=>⟨fun _ h=>(by cases h),.nil⟩
 | x,y::ls,h=>by
  have h':(!ltCps (tx y).cps.toList (tx x).cps.toList&&risingS (tx y) (ls.map tx))=true:=h
  rw [Bool.and_eq_true,tx_cps,tx_cps,ltCps_eq] at h'
  obtain ⟨a,b⟩:=rising_pw y ls h'.2
  have h1:¬ y<x:=by simpa using h'.1
  refine ⟨fun z hz=>?_,List.pairwise_cons.mpr ⟨a,b⟩⟩
  rcases List.mem_cons.mp hz with rfl | hz
  ·exact h1
  ·exact Wd.lele h1 (a z hz)
theorem sorted_pw:∀ (ls:List (List Nat)),sortedS (ls.map tx)=true->ls.Pairwise (fun a b=>¬ b<a)
 | [],_=>.nil
 | x::ls,h=>List.pairwise_cons.mpr (rising_pw x ls h)
theorem strs_back:∀ {us:List Value} {ss:List Str},StrsAre us ss->Vals ((ss.map fun x=>x.cps.toList).map T) us
 | _,_,.nil=>.nil
 | _,_,.cons x t h=>.cons ⟨t,by show Value.str x t=Value.str (tx x.cps.toList) t;rw [tx_eta]⟩ (strs_back h)
theorem call_sortedT:CallR X (.builtin "sorted") (fun xs H Q=>∃ (p:Addr) (ls:List (List Nat)),xs=[.ref p]∧SqL X.K H p (ls.map T)∧ls.length<64∧∀ (ms:List (List Nat)) (D:Addr),H D=none->ms.Perm ls->ms.Pairwise (fun a b=>¬ b<a)->Q (.ref D) (upd H D (.lst (ms.map T)))):=by
 intro pins s σ H xs us Q I r h
 obtain ⟨p,ls,rfl,hq,h64,q⟩:=h
 obtain ⟨u,rfl,ru⟩:=vals1 r
 cases ru
 obtain ⟨its,rv,pl,hz⟩:=I.list hq
 have hlen:=rv.length
 rw [List.length_map] at hlen
 refine sorted_strs pl.isList (strsAre_T rv) (by omega) fun out ss' a1 a2 a3=>?_
 obtain ⟨e,he⟩:=sortedAll_at s.heap its out
 have em:(ss'.map fun x=>x.cps.toList).map tx=ss':=by
  rw [List.map_map]
  conv=>rhs;rw [<- List.map_id ss']
  exact List.map_congr_left fun x _=>tx_eta x
 have hp:(ss'.map fun x=>x.cps.toList).Perm ls:=by
  have z:=a2.map fun x=>x.cps.toList
  have e2:(ls.map tx).map (fun x=>x.cps.toList)=ls:=by
   rw [List.map_map]
   conv=>rhs;rw [<- List.map_id ls]
   exact List.map_congr_left fun x _=>tx_cps x
  rw [e2] at z
  exact z
 have hpl:=hp.length_eq
 refine ⟨.ref _,_,I.laid (t':=s.toks) (fun _ _=>sortedAll_old) (Nat.le_succ _) (o:=.lst ((ss'.map fun x=>x.cps.toList).map T)) ⟨by rw [List.length_map,hpl];rw [List.length_map] at hz;exact hz,out.toList,e,strs_back a1,by simpa using he⟩,rfl,q _ _ (I.hok.fresh (Nat.le_succ _)) hp (sorted_pw _ (by rw [em];exact a3))⟩
end
end L2
namespace L2
open PySem PySem.Spec PyProof.Rows
def nub:List (List Nat)->List (List Nat)->List (List Nat)
 | acc,[]=>acc
 | acc,l::ls=>if l∈acc then nub acc ls else nub (acc++[l]) ls
def nubTo (ls:List (List Nat)):Nat->List (List Nat)
 | 0=>[]
 | i+1=>if ls.getD i []∈nubTo ls i then nubTo ls i else nubTo ls i++[ls.getD i []]
theorem nubTo_len (ls:List (List Nat)):∀ i,(nubTo ls i).length<=i
 | 0=>Nat.le_refl _
 | i+1=>by
  have h:=nubTo_len ls i
  rw [nubTo]
  split
  ·omega
  ·rw [List.length_append,List.length_singleton]
   omega
theorem nubTo_nodup (ls:List (List Nat)):∀ i,(nubTo ls i).Nodup
 | 0=>List.nodup_nil
 | i+1=>by
  have h:=nubTo_nodup ls i
  rw [nubTo]
  split
  ·exact h
  ·rename_i hn
   refine List.nodup_append.mpr ⟨h,by simp,fun a ha b hb e=>?_⟩
   have hb':b=ls.getD i []:=by simpa using hb
   rw [e,hb'] at ha
   exact hn ha
theorem nubTo_mem (ls:List (List Nat))(x:List Nat):∀ i,i<=ls.length->(x∈nubTo ls i↔x∈ls.take i)
 | 0,_=>by simp [nubTo]
 | i+1,hi=>by
  have h:=nubTo_mem ls x i (by omega)
  have e:ls.take (i+1)=ls.take i++[ls.getD i []]:=by
   rw [List.take_add_one,List.getD_eq_getElem?_getD,List.getElem?_eq_getElem (by omega)]
   rfl
  rw [e,List.mem_append,nubTo]
  split
  ·rename_i hm
   rw [h]
   constructor
   ·exact .inl
   ·rintro (q | q)
    ·exact q
    ·have q':x=ls.getD i []:=by simpa using q
     rw [q',<- nubTo_mem ls _ i (by omega)]
     exact hm
  ·rw [List.mem_append,h]
def uniq (ls:List (List Nat)):List (List Nat):=nubTo ls ls.length
theorem uniq_nodup (ls:List (List Nat)):(uniq ls).Nodup:=nubTo_nodup ls _
theorem uniq_mem (ls:List (List Nat))(x:List Nat):x∈uniq ls↔x∈ls:=by
 rw [uniq,nubTo_mem ls x _ (Nat.le_refl _),List.take_length]
namespace SE
section
variable {prog:Program}{w:World}{A:Around}{R:Result->Shared->Prop}{J:Addr}{fp wr:List Addr}{G:Array GenState->Array GenState->Prop}{n:Nat}{P:Nat->Value->Prop}{St:Nat->Shared->Prop}
abbrev Has (prog:Program)(w:World)(h:Heap)(D:Addr)(ms:List (List Nat)):Prop:=h.SetOf (PySem.strKind prog w) D (fun x=>decide (x.cps.toList∈ms)) ms.length
theorem Has.at {h h':Heap}{D:Addr}{ms:List (List Nat)}(x:Has prog w h D ms)(k:∀ o,h.get? D=some o->h'.get? D=some o):Has prog w h' D ms:=by
 obtain ⟨o,es,ep,tb,ho,r⟩:=x
 exact ⟨o,es,ep,tb,k o ho,r⟩
theorem loop (W:WalksS prog w A.in1 J fp wr G n P St){D:Addr}(hD:D∉fp)(ls:List (List Nat))(hv:∀ i v,P i v->∃ t,v=Value.str (tx (ls.getD i [])) t)(hn:n+1<scanBound) :
  ∀ (k i:Nat) (s:Shared),n-i=k->i<=n->St i s->Has prog w s.heap D (nubTo ls i) ->
   (∀ s',Moved (D::wr) G s s'->Has prog w s'.heap D (nubTo ls n)->R (.ok (.ret .none)) s')->codeAny (model prog w) A (.builtin "set.update.loop" ⟨[.ref D,.ref J],[]⟩) R s:=by
 have hDw:D∉wr:=fun z=>hD (W.sub _ z)
 have up:∀ b∈wr,b∈D::wr:=fun b hb=>.tail _ hb
 intro k
 induction k with
 | zero =>
  intro i s hk hi st hs hR
  obtain rfl:i=n:=by omega
  refine codeAny_builtin PyProof.Rows.F.entry_set_update_loop ?_
  rw [Around.under_plainId PyProof.Rows.F.plain_set_update_loop]
  refine wpAny_bind (m:=pyNext (.ref J)) (W.done s _ _ st fun s2 mv=>?_)
  exact (show wpAny _ A.in1 (ret Value.none) _ _ s2 from wpAny_pure (hR s2 (mv.mono up) (hs.at fun o e=>mv.heap D o hDw e)))
 | succ k ih =>
  intro i s hk hi st hs hR
  have hlt:i<n:=by omega
  refine codeAny_builtin PyProof.Rows.F.entry_set_update_loop ?_
  rw [Around.under_plainId PyProof.Rows.F.plain_set_update_loop]
  refine wpAny_bind (m:=pyNext (.ref J)) (W.item i s _ _ hlt st fun v s2 pv st2 mv=>?_)
  obtain ⟨t,rfl⟩:=hv i v pv
  have hs2:=hs.at fun o e=>mv.heap D o hDw e
  refine wpAny_bind (m:=holding [Value.str (tx (ls.getD i [])) t] (setAdd D (.str (tx (ls.getD i [])) t))) (wpAny_holding ?_)
  unfold setAdd
  refine wpAny_holding (wpAny_bind ((PySem.strKind prog w).pyHash (k:=tx (ls.getD i [])) (strKind_is _ _ _ _) ?_))
  have hl:=nubTo_len ls i
  refine wpAny_setAddHashed_of (knd:=PySem.strKind prog w) (s:={ s2 with toks:=s2.toks+1 }) (strKind_is _ _ _ _) rfl hs2 (by omega) fun h3 sb x3=>?_
  have x4:Has prog w h3 D (nubTo ls (i+1)):=by
   refine PyProof.Rows.SetOf_congr x3 (fun y=>?_) ?_
   ·rw [nubTo]
    split
    ·rename_i hm
     rw [Bool.eq_iff_iff,Bool.or_eq_true,decide_eq_true_iff,decide_eq_true_iff]
     constructor
     ·rintro (q | q)
      ·exact q
      ·rw [q,tx_cps]
       exact hm
     ·exact .inl
    ·rw [Bool.eq_iff_iff,Bool.or_eq_true,decide_eq_true_iff,decide_eq_true_iff,decide_eq_true_iff,List.mem_append,List.mem_singleton]
     constructor
     ·rintro (q | q)
      ·exact .inl q
      ·right
       rw [q,tx_cps]
     ·rintro (q | q)
      ·exact .inl q
      ·right
       rw [<- q,tx_eta]
   ·rw [tx_cps,nubTo]
    by_cases hm:ls.getD i []∈nubTo ls i
    ·rw [if_pos hm,if_pos (decide_eq_true hm)]
    ·rw [if_neg hm,if_neg (by rw [decide_eq_false hm];exact Bool.false_ne_true),List.length_append]
     rfl
  refine wpAny_pure ⟨plainId_quiet PyProof.Rows.F.plain_set_update_loop _,ih (i+1) _ (by omega) hlt (W.frame _ s2 _ _ st2 (Nat.le_succ _) fun b hb o e=>(sb.2 b fun z=>hD (z▸hb)).trans e) x4 fun s5 m5 x5=>?_⟩
  refine hR s5 (Moved.trans W.gtrans ((mv.mono up).then_heap (Nat.le_succ _) fun b o hb e=>(sb.2 b fun z=>hb (z▸.head _)).trans e) m5) x5
variable {E:Value->Shared->Prop}{s:Shared}
theorem call_of {l:Addr}{its:Array Value}{ls:List (List Nat)}{Q:Value->Shared->Prop}(hh:A.handled=none)(hl:s.heap.IsList l its)(hv:∀ i v,its[i]?=some v->∃ t,v=Value.str (tx (ls.getD i [])) t)(hn:its.size+1<scanBound)
  (h:∀ (h':Heap) (tk:Nat),Has prog w h' s.heap.objs.size (nubTo ls its.size)->(∀ b o,s.heap.get? b=some o->h'.get? b=some o)->Q (.ref s.heap.objs.size) { s with heap:=h',toks:=tk }) :
  wpAny (model prog w) A (call (.type "set") [.ref l]) Q E s:=by
 obtain ⟨mc,mt,f0⟩:=F.called_set.mro
 have f1:=F.called_set.made;have f2:=F.called_set.sub;have f3:=F.called_set.notType;have f4:=F.called_set.canCreate;have f5:=F.typeCall_set_1 (.ref l)
 refine wpAny_call (codeAny_of_tree (show wpAny _ _ (callAny (.type "set") _) _ _ _ from wpAny_pure ⟨Code.quiet_builtin _ (by decide +kernel),codeAny_builtin F.entry_type_call ?_⟩))
 rw [Around.under_plain (weight_type_call_type "set" [.ref l] []) rfl]
 repeat (any_goals (first | wp_step | assumption))
 refine codeAny_mono (code_set_new_1 (.ref l) (E:=E) (Q₁:=fun ob s1=>∃ b:Bool,ob = .ref s.heap.objs.size∧s1 = { s with heap:=s.heap.push { cls:=.type "set",dict:=none,data:=.set #[] 0 (.fresh 0 0 b) } }) fun b=>⟨b,rfl,rfl⟩) fun r s1 hr=>?_
 cases r with
 | error e=>exact hr
 | ok fl =>
  cases fl with
  | ret ob =>
   obtain ⟨b,rfl,rfl⟩:=hr
   generalize hob:({ cls:=.type "set",dict:=none,data:=.set #[] 0 (.fresh 0 0 b) }:Obj)=ob
   have hD:(s.heap.push ob).get? s.heap.objs.size=some ob:=Heap.get?_push_size _ (by rw [<- hob];rfl)
   have hT:Shared.TypeIs { s with heap:=s.heap.push ob } (.ref s.heap.objs.size) "set" := ⟨_,hD,by rw [<- hob]⟩
   have f6:=F.called_set.init.lookup;have f7:=F.called_set.init.bind (.ref s.heap.objs.size)
   repeat (any_goals (first | wp_step | assumption))
   refine codeAny_mono (codeAny_call_builtin (R:=wants (fun r s2=>r = .none∧∃ h' tk,s2 = { s with heap:=h',toks:=tk }∧Has prog w h' s.heap.objs.size (nubTo ls its.size)∧∀ b o,s.heap.get? b=some o->h'.get? b=some o) E)
    F.called_set.init.plain F.entry_set_init (check_set_init_1 hT ?_)) fun r2 s2 hr2=>?_
   ·obtain ⟨⟨oc,od,odt,osl⟩,hol,hcl,nl,hdl⟩:=id hl
    simp only at hcl hdl
    subst hcl hdl
    have hol':(s.heap.push ob).get? l=some { cls:=.type "list",dict:=od,data:=.seq its nl,slots:=osl }:=Heap.get?_push_of_some _ hol
    have f8:=F.sub_list_set;have f9:=F.sub_list_frozenset
    have f10:(Value.type "list" == Value.type "dict")=false:=by decide
    have hl1:(s.heap.push ob).IsList l its:=⟨_,hol',rfl,nl,rfl⟩
    subst hob
    unfold Builtin.«set.__init__» noKeywords Builtin.Frozenset.updateFrom
    generalize hPI:pyIter=PI
    wp_walk
    subst hPI
    refine wpAny_pyIter_list hl1 ?_
    refine wpAny_bind (wpAny_runValue ?_)
    have hlt:l<s.heap.objs.size:=Heap.lt_size hol
    have hh3:A.in1.in1.in1.handled=none:=by simp [hh]
    have hsz:(s.heap.push { cls:=.type "set",dict:=none,data:=.set #[] 0 (.fresh 0 0 b) }).objs.size=s.heap.objs.size+1:=Heap.size_push _ _
    have hne:l≠(s.heap.push { cls:=.type "set",dict:=none,data:=.set #[] 0 (.fresh 0 0 b) }).objs.size:=by rw [hsz];exact Nat.ne_of_lt (Nat.lt_succ_of_lt hlt)
    have hfp:s.heap.objs.size∉[(s.heap.push { cls:=.type "set",dict:=none,data:=.set #[] 0 (.fresh 0 0 b) }).objs.size,l]:=by
     rw [hsz]
     intro z
     rcases List.mem_cons.mp z with e | e
     ·exact Nat.ne_of_lt (Nat.lt_succ_self _) e
     ·exact Nat.ne_of_gt hlt (List.mem_singleton.mp e)
    refine loop ((Walks.list hh3 _ l hne its).toS) (D:=s.heap.objs.size) hfp ls hv hn (its.size-0) 0 _ (by omega) (Nat.zero_le _) ⟨⟨_,Heap.get?_push_size _ rfl,rfl,rfl⟩,hl1.push _⟩ ?_ fun s3 mv x3=>?_
    ·have hg:((s.heap.push { cls:=.type "set",dict:=none,data:=.set #[] 0 (.fresh 0 0 b) }).push { cls:=.type "list_iterator",data:=.fields #[.ref l,.int 0 0] }).get? s.heap.objs.size=some { cls:=.type "set",dict:=none,data:=.set #[] 0 (.fresh 0 0 b) }:=Heap.get?_push_of_some _ hD
     exact PyProof.Rows.SetOf_congr ((PyProof.Rows.setObjOf_fresh (knd:=PySem.strKind prog w) b).setOf hg (by unfold scanBound;omega)) (fun _=>rfl) rfl
    ·obtain ⟨h3,g3,d3,tk3,os3⟩:=s3
     obtain rfl:g3=s.gens:=mv.gens
     obtain rfl:d3=s.drawn:=mv.drawn
     obtain rfl:os3=s.os:=mv.os
     refine wpAny_pure (show wpAny _ _ (ret Value.none) _ _ _ from wpAny_pure ⟨rfl,h3,tk3,rfl,x3,fun c o e=>?_⟩)
     have hc:=Heap.lt_size e
     exact mv.heap c o (show c∉[s.heap.objs.size,(s.heap.push { cls:=.type "set",dict:=none,data:=.set #[] 0 (.fresh 0 0 b) }).objs.size] by
      rw [hsz]
      intro z
      rcases List.mem_cons.mp z with e | e
      ·exact Nat.ne_of_lt hc e
      ·exact Nat.ne_of_lt (Nat.lt_succ_of_lt hc) (List.mem_singleton.mp e)) (Heap.get?_push_of_some _ (Heap.get?_push_of_some _ e))
   ·cases r2 with
    | error e=>exact hr2
    | ok fl2 =>
     cases fl2 with
     | ret r =>
      obtain ⟨rfl,h3,tk,rfl,x3,k3⟩:=hr2
      repeat (any_goals (first | wp_step | assumption))
      exact h _ _ x3 k3
     | _=>exact hr2.elim
  | _=>exact hr.elim
end
end SE
def SetT (P:Program)(w:World)(D:Addr)(ms:List (List Nat)):HO:=.ext fun h=>SE.Has P w h D ms
section
variable {X:Cx}
theorem str_at {ls:List (List Nat)}{us:List Value}(r:Vals (ls.map T) us){i:Nat}{v:Value}(h:us[i]?=some v):∃ t,v=Value.str (tx (ls.getD i [])) t:=by
 have hl:=r.length
 rw [List.length_map] at hl
 have hi:i<ls.length:=by have:=(List.getElem?_eq_some_iff.mp h).1;omega
 obtain ⟨u,h1,h2⟩:=r.get (i:=i) (x:=T ls[i]) (by rw [List.getElem?_map,List.getElem?_eq_getElem hi];rfl)
 rw [h] at h1
 cases h1
 rw [List.getD_eq_getElem?_getD,List.getElem?_eq_getElem hi]
 exact h2
theorem call_setT (hc:X.calm=true):CallR X (.type "set") (fun xs H Q=>∃ (p:Addr) (ls:List (List Nat)),xs=[.ref p]∧SqL X.K H p (ls.map T)∧ls.length+1<4096∧∀ D,H D=none->Q (.ref D) (upd H D (SetT X.prog X.w D (uniq ls)))):=by
 intro pins s σ H xs us Q I r h
 obtain ⟨p,ls,rfl,hq,hz,q⟩:=h
 obtain ⟨u,rfl,ru⟩:=vals1 r
 cases ru
 obtain ⟨its,rv,pl,_⟩:=I.list hq
 have hlen:=rv.length
 rw [List.length_map] at hlen
 refine SE.call_of (I.ok.hd hc) pl.isList (ls:=ls) (fun i v e=>str_at rv (by simpa using e)) (by rw [List.size_toArray];unfold scanBound;omega) fun h' tk x k=>?_
 have e:nubTo ls its.toArray.size=uniq ls:=by rw [List.size_toArray,<- hlen];rfl
 rw [e] at x
 have hf:H s.heap.objs.size=none:=I.hok.fresh (Nat.le_refl _)
 refine ⟨.ref s.heap.objs.size,_,I.laid (t':=tk) k (Nat.le_refl _) (o:=SetT X.prog X.w s.heap.objs.size (uniq ls)) ?_,rfl,q _ hf⟩
 refine ⟨x,?_,fun h1 h2 x1 kk=>x1.at kk⟩
 obtain ⟨o,_,_,_,ho,_⟩:=x
 exact ⟨o,ho⟩
theorem call_lenS:CallR X (.builtin "len") (fun xs H Q=>∃ (D:Addr) (ms:List (List Nat)),xs=[.ref D]∧H D=some (SetT X.prog X.w D ms)∧Q (.int (ms.length:Nat)) H):=by
 intro pins s σ H xs us Q I r h
 obtain ⟨D,ms,rfl,hD,q⟩:=h
 obtain ⟨u,rfl,ru⟩:=vals1 r
 cases ru
 obtain ⟨⟨o,es,ep,tb,ho,hex,hd,_,_,hb,hf,hn⟩,_⟩:=(show ObjOk X.prog X.w H s.heap D (SetT X.prog X.w D ms) from I.hok D _ hD)
 have hb':es.size<4096:=hb
 exact call_len_set ho hex hd hf (by omega) ⟨.int (ms.length:Nat),H,I.tok _,⟨s.toks+1,by rw [<- hn]⟩,q⟩
end
end L2
namespace L2
open PySem PySem.Spec PyProof.Rows
section
variable {X:Cx}
namespace LM
end LM
theorem ix_list_K (K:PySem.W.Frag)(hK:X.K=K):IxR X (rIxL K):=by
 subst hK
 exact ix_list
end
end L2
namespace L2
open PySem PySem.Spec PyProof.Rows
def Itx (l:List Nat):It:=⟨fun i _=>i<l.length,fun i H x H'=>H'=H∧∃ c,l[i]?=some c∧x=T [c],fun i _=>l.length<=i⟩
theorem turn_text {P:Program}{w:World}{K:PySem.W.Frag}{tg:Expr}{it:Addr}{ty:String}{l:List Nat}{t:Tok}(hty:ty = "str_ascii_iterator" ∨ ty = "str_iterator")
  (W:∀ A:Around,A.handled=none->Walks P w A it [it] [it] (tx l).cps.size (SignAt (tx l)) (fun i h=>h.IsStrIter it ty (tx l) t i)):Turn P w K tg (Itx l) [it] it (fun i h=>h.IsStrIter it ty (tx l) t i) where
 mem:=by simp
 obj:=fun i h st b hb=>by
  have e:b=it:=by simpa using hb
  subst e
  obtain ⟨o,e,c,d⟩:=st
  exact ⟨o,e,fun v z=>by rw [d] at z;cases z⟩
 keep:=fun i h h' st k=>by
  obtain ⟨o,e,r⟩:=st
  exact ⟨o,k it (by simp) o e,r⟩
 item:=by
  intro X hP hw hK hc i pins s σ H E I hf st hg
  subst hP hw hK
  obtain ⟨f0,f1,f2,f3,f4,f5⟩:=hf it (by simp)
  refine (W X.A (I.ok.hd hc)).item i s _ _ (by have:i<l.length:=hg;simpa [tx] using this) st fun v h' tk hv st' kk=>?_
  obtain ⟨c,u,hcu,rfl⟩:=hv
  have I1:Inv X pins σ H { s with heap:=h',toks:=tk }:=I.turned (fun b o hb e=>kk b o (by simpa using hb) e) f0 f1 f3 f4 f5
  obtain ⟨o,e,cl,d⟩:=id st'
  refine ⟨_,rfl,go_of (s:={ s with heap:=h',toks:=tk }) (n:=ty) e cl d (by rcases hty with rfl | rfl <;> decide) ⟨T [c],H,I1,⟨u,rfl⟩,⟨rfl,c,?_,rfl⟩,st',fun b hb=>(hf b hb).1⟩⟩
  simpa [tx] using hcu
 done:=by
  intro X hP hw hK hc i pins s σ H E I hf st hg
  subst hP hw hK
  obtain ⟨f0,f1,f2,f3,f4,f5⟩:=hf it (by simp)
  have hn:l.length<=i:=hg
  obtain ⟨o,e,cl,d⟩:=id st
  rcases hty with rfl | rfl
  ·exact wpAny_pyNext_ascii_end (I.ok.hd hc) st (by simpa [tx] using hn) fun h' eb=>⟨rfl,I.turned (t':=s.toks) (fun b o hb e=>eb b o hb e) f0 f1 f3 f4 f5⟩
  ·exact wpAny_pyNext_wide_end (I.ok.hd hc) st (by simpa [tx] using hn) fun h' eb=>⟨rfl,I.turned (t':=s.toks) (fun b o hb e=>eb b o hb e) f0 f1 f3 f4 f5⟩
 self:=fun A i s Q E st h=>by
  rcases hty with rfl | rfl
  ·exact wpAny_pyIter_striter_ascii st h
  ·exact wpAny_pyIter_striter_wide st h
def iStr (tl:TE):TI:=fun σ H R=>tl σ H fun x H1=>∃ l,x=T l∧R (Itx l) H1
section
variable {X:Cx}{tg:Expr}
theorem pi_str {e:Expr}{tl:TE}(hl:PE X e tl):PI X tg e (iStr tl):=by
 intro pins s σ H R I h
 refine thn (hl pins s σ H _ I h) fun v s1 ⟨x,H1,I1,r1,q1⟩=>?_
 obtain ⟨l,rfl,q⟩:=q1
 obtain ⟨t,rfl⟩:=r1
 have fin:∀ (ty:String) (o:Obj),(ty = "str_ascii_iterator" ∨ ty = "str_iterator")->(∀ A:Around,A.handled=none->Walks X.prog X.w A s1.heap.objs.size [s1.heap.objs.size] [s1.heap.objs.size] (tx l).cps.size (SignAt (tx l)) (fun i h=>h.IsStrIter s1.heap.objs.size ty (tx l) t i)) ->
   (s1.heap.push o).IsStrIter s1.heap.objs.size ty (tx l) t 0->PIE X pins σ tg R (.ref s1.heap.objs.size) { s1 with heap:=s1.heap.push o }:=fun ty o hty W st=>by
  refine ⟨s1.heap.objs.size,[s1.heap.objs.size],_,_,H1,rfl,I1.kept (t':=s1.toks) fun b o e=>Heap.get?_push_of_some _ e,turn_text hty W,st,fun b hb=>?_,q⟩
  have e:b=s1.heap.objs.size:=by simpa using hb
  subst e
  exact I1.fpOk (Nat.le_refl _) (I1.hok.fresh (Nat.le_refl _))
 cases ha:(tx l).cps.all (· < 128)
 ·exact wpAny_pyIter_wide ha (fin "str_iterator" _ (.inr rfl) (fun A hA=>Walks.strWide hA _ (tx l) t) ⟨_,Heap.get?_push_size _ rfl,rfl,rfl⟩)
 ·exact wpAny_pyIter_ascii ha (fin "str_ascii_iterator" _ (.inl rfl) (fun A hA=>Walks.strAscii hA _ (tx l) t) ⟨_,Heap.get?_push_size _ rfl,rfl,rfl⟩)
end
theorem for_text {l:List Nat}{g:TG}{tb:TS}{D:Ends}{σ:St}{H:Hp}(Pv:Nat->St->Hp->Prop)(h0:Pv 0 σ H)
  (hs:∀ i c σ H,l[i]?=some c->Pv i σ H->g (T [c]) σ H fun σ2 H2=>tb { D with nx:=Pv (i+1),ct:=Pv (i+1),bk:=D.nx } σ2 H2) (hd:∀ σ H,Pv l.length σ H->D.nx σ H) :
  ∃ W:Nat->Nat->St->Hp->Prop,(∃ m,W 0 m σ H)∧∀ i m σ H,W i m σ H ->
   ((Itx l).stop i H∧D.nx σ H)∨((Itx l).go i H∧∃ N:St->Hp->Prop,(∀ σ' H',N σ' H'->∃ m',m'<m∧W (i+1) m' σ' H')∧∀ x H',(Itx l).yld i H x H'->g x σ H' fun σ2 H2=>tb { D with nx:=N,ct:=N,bk:=D.nx } σ2 H2):=by
 refine ⟨fun i m σ H=>m=l.length-i∧i<=l.length∧Pv i σ H,⟨l.length,by simp,Nat.zero_le _,h0⟩,?_⟩
 rintro i m σ H ⟨rfl,hi,p⟩
 by_cases hlt:i<l.length
 ·refine .inr ⟨hlt,Pv (i+1),fun σ' H' p'=>⟨l.length-(i+1),by omega,rfl,hlt,p'⟩,fun x H' y=>?_⟩
  obtain ⟨rfl,c,hc,rfl⟩:=y
  exact hs i c σ _ hc p
 ·obtain rfl:i=l.length:=by omega
  exact .inl ⟨Nat.le_refl _,hd σ H p⟩
section
variable {X:Cx}
theorem op_in_sT:OpR X (compareOp .In) (fun x y H Q=>∃ c,x=T [c]∧∃ l,y=T l∧Q (.bl (decide (c∈l))) H):=by
 intro pins s σ H x y v u Q I rx ry h
 obtain ⟨c,e1,l,e2,q⟩:=h
 exact op_in_str pins s σ H x y v u Q I rx ry ⟨tx [c],tx l,e1,e2,by rw [show tx [c]=⟨#[c]⟩ from rfl,StrLaws.found_one,tx_cps];exact q⟩
theorem op_notin_sT:OpR X (compareOp .NotIn) (fun x y H Q=>∃ c,x=T [c]∧∃ l,y=T l∧Q (.bl (!decide (c∈l))) H):=by
 intro pins s σ H x y v u Q I rx ry h
 obtain ⟨c,e1,l,e2,q⟩:=h
 exact op_notin_str pins s σ H x y v u Q I rx ry ⟨tx [c],tx l,e1,e2,by rw [show tx [c]=⟨#[c]⟩ from rfl,StrLaws.found_one,tx_cps];exact q⟩
theorem mt_index6:MtR X "str.index" (fun x xs H Q=>x=T [97,98,99,100,101,102]∧∃ c:Nat,xs=[T [c]]∧(97<=c∧c<=102)∧Q (.int ((c-97:Nat):Int)) H):=by
 intro pins s σ H x xs v us Q I rx rs h
 obtain ⟨rfl,c,rfl,hc,q⟩:=h
 obtain ⟨t,rfl⟩:=rx
 obtain ⟨u,rfl,ru⟩:=vals1 rs
 obtain ⟨t',rfl⟩:=ru
 have key:∀ d:Nat,d<6->Builtin.Str.occurrences (tx [97,98,99,100,101,102]) (tx [97+d]) 0 (tx [97,98,99,100,101,102]).length 1=[d]:=by decide +kernel
 have e:=key (c-97) (by omega)
 rw [show 97+(c-97)=c by omega] at e
 exact SC.index e ⟨.int ((c-97:Nat):Int),H,I.tok _,⟨_,rfl⟩,q⟩
namespace RV
variable {prog:Program}{w:World}{A:Around}{E:Value->Shared->Prop}{s:Shared}
theorem collect_rev {Q:List Value->Shared->Prop}(hh:A.handled=none){it l:Addr}{items:Array Value}(hit:s.heap.IsRevIter it l ((items.size:Int)-1))(hl:s.heap.IsList l items)(hne:l≠it)
  (hQ:∀ h' tk,(∀ b o,b≠it->s.heap.get? b=some o->h'.get? b=some o)->Q items.toList.reverse { s with heap:=h',toks:=tk }) (hn:items.size<=sizeLine) :
  wpAny (model prog w) A (collect (.ref it)) Q E s:=by
 obtain ⟨oi,hoi,ri⟩:=id hit
 obtain ⟨ol,hol,rl⟩:=id hl
 unfold collect
 refine wpAny_bind (wpAny_runValue (codeAny_builtin F.entry_proto_collect ?_))
 rw [Around.under_plainId F.plain_proto_collect]
 refine wpAny_bind (m:=newList []) (wpAny_newObj_type (wpAny_pure ⟨plainId_quiet F.plain_list_iadd _,codeAny_builtin F.entry_list_iadd ?_⟩))
 rw [Around.under_plainId F.plain_list_iadd]
 have hS:(s.heap.push { cls:=.type "list",data:=.seq #[] }).get? s.heap.objs.size=some { cls:=.type "list",data:=.seq #[] }:=Heap.get?_push_size _ rfl
 have go:∀ R:Result->Shared->Prop,(∀ h' tk acc c,(∀ b o,b≠it->s.heap.get? b=some o->h'.get? b=some o)->h'.get? s.heap.objs.size=some { cls:=.type "list",dict:=none,data:=.seq acc c,slots:=#[] }->acc.toList=items.toList.reverse ->
   R (.ok (.ret (.ref s.heap.objs.size))) { s with heap:=h',toks:=tk })->wpAny (model prog w) A.in1 (Builtin.List.listExtendWith (.ref s.heap.objs.size) (.ref it) (.ref s.heap.objs.size))
    (fun fin s'=>match fin with | .done f=>R (.ok f) s' | .again c'=>c'.quiet=true∧codeAny (model prog w) A c' R s') (fun e s'=>R (.error e) s') { s with heap:=s.heap.push { cls:=.type "list",data:=.seq #[] } }:=fun R hR =>
  extend_rev (A:=A) (s:={ s with heap:=s.heap.push { cls:=.type "list",data:=.seq #[] } }) hh ⟨oi,Heap.get?_push_of_some _ hoi,ri⟩ ⟨ol,Heap.get?_push_of_some _ hol,rl⟩ hne s.heap.objs.size (.ref s.heap.objs.size) 0
   (Ne.symm (Nat.ne_of_lt (Heap.lt_size hoi))) (Ne.symm (Nat.ne_of_lt (Heap.lt_size hol))) hS (fun h' tk acc' c' hk hS' hacc=>hR h' tk acc' c' (fun b o hb e=>hk b o (Nat.ne_of_lt (Heap.lt_size e)) hb (Heap.get?_push_of_some _ e)) hS' hacc) hn
 refine go (fun r s'=>match r with
  | .ok (.ret v)=>wpAny (model prog w) A (match v with
   | .ref a=>do
    match (<- load a).data with
    | .seq xs _=>pure xs.toList
    | _=>unsupported "internal:collect"
   | _=>unsupported "internal:collect") Q E s'
  | .ok _=>False
  | .error e=>E e s') fun h' tk acc c hk hS' hacc=>?_
 refine wpAny_bind (m:=load s.heap.objs.size) (wpAny_load hS' (wpAny_pure ?_))
 rw [hacc]
 exact hQ h' tk hk
theorem join_rev {Q:Value->Shared->Prop}(hh:A.handled=none){it l:Addr}{items:Array Value}{x:Str}{t:Tok}{ys:List Str}(hit:s.heap.IsRevIter it l ((items.size:Int)-1))(hl:s.heap.IsList l items)(hne:l≠it)(hy:StrsAre items.toList.reverse ys)
  (hok:(ys.map (·.length)).sum+ys.length*x.length<=16777216)
  (hQ:∀ h' tk t',(∀ b o,b≠it->s.heap.get? b=some o->h'.get? b=some o)->Q (.str (Txt.join x ys) t') { s with heap:=h',toks:=tk }) (hn:items.size<=sizeLine) :
  wpAny (model prog w) A (call (.builtin "str.join") [.str x t,.ref it]) Q E s:=by
 refine wpAny_call (codeAny_call_builtin F.slot_str_join.plain F.entry_str_join (F.slot_str_join.check _ _ _ _ _ _ _ _ (typeIs_str _ _ _) (F.args_str_join_2 _ _) ?_))
 rw [join_tree_other]
 refine wpAny_bind (wpAny_typeOf hit.typeIs ?_)
 rw [if_neg (by decide)]
 refine wpAny_bind (wpAny_tryCatch (wpAny_pyIter_revIter hit (wpAny_bind (collect_rev (A:=A.in1) hh hit hl hne (fun h' tk hk=>?_) hn))))
 obtain ⟨lt,hv,ht⟩:=strsAre_values hy
 rw [hv]
 have hok':=joinOk_of hok
 unfold JoinOk at hok'
 rw [Bool.not_eq_true',<- ht] at hok'
 have g:Gives (joinTail x (strValues lt)) (joinMade x lt):=by
  have g0:=gives_joinTail x lt hok'
  cases lt with
  | nil=>exact g0
  | cons p r=>cases r with
   | nil=>exact g0
   | cons q r'=>exact g0
 refine g prog w A (wants Q E) { s with heap:=h',toks:=tk } (post_join lt ⟨joinFit_length hok',fun t' k=>?_⟩)
 rw [ht]
 exact hQ h' k t' hk
end RV
def tJR (K:PySem.W.Frag)(t:TE):TE:=fun σ H Q=>t σ H fun x H1=>∃ (p:Addr) (ls:List (List Nat)),x = .ref p∧SqL K H1 p (ls.map T)∧ls.flatten.length<=sizeLine∧Q (T ls.reverse.flatten) H1
theorem pe_joinrev {e:Expr}{t:TE}{j}{cp apos cpos p2 pos2:Pos}(hc:X.calm=true)(g2:Gl X "reversed")(m2:X.mg "reversed" = none)(he:PE X e t){x0:Str}(hx:x0=tx [])
  (hbase:attributeBase (.Constant (.str x0) j cp) "join" X.env (eval (.Constant (.str x0) j cp) X.env)=eval (.Constant (.str x0) j cp) X.env:=by rfl)
  (hline:(apos.endLine==cpos.line)=true:=by rfl) (s1:starEach [e] X.env=(false,eval e X.env)::starEach [] X.env:=by rfl)
  (hb2:bootBuiltins "reversed" = some (.type "reversed"):=by decide +kernel) :
  PE X (.Call (.Attribute (.Constant (.str x0) j cp) "join" apos) [.Call (.Name "reversed" p2) [e] [] pos2] [] cpos) (tJR X.K t):=by
 intro pins s σ H Q I h
 subst hx
 refine wpAny_Call_method_late hbase rfl hline rfl (Calls.Constant_str ?_)
 refine ⟨"str", "str.join",PySem.F.plainAttrs_str,PySem.F.slot_str_join,PySem.F.type_str_join,typeIs_str _ _ _,fun a z=>(by cases z),?_⟩
 refine Calls.callWith_builtin rfl (Calls.evalArgs_plain ?_)
 show wpAny _ _ (spliced ((false,eval (.Call (.Name "reversed" p2) [e] [] pos2) X.env)::backTo cpos (starEach [] X.env))) _ _ _
 refine Calls.spliced_cons (thn (Q:=fun u s1=>wpAny (model X.prog X.w) X.A (call (.builtin "str.join") [.str (tx []) s.toks,u]) (EP X pins σ Q) X.xe s1) ?_ fun u s1 z=>Calls.spliced_nil z)
 have I0:Inv X pins σ H { s with toks:=s.toks+1 }:=I.tok _
 refine wpAny_Call_Name_kw (ld_blt I0 g2 m2 hb2 ?_ (by decide) (by decide))
 refine PyProof.Rows.callWith_type1 (arg1 (thn (he pins _ σ H _ I0 h) fun u s' ⟨v,H1,I1,r1,q1⟩=>?_) s1) s1 rfl
 obtain ⟨p,ls,rfl,hq,hz2,q⟩:=q1
 cases r1
 obtain ⟨its,r,pl,hz⟩:=I1.list hq
 have hl:=pl.isList
 refine call_reversed_list hl ?_
 have hlt:p<s'.heap.objs.size:=by obtain ⟨o,ho,_⟩:=hl;exact Heap.lt_size ho
 have hl2:(s'.heap.push (revObj p ((its.toArray.size:Int)-1))).IsList p its.toArray:=by
  obtain ⟨o,ho,rr⟩:=hl
  exact ⟨o,Heap.get?_push_of_some _ ho,rr⟩
 have hrv:Vals (ls.reverse.map T) its.toArray.toList.reverse:=by
  rw [List.map_reverse]
  simpa using r.reverse
 have hs:sizeLine=16777216:=sizeLine_eq
 have hfl:(ls.reverse.flatten).length=ls.flatten.length:=((List.reverse_perm ls).flatten).length_eq
 refine RV.join_rev (I1.ok.hd hc) (it:=s'.heap.objs.size) (l:=p) (items:=its.toArray) (ys:=ls.reverse.map tx) ⟨_,Heap.get?_push_size _ rfl,rfl,rfl⟩ hl2 (Nat.ne_of_lt hlt) (strsAre_T hrv) (by rw [sum_len_tx,tx_len,List.length_nil,Nat.mul_zero];omega) (fun h' tk t' hk=>?_) (by rw [List.size_toArray,<- r.length];exact hz)
 refine ⟨T ls.reverse.flatten,H1,I1.kept (t':=tk) fun b u eb=>hk b u (Nat.ne_of_lt (Heap.lt_size eb)) (Heap.get?_push_of_some _ eb),⟨t',by rw [join_tx]⟩,q⟩
end
end L2
namespace L2
open PySem PySem.Spec PyProof.Rows
section
variable {P:Program}{w:World}{K:PySem.W.Frag}{mg:Str->Option Value}{base:Heap}
theorem Fun.okN {x qual:Str}{st:Stmt}{f:Addr}{fd:FuncData}{N ps:List Str}{k:Nat}{sp:Sp}(F:Fun K x qual st f fd)(S:FnScope N ps (defScope st))(len:∀ vs H Q E,sp vs H Q E->vs.length=ps.length)
  (hbody:∀ (cdv:Value) (A:Around) (outer:List Env) (s:Shared) (H:Hp) (vs:List V) (Q:VK) (E:XK),Room k (A.deeper (envOfC qual (defScope st) s.heap.objs.size f cdv))->sp vs H Q E ->
   ∃ t,PSs (cxOf (CX1 P w) P w K mg base N qual (defScope st) f cdv A outer s H E).nox (defBody st) t∧t { nx:=fun _ H'=>Q .non H',rt:=Q } (start N vs) H):FnOk P w K mg base (CX1 P w) (k+1) f fd ps sp:=by
 obtain ⟨oc,od,kV,doc,pm,an,cdv,ct,osl,rfl,lk,hcd⟩:=F.ex
 refine fn_of lk hcd S len fun A outer s H vs Q E hr hsp=>?_
 obtain ⟨t,h,q⟩:=hbody cdv A outer s H vs Q E hr hsp
 exact ⟨t,h.nox,q⟩
end
namespace EX
open PySem.W PySem.Calls PySem.Builtin PySem.Builtin.ObjectAttr PySem.Builtin.Getset_descriptor
variable {prog:Program}{w:World}{A:Around}{E:Value->Shared->Prop}{s:Shared}{K:PySem.W.Frag}{a C:Addr}
end EX
section
variable {X:Cx}
end
end L2
namespace L2
open PySem PySem.Spec PyProof.Rows
section
variable {X:Cx}{es:List Expr}{te:TE}{t:TA}
theorem pa_cC {c:Const}{j:Nat}{p:Pos}(ha:PE X (.Constant c j p) te)(hr:PA X es t):PA X (.Constant c j p::es) (tCons te t):=pa_cons ha hr rfl
theorem pa_cN {x:Str}{p:Pos}(ha:PE X (.Name x p) te)(hr:PA X es t):PA X (.Name x p::es) (tCons te t):=pa_cons ha hr rfl
theorem pa_cB {a b:Expr}{o:Operator}{p:Pos}(ha:PE X (.BinOp a o b p) te)(hr:PA X es t):PA X (.BinOp a o b p::es) (tCons te t):=pa_cons ha hr rfl
theorem pa_cU {a:Expr}{o:UnaryOp}{p:Pos}(ha:PE X (.UnaryOp o a p) te)(hr:PA X es t):PA X (.UnaryOp o a p::es) (tCons te t):=pa_cons ha hr rfl
theorem pa_cK {f:Expr}{as:List Expr}{ks:List Keyword}{p:Pos}(ha:PE X (.Call f as ks p) te)(hr:PA X es t):PA X (.Call f as ks p::es) (tCons te t):=pa_cons ha hr rfl
theorem pa_cS {a b:Expr}{p:Pos}(ha:PE X (.Subscript a b p) te)(hr:PA X es t):PA X (.Subscript a b p::es) (tCons te t):=pa_cons ha hr rfl
end
end L2
namespace L2
open PySem PySem.Spec PyProof.Rows
def Itd (lo:Int)(n:Nat):It where
 go:=fun i _=>i<n
 stop:=fun i _=>n<=i
 yld:=fun i H x H'=>x = .int (lo-i)∧H'=H
theorem size_down (a b:Int):Builtin.Range.rangeSize a b (-1)=((a-b).toNat:Int):=by
 unfold Builtin.Range.rangeSize
 rw [if_neg (by decide),show (-(-1:Int))=1 from rfl,Int.ediv_one]
 split <;> omega
theorem small_down {a b:Int}(ha : -(2 ^ 62)<=a)(ha':a<2 ^ 62)(hb : -(2 ^ 62)<=b)(hb':b<2 ^ 62):Builtin.Range.small a b (-1)=true:=by
 unfold Builtin.Range.small
 rw [size_down]
 simp only [Builtin.Range.rangeFitsLong,Bool.and_eq_true,Bool.or_eq_true,decide_eq_true_eq,beq_iff_eq,show ¬ ((-1:Int)>0) by decide,if_false]
 omega
theorem turn_down {P:Program}{w:World}{K:PySem.W.Frag}{tg:Expr}(it:Addr)(lo:Int)(n:Nat):Turn P w K tg (Itd lo n) [it] it (fun i h=>IsRangeIter h it (lo+(i:Nat)*(-1)) ((n:Int)-(i:Nat)) (-1)) where
 mem:=by simp
 obj:=fun i h st b hb=>by
  obtain rfl:b=it:=by simpa using hb
  exact ⟨_,st,fun v z=>by
   have z':Data.fields _=Data.cell v:=z
   cases z'⟩
 keep:=fun i h h' st k=>k it (by simp) _ st
 item:=by
  intro X hP hw hK hc i pins s σ H E I hf st hg
  subst hP hw hK
  obtain ⟨f0,f1,f2,f3,f4,f5⟩:=hf it (by simp)
  have W:=Walks.range (prog:=X.prog) (w:=X.w) (I.ok.hd hc) it lo (-1) n
  refine W.item i s _ _ hg st fun v h' tk hv st' kk=>?_
  obtain ⟨t,rfl⟩:=hv
  have I1:Inv X pins σ H { s with heap:=h',toks:=tk }:=I.turned (fun b o hb e=>kk b o (by simpa using hb) e) f0 f1 f3 f4 f5
  refine ⟨_,rfl,go_of (s:={ s with heap:=h',toks:=tk }) (n := "range_iterator") st' rfl rfl (by decide) ⟨.int (lo-i),H,I1,⟨t,?_⟩,⟨rfl,rfl⟩,st',fun b hb=>(hf b hb).1⟩⟩
  rw [show lo+(i:Int) * -1=lo-i by omega]
 done:=by
  intro X hP hw hK hc i pins s σ H E I hf st hg
  subst hP hw hK
  obtain ⟨f0,f1,f2,f3,f4,f5⟩:=hf it (by simp)
  exact wpAny_pyNext_range_end (I.ok.hd hc) st (by have g:n<=i:=hg;omega) fun h' eb=>⟨rfl,I.turned (t':=s.toks) (fun b o hb e=>eb b o hb e) f0 f1 f3 f4 f5⟩
 self:=fun _ _ _ _ _ st h=>wpAny_pyIter_rangeiter st h
section
variable {X:Cx}{tg:Expr}
theorem down_it {pins:List (Addr×Obj)}{σ:St}{H:Hp}{s:Shared}{R:It->Hp->Prop}{E:Value->Shared->Prop}{lo hi:Int}{t u v:Tok}{tk:Nat}(I:Inv X pins σ H s)(h1 : -(2 ^ 62)<=lo)(h2:lo<2 ^ 62)(h3 : -(2 ^ 62)<=hi)(h4:hi<2 ^ 62)
  (q:R (Itd lo (lo-hi).toNat) H):wpAny (model X.prog X.w) X.A (pyIter (.ref s.heap.objs.size)) (PIE X pins σ tg R) E { s with heap:=s.heap.push { cls:=.type "range",data:=.fields #[.int lo t,.int hi u,.int (-1) v] },toks:=tk }:=by
 refine wpAny_pyIter_range (IsRange.new ..) (small_down h1 h2 h3 h4) ?_
 have I1:Inv X pins σ H { s with heap:=s.heap.push { cls:=.type "range",data:=.fields #[.int lo t,.int hi u,.int (-1) v] },toks:=tk }:=I.kept fun b o e=>Heap.get?_push_of_some _ e
 generalize hh:s.heap.push { cls:=.type "range",data:=.fields #[.int lo t,.int hi u,.int (-1) v] }=hp at I1 ⊢
 refine ⟨hp.objs.size,[hp.objs.size],_,_,H,rfl,I1.kept (t':=tk) fun b o e=>Heap.get?_push_of_some _ e,turn_down _ lo (lo-hi).toNat,?_,fun b hb=>?_,q⟩
 ·show IsRangeIter _ _ (lo+((0:Nat):Int)*(-1)) ((((lo-hi).toNat:Nat):Int)-((0:Nat):Int)) (-1)
  rw [show lo+((0:Nat):Int)*(-1)=lo by simp,show ((((lo-hi).toNat:Nat):Int)-((0:Nat):Int))=Builtin.Range.rangeSize lo hi (-1) by rw [size_down];omega]
  exact Heap.get?_push_size _ rfl
 ·obtain rfl:b=hp.objs.size:=by simpa using hb
  exact I1.fpOk (Nat.le_refl _) (I1.hok.fresh (Nat.le_refl _))
def iRng3 (ta:TA):TI:=fun σ H R=>ta σ H fun vs H1=>∃ i j:Int,vs=[.int i,.int j,.int (-1)]∧(-(2 ^ 62)<=i∧i<2 ^ 62∧-(2 ^ 62)<=j∧j<2 ^ 62)∧R (Itd i (i-j).toNat) H1
theorem pi_range3 {a b c:Expr}{ta:TA}{p pos:Pos}(hg:Gl X "range")(hm:X.mg "range" = none)(ha:PA X [a,b,c] ta)(hs:starEach [a,b,c] X.env=[(false,eval a X.env),(false,eval b X.env),(false,eval c X.env)]:=by rfl)(hs2:starEach [b,c] X.env=[(false,eval b X.env),(false,eval c X.env)]:=by rfl) :
  PI X tg (.Call (.Name "range" p) [a,b,c] [] pos) (iRng3 ta):=by
 intro pins s σ H R I h
 refine Call_ (ld_blt I hg hm boot_range (PyProof.Rows.callWith_type1 (thn (ha pos pins s σ H _ I h) fun us s1 ⟨vs,H1,I1,r1,q1⟩=>?_) (by rw [hs,hs2]) (by rw [hs2];rfl)))
 obtain ⟨i,j,e,⟨q1,q2,q3,q4⟩,q⟩:=q1
 subst e
 cases r1 with
 | cons r rr =>
  cases rr with
  | cons r' rr =>
   cases rr with
   | cons r'' rr =>
    cases rr
    obtain ⟨t,rfl⟩:=r
    obtain ⟨t',rfl⟩:=r'
    obtain ⟨t'',rfl⟩:=r''
    exact call_range_3 (by decide) (down_it I1 q1 q2 q3 q4 q) (Or.inl (PyProof.noPylong_of_log2 (by decide +kernel)))
end
theorem for_down {lo:Int}{n:Nat}{g:TG}{tb:TS}{D:Ends}{σ:St}{H:Hp}(Pv:Nat->St->Hp->Prop)(h0:Pv 0 σ H)
  (hs:∀ i σ H,i<n->Pv i σ H->g (.int (lo-i)) σ H fun σ2 H2=>tb { D with nx:=Pv (i+1),ct:=Pv (i+1),bk:=D.nx } σ2 H2) (hd:∀ σ H,Pv n σ H->D.nx σ H) :
  ∃ W:Nat->Nat->St->Hp->Prop,(∃ m,W 0 m σ H)∧∀ i m σ H,W i m σ H ->
   ((Itd lo n).stop i H∧D.nx σ H)∨((Itd lo n).go i H∧∃ N:St->Hp->Prop,(∀ σ' H',N σ' H'->∃ m',m'<m∧W (i+1) m' σ' H')∧∀ x H',(Itd lo n).yld i H x H'->g x σ H' fun σ2 H2=>tb { D with nx:=N,ct:=N,bk:=D.nx } σ2 H2):=by
 refine ⟨fun i m σ H=>m=n-i∧i<=n∧Pv i σ H,⟨n,by simp,Nat.zero_le _,h0⟩,?_⟩
 rintro i m σ H ⟨rfl,hi,p⟩
 by_cases hlt:i<n
 ·refine .inr ⟨hlt,Pv (i+1),fun σ' H' p'=>⟨n-(i+1),by omega,rfl,hlt,p'⟩,fun x H' y=>?_⟩
  obtain ⟨rfl,rfl⟩:=y
  exact hs i σ _ hlt p
 ·obtain rfl:i=n:=by omega
  exact .inl ⟨Nat.le_refl _,hd σ H p⟩
end L2
namespace L2
open PySem
section
variable {X:Cx}{N':List Str}{scope:Scope}{x:Str}{px:Pos}{elt iter cd:Expr}{pos:Pos}{te:TE}{tc:TT}{wi:TI}
theorem pe_compf (S:CompSc X.N N' X.env.scope scope x)(hc:X.calm=true)(hi:PI X (.Name x px) iter wi)(ht:∀ cl C s H fp,PT (cxComp X N' scope cl C s H fp) cd tc)(he:∀ cl C s H fp,PE (cxComp X N' scope cl C s H fp) elt te)
  (hs:∀ x,foldedSetIterable iter X.env x=pure x:=by intro _;rfl):PE X (.ListComp elt [⟨.Name x px,iter,[cd],0⟩] scope pos) (tCompF wi tc te) :=
 pe_compx (at':=fun σ Q=>compAtF tc te σ Q) S hc hi (fun cl C s H fp=>ptl_one (ht cl C s H fp)) he (fun _ _ _ _ h=>h) hs
theorem ps_setCompf {i:Nat}{y:Str}{py spos:Pos}(S:CompSc X.N N' X.env.scope scope x)(hc:X.calm=true)(hi:PI X (.Name x px) iter wi)(ht:∀ cl C s H fp,PT (cxComp X N' scope cl C s H fp) cd tc)(he:∀ cl C s H fp,PE (cxComp X N' scope cl C s H fp) elt te)
  (hN:X.N.Nodup) (hy:X.N[i]?=some y) (hyl:X.env.scope.names.lookup y=some .local)
  (hsw:swapsWith (.ListComp elt [⟨.Name x px,iter,[cd],0⟩] scope pos) (some (.Name y py)) spos.line X.env=pure true:=by rfl)
  (hs:∀ x,foldedSetIterable iter X.env x=pure x:=by intro _;rfl):PS X (.Assign [.Name y py] (.ListComp elt [⟨.Name x px,iter,[cd],0⟩] scope pos) spos) (tAsg (tCompF wi tc te) (gName i)) :=
 ps_setCompx (at':=fun σ Q=>compAtF tc te σ Q) S hc hi (fun cl C s H fp=>ptl_one (ht cl C s H fp)) he (fun _ _ _ _ h=>h) hN hy hyl hsw hs
end
section
variable {X:Cx}
end
theorem take_filter {α:Type}(p:α->Bool)(l:List α)(i:Nat)(v:α)(h:l[i]?=some v):(l.take (i+1)).filter p=(l.take i).filter p++(if p v then [v] else []):=by
 rw [List.take_add_one,h,List.filter_append]
 cases hp:p v <;> simp [hp]
theorem filter_take_len {α:Type}(p:α->Bool)(l:List α)(i:Nat):((l.take i).filter p).length<=i:=by
 have h1:=List.length_filter_le p (l.take i)
 rw [List.length_take] at h1
 omega
theorem cutL_take (w:List Nat)(k:Nat):cutL w none (some (k:Int))=w.take k:=by
 unfold cutL
 rw [HT.sIx_nat,HT.sIx_none,List.drop_zero,Nat.sub_zero]
 by_cases h:k<=w.length
 ·rw [Nat.min_eq_left h]
 ·rw [Nat.min_eq_right (by omega),List.take_length,List.take_of_length_le (by omega)]
theorem compf_text {l:List Nat}{tc:TT}{te:TE}{σ:St}{H:Hp}{Q:VK}(p:Nat->Bool)(hn:l.length<=sizeLine)
  (he:∀ (i:Nat) c H',l[i]?=some c->Same H H'->∀ N:Bool->Hp->Prop,(∀ H'',Same H' H''->N (p c) H'')->tc (some (T [c])::σ) H' N)
  (hv:∀ x H' (N:V->Hp->Prop),N x H'->te (some x::σ) H' N)
  (hq:∀ D H',H D=none->Same H H'->H' D=some (.lst (((l.filter p).map fun c=>[c]).map T))->Q (.ref D) H') :
  compAtF tc te σ Q (Itx l) H:=by
 intro D hD
 refine ⟨fun i m ys H2=>m=l.length-i∧i<=l.length∧ys=(((l.take i).filter p).map fun c=>[c]).map T∧Same H H2∧H2 D=some (.lst ys),⟨l.length,rfl,Nat.zero_le _,rfl,fun b o e=>?_,upd_same⟩,?_⟩
 ·rw [upd_ne (ne_of_none e hD)]
  exact e
 ·rintro i m ys H2 ⟨rfl,hi,rfl,hs,hd⟩
  by_cases hlt:i<l.length
  ·have hx:l[i]?=some l[i]:=List.getElem?_eq_getElem hlt
   refine .inr ⟨hlt,by have:=filter_take_len p l i;rw [List.length_map,List.length_map];omega,fun v H'=>v=T [l[i]]∧p l[i]=true∧Same H2 H',fun v H' ⟨ev,hp,hs'⟩=>⟨hs' D _ hd,l.length-(i+1),by omega,rfl,hlt,?app,fun b o e=>?kp,upd_same⟩,
    fun H'=>p l[i]=false∧Same H2 H',fun H' ⟨hp,hs'⟩=>⟨l.length-(i+1),by omega,rfl,hlt,?skp,fun b o e=>hs' b o (hs b o e),hs' D _ hd⟩,fun y H' hy=>?stp⟩
   case app =>
    rw [ev,take_filter p l i _ hx,hp,List.map_append,List.map_append]
    rfl
   case kp =>
    rw [upd_ne (ne_of_none e hD)]
    exact hs' b o (hs b o e)
   case skp =>
    rw [take_filter p l i _ hx,hp]
    simp
   case stp =>
    obtain ⟨rfl,c,hc,rfl⟩:=hy
    have e4:c=l[i]:=by rw [hx] at hc;exact (Option.some.inj hc).symm
    refine he i c _ hc hs _ fun H'' h''=>?_
    by_cases hp:p c=true
    ·rw [if_pos hp]
     exact hv _ H'' _ ⟨by rw [e4],e4▸hp,h''⟩
    ·rw [if_neg hp]
     exact ⟨by rw [<- e4];simpa using hp,h''⟩
  ·have e:i=l.length:=by omega
   subst e
   rw [List.take_length] at hd
   exact .inl ⟨Nat.le_refl _,hq D H2 hD hs hd⟩
theorem comp_text {l:List Nat}{te:TE}{σ:St}{H:Hp}{Q:VK}(f:Nat->V)(hn:l.length<=sizeLine)
  (he:∀ (i:Nat) c H',l[i]?=some c->Same H H'->∀ N:V->Hp->Prop,(∀ H'',Same H' H''->N (f c) H'')->te (some (T [c])::σ) H' N)
  (hq:∀ D H',H D=none->Same H H'->H' D=some (.lst (l.map f))->Q (.ref D) H') :
  compAt te σ Q (Itx l) H:=by
 intro D hD
 refine ⟨fun i m ys H2=>m=l.length-i∧i<=l.length∧ys=(l.take i).map f∧Same H H2∧H2 D=some (.lst ys),⟨l.length,rfl,Nat.zero_le _,rfl,fun b o e=>?_,upd_same⟩,?_⟩
 ·rw [upd_ne (ne_of_none e hD)]
  exact e
 ·rintro i m ys H2 ⟨rfl,hi,rfl,hs,hd⟩
  by_cases hlt:i<l.length
  ·have hx:l[i]?=some l[i]:=List.getElem?_eq_getElem hlt
   refine .inr ⟨hlt,by rw [List.length_map,List.length_take];omega,fun v H'=>v=f l[i]∧Same H2 H',fun v H' ⟨ev,hs'⟩=>⟨hs' D _ hd,l.length-(i+1),by omega,rfl,hlt,?app,fun b o e=>?kp,upd_same⟩,fun y H' hy=>?stp⟩
   case app =>
    rw [ev,List.take_add_one,hx,List.map_append]
    rfl
   case kp =>
    rw [upd_ne (ne_of_none e hD)]
    exact hs' b o (hs b o e)
   case stp =>
    obtain ⟨rfl,c,hc,rfl⟩:=hy
    have e4:c=l[i]:=by rw [hx] at hc;exact (Option.some.inj hc).symm
    exact he i c _ hc hs _ fun H'' h''=>⟨by rw [e4],h''⟩
  ·have e:i=l.length:=by omega
   subst e
   rw [List.take_length] at hd
   exact .inl ⟨Nat.le_refl _,hq D H2 hD hs hd⟩
end L2
set_option autoImplicit false
namespace SR
open PySem PyProof.Rows
set_option genInjectivity false in
structure SB (kd:SortKind)(z:Array Keyed)(st:SortSt):Prop where
 prm:(arrOf st).Perm z
 knd:kindOf st=kd
 ffl:failedOf st=none
section
variable {prog:Program}{w:World}{A:Around}{E:Value->Shared->Prop}{s:Shared}{z:Array Keyed}{κ:KeyKind}{kd:SortKind}
end
end SR
set_option autoImplicit false
namespace SR
open PySem PyProof.Rows
def gal':Bool->Keyed->Array Keyed->Nat->Nat->Nat->StateT SortSt Sem (Option Nat):=sortPriv% PySem.Builtin.gallop
section
variable {prog:Program}{w:World}{A:Around}{E:Value->Shared->Prop}{s:Shared}{z:Array Keyed}{κ:KeyKind}{kd:SortKind}
end
end SR
set_option autoImplicit false
namespace SR
open PySem PyProof.Rows
section
variable {prog:Program}{w:World}{A:Around}{E:Value->Shared->Prop}{s:Shared}{z:Array Keyed}{κ:KeyKind}{kd:SortKind}
end
end SR
set_option autoImplicit false
namespace SR
open PySem PyProof.Rows
section
variable {prog:Program}{w:World}{A:Around}{E:Value->Shared->Prop}{s:Shared}{κ:KeyKind}{kd:SortKind}
end
end SR
set_option autoImplicit false
namespace SR
open PySem PyProof.Rows
def rt (a:Array Keyed)(n:Nat):List Keyed:=(a.toList.take n).reverse
section
variable {prog:Program}{w:World}{A:Around}{E:Value->Shared->Prop}{s:Shared}{κ:KeyKind}{kd:SortKind}
abbrev HiSt:=Option (Array Keyed)×Nat×Nat×Array Keyed×Nat×Nat×Nat
def hi3 (a b o:Array Keyed)(i j g p q:Nat):StateT SortSt Sem (ForInStep HiSt):=do
 let x <- elem' a (i-1)
 if (i-1==0)=true then pure (ForInStep.done (some (a.extract 0 (i-1)++b.extract 0 j++(o.push x).reverse),i-1,j,o.push x,g,p,q))
 else if (decide (p<7)&&decide (q<7))=true then pure (ForInStep.done (none,i-1,j,o.push x,g,p,q)) else pure (ForInStep.yield (none,i-1,j,o.push x,g,p,q))
def hi2 (a b o:Array Keyed)(i j g p q:Nat):StateT SortSt Sem (ForInStep HiSt):=do
 let x <- elem' b j
 if (j==1)=true then pure (ForInStep.done (some (b.extract 0 j++a.extract 0 i++(o.push x).reverse),i,j,o.push x,g,p,q))
 else do
  let u <- elem' a (i-1)
  let z <- gal' true u b 0 j (j-1)
  match z with
  | some y =>
   if j-y>0 then
    if (y==1)=true then pure (ForInStep.done (some (b.extract 0 y++a.extract 0 i++(o.push x++(b.extract y j).reverse).reverse),i,y,o.push x++(b.extract y j).reverse,g,p,j-y))
    else if (y==0)=true then pure (ForInStep.done (some (a.extract 0 i++b.extract 0 y++(o.push x++(b.extract y j).reverse).reverse),i,y,o.push x++(b.extract y j).reverse,g,p,j-y))
    else hi3 a b (o.push x++(b.extract y j).reverse) i y g p (j-y)
   else hi3 a b (o.push x) i j g p (j-y)
  | _=>pure (ForInStep.done (some (a.extract 0 i++b.extract 0 j++(o.push x).reverse),i,j,o.push x,g,p,q))
end
end SR
set_option autoImplicit false
namespace SR
open PySem PyProof.Rows
section
variable {κ:KeyKind}{kd:SortKind}
end
end SR
set_option autoImplicit false
namespace SR
open PySem PyProof.Rows
section
variable {prog:Program}{w:World}{A:Around}{E:Value->Shared->Prop}{s:Shared}{z:Array Keyed}{κ:KeyKind}{kd:SortKind}
end
end SR
set_option autoImplicit false
namespace SR
open PySem PyProof.Rows
section
variable {κ:KeyKind}{kd:SortKind}
end
section
variable {prog:Program}{w:World}{A:Around}{E:Value->Shared->Prop}{s:Shared}{z:Array Keyed}{κ:KeyKind}{kd:SortKind}
end
end SR
set_option autoImplicit false
namespace SR
open PySem PyProof.Rows PySem.Spec
section
variable {prog:Program}{w:World}{A:Around}{E:Value->Shared->Prop}{s:Shared}
end
end SR
namespace L2
open PySem PyProof.Rows PySem.Spec
section
variable {X:Cx}
end
end L2
namespace L2
open PySem PyProof.Rows PySem.Spec
section
variable {X:Cx}
theorem call_sumX (hc:X.calm=true):CallR X (.builtin "sum") (fun xs H Q=>∃ (p:Addr) (ns:List Int),xs=[.ref p]∧SqL X.K H p (ns.map V.int)∧Q (.int ns.sum) H):=by
 intro pins s σ H xs us Q I r h
 obtain ⟨p,ns,rfl,hq,q⟩:=h
 obtain ⟨u,rfl,ru⟩:=vals1 r
 cases ru
 obtain ⟨its,rv,pl,_⟩:=I.list hq
 have hia:=intsAre_of rv
 have hnum:=hia.numsOf
 obtain ⟨ys,hx⟩:=hia.allInts.items
 have hl:=pl.isList
 rw [hx] at hl
 have e:preSum (numAt ys) ys.size=ns.sum:=by
  rw [preSum_eq,List.take_of_length_le (by simp)]
  rw [<- hnum,show its=its.toArray.toList from by simp,hx,nums_intItems]
 exact sum_intListG (I.ok.hd hc) hl fun h' tk t' hk=>⟨.int ns.sum,H,I.kept hk,⟨t',by rw [e]⟩,q⟩
end
end L2
namespace L2
open PySem PyProof.Rows PySem.Spec
section
variable {X:Cx}
theorem pe_bmK (K:PySem.W.Frag)(hK:X.K=K){o e:Expr}{es:List Expr}{to:TE}{t:TA}{name:Str}{apos cpos:Pos}{T id:String}{r:V->List V->Hp->VK->Prop}
  (pa:PlainAttrs T) (slot:Slot T name id) (hty:typeOf (.builtin id)=pure (.type "method_descriptor")) (hm:MtR X id r) (ho:PE X o to) (ha:PA X (e::es) t)
  (b1:attributeBase o name X.env (eval o X.env)=eval o X.env:=by rfl)
  (b2:((backTo cpos (starEach (e::es) X.env)).all (fun x=>!x.1)&&(backToKw cpos (keywordEach [] X.env)).all (fun x=>x.1.isSome)&&decide ((e::es).length+([]:List Keyword).length+(if ([]:List Keyword).isEmpty then 0 else 1)<30))=true:=by rfl)
  (b3:(apos.endLine==cpos.line)=true:=by rfl) (b4:starEach (e::es) X.env=(false,eval e X.env)::starEach es X.env:=by rfl) (b5:(backTo cpos (starEach es X.env)).any (·.1)=false:=by rfl) :
  PE X (.Call (.Attribute o name apos) (e::es) [] cpos) (tBM K T r to t):=by
 subst hK
 exact pe_bm pa slot hty hm ho ha b1 b2 b3 b4 b5
end
end L2
namespace L2
open PySem PySem.Spec PyProof.Rows
end L2
namespace L2
open PySem PySem.Spec PyProof.Rows
section
variable (P:Program)(w:World)
end
section
variable {P:Program}{w:World}{H H':Hp}{h h':Heap}{a:Addr}{o:HO}
end
section
variable {P:Program}{w:World}{H:Hp}{h h':Heap}{x e:Addr}{o':HO}
end
section
variable {fs fs' ex ex':List Addr}{H H1 H2:Hp}{h h1 h2 h':Heap}{a x e:Addr}{o:HO}
end
end L2
namespace L2
open PySem PySem.Spec PyProof.Rows
section
variable {X:Cx}{pins:List (Addr×Obj)}{σ:List (Option V)}{H H':Hp}{s:Shared}{h':Heap}
end
end L2
namespace L2
open PySem PySem.Spec PyProof.Rows
section
variable {X:Cx}
variable {a b:Expr}{ta tb:TE}{pos:Pos}
variable {tA tB':TT}{rest:List Expr}
end
end L2
namespace L2
open PySem PySem.Spec PyProof.Rows
section
variable {X:Cx}{pins:List (Addr×Obj)}{σ:St}{H:Hp}{s:Shared}{a:Addr}{xs ys:List V}
end
section
variable {X:Cx}{pins:List (Addr×Obj)}{σ:St}{H:Hp}{s:Shared}{E:Value->Shared->Prop}
end
section
variable {X:Cx}{st:Stmt}{rest:List Stmt}{t u:TS}{e:Expr}{te:TE}{pos:Pos}
end
section
variable {X:Cx}{pos:Pos}
end
section
variable {X:Cx}{pos:Pos}
end
end L2
namespace L2
open PySem PySem.Spec PyProof.Rows
section
variable {X:Cx}{tg:Expr}
end
end L2
namespace L2
open PySem PySem.Spec PyProof.Rows
section
variable {X:Cx}{a b c:Expr}{ta tb tc:TE}{pos:Pos}
end
section
variable {X:Cx}{a b c:Expr}{ta tb tc:TE}{pos:Pos}
end
end L2
namespace L2
open PySem PySem.Spec PyProof.Rows
section
variable {prog:Program}{w:World}{A:Around}{E:Value->Shared->Prop}{s:Shared}{K:PySem.W.Frag}{x dx C f:Addr}{mA:Str->Option Value}{name:Str}{v:Value}
end
section
variable {P:Program}{w:World}{H H':Hp}{h h':Heap}{a C dx:Addr}{fs fs':List (Str×V)}
end
section
variable {X:Cx}{pins:List (Addr×Obj)}{σ:St}{H:Hp}{s:Shared}{a C dx:Addr}{fs:List (Str×V)}{f:Str}{v:V}{A:Around}{E:Value->Shared->Prop}
end
section
variable {X:Cx}{o e value:Expr}{f:Str}{pos pos' tpos:Pos}{ta tv:TE}
end
section
variable {X:Cx}{pins:List (Addr×Obj)}{σ:St}{H:Hp}{s:Shared}{A:Around}{E:Value->Shared->Prop}{Q:Value->Shared->Prop}{c:Value}{b:Bool}
end
end L2
namespace L2
open PySem PySem.Spec PyProof.Rows
section
variable {X:Cx}{e:Expr}{es:List Expr}{te:TE}{t:TA}{pos:Pos}
end
section
variable {X:Cx}{pins:List (Addr×Obj)}{σ:St}{H:Hp}{s s':Shared}
end
section
variable {X:Cx}{CX:CXT}{k:Nat}{f C:Addr}{fd:FuncData}{ps:List Str}{sp:Sp}{dvs:List V}{ds:List Value}{E:XK}{x m:Str}{p pos apos:Pos}{e o:Expr}{es:List Expr}{ta:TE}{t:TA}
end
section
variable {X:Cx}{CX:CXT}{k:Nat}{f C:Addr}{fd:FuncData}{ps ks:List Str}{sp:Sp}{E:XK}{x m:Str}{p pos apos kpos:Pos}{e o:Expr}{es:List Expr}{kws:List Keyword}{te ta:TE}{t tk:TA}{nm:Option Str}
variable {g:List Value->List Value->List Value}{gV:List V->List V->List V}
end
end L2
namespace L2
open PySem PySem.Spec PyProof.Rows
section
variable {X:Cx}{x:Str}{p pos:Pos}{e:Expr}{es:List Expr}{t:TA}{id T:String}{r:List V->Hp->VK->Prop}
end
end L2
namespace L2
open PySem PySem.Spec PyProof.Rows
section
variable {κ:Type}[DecidableEq κ]
end
abbrev KT (H:Hp):List (List Key×V)->List (List Key×Addr×Value)->Prop:=Paired fun p q=>p.1=q.1∧H q.2.1=some (.tup (p.1.map kV))∧RelV p.2 q.2.2
section
variable {P:Program}{w:World}{H:Hp}{h:Heap}{a:Addr}
end
section
variable {X:Cx}{pins:List (Addr×Obj)}{σ:St}{H:Hp}{s:Shared}{a:Addr}{y v:V}{u r:Value}{o:Option V}{A:Around}{E:Value->Shared->Prop}
end
section
variable {X:Cx}{pins:List (Addr×Obj)}{σ:St}{H:Hp}{s:Shared}{a:Addr}{kvs:List (Key×V)}{k:Key}{u:Value}{A:Around}{E:Value->Shared->Prop}
end
section
variable {X:Cx}{o i e value:Expr}{pos pos' tpos:Pos}{td ty tv:TE}
end
section
variable {X:Cx}{pos:Pos}
end
set_option genInjectivity false in
structure M2 (X:Cx)(o:Expr)(m:Str)(apos:Pos)(e f:Expr)(cpos:Pos):Prop where
 base:attributeBase o m X.env (eval o X.env)=eval o X.env
 few:((backTo cpos (starEach [e,f] X.env)).all (fun x=>!x.1)&&(backToKw cpos (keywordEach [] X.env)).all (fun x=>x.1.isSome)
  && decide (([e,f]:List Expr).length+([]:List Keyword).length+(if ([]:List Keyword).isEmpty then 0 else 1)<30))=true
 line:(apos.endLine==cpos.line)=true
 trees:backTo cpos (starEach [e,f] X.env)=[(false,eval e X.env),(false,eval f X.env)]
section
variable {X:Cx}{pins:List (Addr×Obj)}{σ:St}{H:Hp}{s:Shared}{a:Addr}{y d:V}{u r:Value}{o:Option V}{A:Around}{E:Value->Shared->Prop}
end
section
variable {X:Cx}{o e f:Expr}{apos cpos:Pos}{td ty tx:TE}
end
section
variable {X:Cx}{pins:List (Addr×Obj)}{σ:St}{H:Hp}{s:Shared}{a:Addr}{kvs:List (Key×V)}{A:Around}{E:Value->Shared->Prop}
end
section
variable {X:Cx}{pins:List (Addr×Obj)}{σ:St}{H:Hp}{s:Shared}{a:Addr}{y:V}{u:Value}{A:Around}{E:Value->Shared->Prop}
end
end L2
namespace Att
open PySem PySem.W PySem.Calls PyProof.Rows
section
variable {prog:Program}{w:World}{A:Around}{E:Value->Shared->Prop}{s:Shared}{K:Frag}
end
end Att
namespace L2
open PySem PySem.Spec PyProof.Rows
end L2
namespace L2
open PySem PySem.Spec PyProof.Rows
end L2
namespace L2
open PySem PySem.Spec PyProof.Rows
section
variable {P:Program}{w:World}{K:PySem.W.Frag}{mg:Str->Option Value}{base:Heap}
end
section
variable {X:Cx}
end
section
variable {κ:Type}[DecidableEq κ]
end
end L2
namespace L2
open PySem PySem.Spec PyProof.Rows
namespace RT
def obj (x:Str)(t:Tok)(i:Int):Obj:={ cls:=.type "reversed",data:=.fields #[.str x t,rawInt i] }
def Is (h:Heap)(a:Addr)(x:Str)(t:Tok)(i:Int):Prop:=∃ o,h.get? a=some o∧o.cls = .type "reversed" ∧ o.data = .fields #[.str x t,rawInt i]
section
variable {prog:Program}{w:World}{A:Around}{E:Value->Shared->Prop}{s:Shared}
end
section
variable {prog:Program}{w:World}{A:Around}{E:Value->Shared->Prop}{s:Shared}
end
end RT
section
variable {X:Cx}
end
end L2
namespace L2
open PySem PySem.Spec PyProof.Rows
section
variable {X:Cx}
end
end L2
namespace L2
open PySem PySem.Spec PyProof.Rows
set_option genInjectivity false in
structure Cam (P:Program)(w:World)(K:PySem.W.Frag)(mg:Str->Option Value)(base:Heap)(CX:CXT)(x:Str)(C:Addr)(k:Nat)(ps:List Str)(sp:Sp):Prop where
 ex:∃ (f:Addr) (fd:FuncData),FnOk P w K mg base CX k f fd ps sp∧Mk K C f∧mg x=some (.ref C)∧Binds K fd ps []
section
variable {X:Cx}
theorem pe_mak {CX:CXT}{x:Str}{C:Addr}{j k:Nat}{ps:List Str}{sp:Sp}{E:XK}{e:Expr}{es:List Expr}{t:TA}{p pos:Pos}(c:Cam X.prog X.w X.K X.mg X.base CX x C j ps sp)(hr:Room k X.A)(hx:Passes CX X E)(ha:PA X (e::es) t)
  (hjk:j+1<=k:=by decide) (hg:Gl X x:=by rfl) (b1:(x==("__debug__" : Str))=false:=by decide) (b2:starEach (e::es) X.env=(false,eval e X.env)::starEach es X.env:=by rfl) (b3:(backTo pos (starEach es X.env)).any (·.1)=false:=by rfl) :
  PE X (.Call (.Name x p) (e::es) [] pos) (tMake C sp [] E t):=by
 obtain ⟨f,fd,F,M,hm,hb⟩:=c.ex
 exact pe_make M F (hr.mono hjk) hg hm hb .nil hx ha b1 b2 b3
end
end L2
namespace L2
open PySem PySem.Spec PyProof.Rows
section
variable {X:Cx}
def XPs (X:Cx)(pins:List (Addr×Obj))(σ:St)(R:Value->Hp->Prop)(e:Value)(s':Shared):Prop :=
 ∃ a cls H s1 H',e = .ref a∧Inv X pins σ H s1∧Fly X.prog X.w X.stack H s1 a cls H' s'∧R cls H'
abbrev TEx:=St->Hp->VK->(Value->Hp->Prop)->Prop
def PEx (X:Cx)(e:Expr)(t:TEx):Prop :=
 ∀ (pins:List (Addr×Obj)) (s:Shared) (σ:St) (H:Hp) (Q:VK) (R:Value->Hp->Prop),Inv X pins σ H s->t σ H Q R->wpAny (model X.prog X.w) X.A (eval e X.env) (EP X pins σ Q) (XPs X pins σ R) s
def txCal (sp:Sp)(t:TA):TEx:=fun σ H Q R=>t σ H fun vs H1=>sp vs H1 Q fun cls _ H2=>R cls H2
theorem pex_cal {x:Str}{j k:Nat}{ps:List Str}{sp:Sp}{e:Expr}{es:List Expr}{t:TA}{p pos:Pos}(c:Cal X.prog X.w X.K X.mg X.base (CX1 X.prog X.w) x j ps sp)(hr:Room k X.A)(ha:PA X.nox (e::es) t)
  (hjk:j<=k:=by decide) (hg:Gl X x:=by rfl) (b1:(x==("__debug__" : Str))=false:=by decide) (b2:starEach (e::es) X.env=(false,eval e X.env)::starEach es X.env:=by rfl) (b3:(backTo pos (starEach es X.env)).any (·.1)=false:=by rfl) :
  PEx X (.Call (.Name x p) (e::es) [] pos) (txCal sp t):=by
 intro pins s σ H Q R I q
 obtain ⟨f,fd,F,hm,hk,hb⟩:=c.ex
 refine wpAny_Call_Name_kw (ld_glob I hg hm ?_ b1)
 refine PySem.W.callWith_K (h₀:=X.base) I.ok.mod.kin hk (wpAny_mono (ha pos pins s σ H _ (I.wish _) q) (fun us s1 z=>?_) fun _ _ z=>False.elim z) b2 b3
 obtain ⟨vs,H1,I0,r,q1⟩:=z
 have I1:Inv X pins σ H1 s1:=I0.unwish
 refine ⟨I1.kIn,?_⟩
 have hl:us.length=ps.length:=by rw [<- r.length];exact F.len _ _ _ _ q1
 have hbt:=hb s1 us I1.kIn (by rw [List.append_nil];exact hl)
 rw [List.append_nil] at hbt
 refine wpAny_call (codeAny_mono (F.run X.A X.stack s1 H1 ⟨us,[]⟩ us vs _ _ (hr.mono hjk) I1.env0 hbt r q1) fun r' s' hq=>?_)
 cases r' with
 | error x' =>
  obtain ⟨a,cls,H',rfl,Y,q2⟩:=hq
  exact ⟨a,cls,H1,s1,H',rfl,I1,Y,q2⟩
 | ok fl =>
  cases fl with
  | ret u=>exact I1.after hq
  | next=>exact False.elim hq
  | brk=>exact False.elim hq
  | cont=>exact False.elim hq
def tySet (i:Nat)(t:TEx):TTy:=fun D R σ H=>t σ H (fun v H1=>D.nx (σ.set i (some v)) H1) fun cls H1=>R σ cls H1
theorem py_set {i:Nat}{x:Str}{e:Expr}{t:TEx}{pos pos':Pos}(hN:X.N.Nodup)(hi:X.N[i]?=some x)(hx:Loc X.env.scope x)(he:PEx X e t)(hs:swapsWith e (some (.Name x pos')) pos.line X.env=pure false:=by rfl)(hf:X.fn x=true∨X.env.scope.names.lookup x=some .local:=by first | exact .inl rfl | exact .inr rfl | assumption) :
  PTy X [.Assign [.Name x pos'] e pos] (tySet i t):=by
 intro pins s σ H D R I q
 refine wpAny_execs_cons (wpAny_Assign_Name (wpAny_mono (he pins s σ H _ _ I q) (fun v s1 ⟨y,H1,I1,r1,q1⟩=>?_) fun e' s1 z=>?_) hs)
 ·exact store_ok I1 hN hi hx r1 (fun s2 I2=>wpAny_execs_nil ⟨_,H1,I2,q1⟩) hf
 ·obtain ⟨a,cls,H1,s2,H',rfl,I2,Y,q2⟩:=z
  exact ⟨a,cls,σ,H1,s2,H',rfl,I2,Y,q2⟩
end
namespace SE
section
variable {prog:Program}{w:World}{A:Around}{E:Value->Shared->Prop}{s:Shared}
theorem call_ofTu {l:Addr}{its:Array Value}{ls:List (List Nat)}{Q:Value->Shared->Prop}(hh:A.handled=none)(hl:s.heap.IsTuple l its)(hv:∀ i v,its[i]?=some v->∃ t,v=Value.str (tx (ls.getD i [])) t)(hn:its.size+1<scanBound)
  (h:∀ (h':Heap) (tk:Nat),Has prog w h' s.heap.objs.size (nubTo ls its.size)->(∀ b o,s.heap.get? b=some o->h'.get? b=some o)->Q (.ref s.heap.objs.size) { s with heap:=h',toks:=tk }) :
  wpAny (model prog w) A (call (.type "set") [.ref l]) Q E s:=by
 obtain ⟨mc,mt,f0⟩:=F.called_set.mro
 have f1:=F.called_set.made;have f2:=F.called_set.sub;have f3:=F.called_set.notType;have f4:=F.called_set.canCreate;have f5:=F.typeCall_set_1 (.ref l)
 refine wpAny_call (codeAny_of_tree (show wpAny _ _ (callAny (.type "set") _) _ _ _ from wpAny_pure ⟨Code.quiet_builtin _ (by decide +kernel),codeAny_builtin F.entry_type_call ?_⟩))
 rw [Around.under_plain (weight_type_call_type "set" [.ref l] []) rfl]
 repeat (any_goals (first | wp_step | assumption))
 refine codeAny_mono (code_set_new_1 (.ref l) (E:=E) (Q₁:=fun ob s1=>∃ b:Bool,ob = .ref s.heap.objs.size∧s1 = { s with heap:=s.heap.push { cls:=.type "set",dict:=none,data:=.set #[] 0 (.fresh 0 0 b) } }) fun b=>⟨b,rfl,rfl⟩) fun r s1 hr=>?_
 cases r with
 | error e=>exact hr
 | ok fl =>
  cases fl with
  | ret ob =>
   obtain ⟨b,rfl,rfl⟩:=hr
   generalize hob:({ cls:=.type "set",dict:=none,data:=.set #[] 0 (.fresh 0 0 b) }:Obj)=ob
   have hD:(s.heap.push ob).get? s.heap.objs.size=some ob:=Heap.get?_push_size _ (by rw [<- hob];rfl)
   have hT:Shared.TypeIs { s with heap:=s.heap.push ob } (.ref s.heap.objs.size) "set" := ⟨_,hD,by rw [<- hob]⟩
   have f6:=F.called_set.init.lookup;have f7:=F.called_set.init.bind (.ref s.heap.objs.size)
   repeat (any_goals (first | wp_step | assumption))
   refine codeAny_mono (codeAny_call_builtin (R:=wants (fun r s2=>r = .none∧∃ h' tk,s2 = { s with heap:=h',toks:=tk }∧Has prog w h' s.heap.objs.size (nubTo ls its.size)∧∀ b o,s.heap.get? b=some o->h'.get? b=some o) E)
    F.called_set.init.plain F.entry_set_init (check_set_init_1 hT ?_)) fun r2 s2 hr2=>?_
   ·obtain ⟨⟨oc,od,odt,osl⟩,hol,hcl,nl,hdl⟩:=id hl
    simp only at hcl hdl
    subst hcl hdl
    have hol':(s.heap.push ob).get? l=some { cls:=.type "tuple",dict:=od,data:=.seq its nl,slots:=osl }:=Heap.get?_push_of_some _ hol
    have f8:=F.sub_tuple_set;have f9:=F.sub_tuple_frozenset
    have f10:(Value.type "tuple" == Value.type "dict")=false:=by decide
    have hl1:(s.heap.push ob).IsTuple l its:=⟨_,hol',rfl,nl,rfl⟩
    subst hob
    unfold Builtin.«set.__init__» noKeywords Builtin.Frozenset.updateFrom
    generalize hPI:pyIter=PI
    wp_walk
    subst hPI
    refine wpAny_pyIter_tuple hl1 ?_
    refine wpAny_bind (wpAny_runValue ?_)
    have hlt:l<s.heap.objs.size:=Heap.lt_size hol
    have hh3:A.in1.in1.in1.handled=none:=by simp [hh]
    have hsz:(s.heap.push { cls:=.type "set",dict:=none,data:=.set #[] 0 (.fresh 0 0 b) }).objs.size=s.heap.objs.size+1:=Heap.size_push _ _
    have hne:l≠(s.heap.push { cls:=.type "set",dict:=none,data:=.set #[] 0 (.fresh 0 0 b) }).objs.size:=by rw [hsz];exact Nat.ne_of_lt (Nat.lt_succ_of_lt hlt)
    have hfp:s.heap.objs.size∉[(s.heap.push { cls:=.type "set",dict:=none,data:=.set #[] 0 (.fresh 0 0 b) }).objs.size,l]:=by
     rw [hsz]
     intro z
     rcases List.mem_cons.mp z with e | e
     ·exact Nat.ne_of_lt (Nat.lt_succ_self _) e
     ·exact Nat.ne_of_gt hlt (List.mem_singleton.mp e)
    refine loop ((Walks.tuple hh3 _ l hne its).toS) (D:=s.heap.objs.size) hfp ls hv hn (its.size-0) 0 _ (by omega) (Nat.zero_le _) ⟨⟨_,Heap.get?_push_size _ rfl,rfl,rfl⟩,hl1.push _⟩ ?_ fun s3 mv x3=>?_
    ·have hg:((s.heap.push { cls:=.type "set",dict:=none,data:=.set #[] 0 (.fresh 0 0 b) }).push { cls:=.type "tuple_iterator",data:=.fields #[.ref l,.int 0 0] }).get? s.heap.objs.size=some { cls:=.type "set",dict:=none,data:=.set #[] 0 (.fresh 0 0 b) }:=Heap.get?_push_of_some _ hD
     exact PyProof.Rows.SetOf_congr ((PyProof.Rows.setObjOf_fresh (knd:=PySem.strKind prog w) b).setOf hg (by unfold scanBound;omega)) (fun _=>rfl) rfl
    ·obtain ⟨h3,g3,d3,tk3,os3⟩:=s3
     obtain rfl:g3=s.gens:=mv.gens
     obtain rfl:d3=s.drawn:=mv.drawn
     obtain rfl:os3=s.os:=mv.os
     refine wpAny_pure (show wpAny _ _ (ret Value.none) _ _ _ from wpAny_pure ⟨rfl,h3,tk3,rfl,x3,fun c o e=>?_⟩)
     have hc:=Heap.lt_size e
     exact mv.heap c o (show c∉[s.heap.objs.size,(s.heap.push { cls:=.type "set",dict:=none,data:=.set #[] 0 (.fresh 0 0 b) }).objs.size] by
      rw [hsz]
      intro z
      rcases List.mem_cons.mp z with e | e
      ·exact Nat.ne_of_lt hc e
      ·exact Nat.ne_of_lt (Nat.lt_succ_of_lt hc) (List.mem_singleton.mp e)) (Heap.get?_push_of_some _ (Heap.get?_push_of_some _ e))
   ·cases r2 with
    | error e=>exact hr2
    | ok fl2 =>
     cases fl2 with
     | ret r =>
      obtain ⟨rfl,h3,tk,rfl,x3,k3⟩:=hr2
      repeat (any_goals (first | wp_step | assumption))
      exact h _ _ x3 k3
     | _=>exact hr2.elim
  | _=>exact hr.elim
end
end SE
section
variable {X:Cx}
theorem call_setTu (hc:X.calm=true):CallR X (.type "set") (fun xs H Q=>∃ (p:Addr) (ls:List (List Nat)),xs=[.ref p]∧SqT X.K H p (ls.map T)∧ls.length+1<4096∧∀ D,H D=none->Q (.ref D) (upd H D (SetT X.prog X.w D (uniq ls)))):=by
 intro pins s σ H xs us Q I r h
 obtain ⟨p,ls,rfl,hq,hz,q⟩:=h
 obtain ⟨u,rfl,ru⟩:=vals1 r
 cases ru
 obtain ⟨its,rv,pl,_⟩:=I.tuple hq
 have hlen:=rv.length
 rw [List.length_map] at hlen
 refine SE.call_ofTu (I.ok.hd hc) pl (ls:=ls) (fun i v e=>str_at rv (by simpa using e)) (by rw [List.size_toArray];unfold scanBound;omega) fun h' tk x k=>?_
 have e:nubTo ls its.toArray.size=uniq ls:=by rw [List.size_toArray,<- hlen];rfl
 rw [e] at x
 have hf:H s.heap.objs.size=none:=I.hok.fresh (Nat.le_refl _)
 refine ⟨.ref s.heap.objs.size,_,I.laid (t':=tk) k (Nat.le_refl _) (o:=SetT X.prog X.w s.heap.objs.size (uniq ls)) ?_,rfl,q _ hf⟩
 refine ⟨x,?_,fun h1 h2 x1 kk=>x1.at kk⟩
 obtain ⟨o,_,_,_,ho,_⟩:=x
 exact ⟨o,ho⟩
end
end L2
namespace ST
open PySem PySem.SetTable
def it (M:Nat):Nat->Nat->Nat
 | 0,i=>i
 | s+1,i=>it M s ((i*5+1) % M)
def vals (N:Nat)(f:Nat->Option Nat):List Nat:=(List.range N).filterMap f
def Good (mask:Nat)(owner:Array (Option Nat))(k:Nat):Prop:=owner.size=mask+1∧(vals (mask+1) fun j=>owner.getD j none).Perm (List.range k)
end ST
namespace SS
open PySem PyProof.Rows
def byT (w:World):Bool:=w.params.followText "set-order"
def keyV:Value->Str
 | .str x _=>x
 | _=>Str.empty
def El (w:World)(e:Int×Value):Prop:=e.1=hashStr w (keyV e.2)∧∃ t,e.2 = .str (keyV e.2) t
def Els (w:World)(es:List (Int×Value))(ms:List Str):Prop:=(∀ e∈es,El w e)∧(es.map fun e=>keyV e.2).Perm ms
def Is (w:World)(h:Heap)(a:Addr)(ms:List Str):Prop :=
 ∃ o es ep t,h.get? a=some o∧o.ExactSet∧o.data = .set es ep t∧Els w es.toList ms∧ms.Nodup∧es.size<scanBound∧t.fits es.size=true∧(byT w=true∨t.led=true)∧(es.size=0∨t.plain=false)
section
variable {prog:Program}{w:World}{A:Around}{E:Value->Shared->Prop}{s:Shared}
end
end SS
namespace SS
open PySem PyProof.Rows
section
variable {prog:Program}{w:World}{A:Around}{E:Value->Shared->Prop}{s:Shared}
end
end SS
namespace SS
open PySem PyProof.Rows
section
variable {prog:Program}{w:World}{A:Around}{E:Value->Shared->Prop}{s:Shared}
end
end SS
namespace SS
open PySem PyProof.Rows
def It (h:Heap)(I a:Addr)(first:Value)(i n ep:Nat):Prop:=∃ o,h.get? I=some o∧o.cls = .type "set_iterator" ∧ o.data = .fields #[first,rawInt (i:Int),.ref a,rawInt (n:Int),rawInt (ep:Int)]
section
variable {prog:Program}{w:World}{A:Around}{E:Value->Shared->Prop}{s:Shared}
end
end SS
namespace SS
open PySem PyProof.Rows
section
variable {prog:Program}{w:World}{A:Around}{E:Value->Shared->Prop}{s:Shared}
end
end SS
namespace SS
open PySem PyProof.Rows
section
variable {prog:Program}{w:World}{A:Around}{E:Value->Shared->Prop}{s:Shared}
end
end SS
namespace SS
open PySem PyProof.Rows
section
variable {prog:Program}{w:World}{A:Around}{E:Value->Shared->Prop}{s:Shared}
end
end SS
namespace L2
open PySem PySem.Spec PyProof.Rows
namespace SE
section
variable {prog:Program}{w:World}{A:Around}{R:Result->Shared->Prop}{J:Addr}{fp wr:List Addr}{G:Array GenState->Array GenState->Prop}{n:Nat}{P:Nat->Value->Prop}{St:Nat->Shared->Prop}
variable {E:Value->Shared->Prop}{s:Shared}
end
end SE
section
variable {X:Cx}
end
end L2
namespace L2
open PySem PySem.Spec PyProof.Rows
set_option genInjectivity false in
structure Reads (J:It)(H:Hp)(vs:List V):Prop where
 go:∀ i H',Same H H'->i<vs.length->J.go i H'
 yl:∀ i H' y H2,Same H H'->J.yld i H' y H2->H2=H'∧vs[i]?=some y
 st:∀ H',Same H H'->J.stop vs.length H'
theorem reads_list {K:PySem.W.Frag}{a:Addr}{H:Hp}{vs:List V}(h:SqL K H a vs):Reads (Itl K a) H vs :=
 ⟨fun i H' s hi=>⟨vs,vs[i],s.seq h,List.getElem?_eq_getElem hi⟩,fun i H' y H2 s ⟨e1,e2⟩=>⟨e1,e2 vs (s.seq h)⟩,fun H' s=>⟨vs,s.seq h,Nat.le_refl _⟩⟩
theorem tupOn {K:PySem.W.Frag}{H H':Hp}{p:Addr}{xs:List V}(s:Same H H')(h:SqT K H p xs):SqT K H' p xs:=by
 rcases h with (h | ⟨q,h⟩) | h
 ·exact .inl (.inl (s _ _ h))
 ·exact .inl (.inr ⟨q,s _ _ h⟩)
 ·exact .inr h
theorem reads_tup {K:PySem.W.Frag}{a:Addr}{H:Hp}{vs:List V}(h:SqT K H a vs):Reads (Itt K a) H vs :=
 ⟨fun i H' s hi=>⟨vs,vs[i],tupOn s h,List.getElem?_eq_getElem hi⟩,fun i H' y H2 s ⟨e1,e2⟩=>⟨e1,e2 vs (tupOn s h)⟩,fun H' s=>⟨vs,tupOn s h,Nat.le_refl _⟩⟩
theorem reads_text {l:List Nat}{H:Hp}:Reads (Itx l) H ((l.map fun c=>[c]).map T) :=
 ⟨fun i H' _ hi=>by (show i<l.length;simpa using hi),fun i H' y H2 _ ⟨e1,c,hc,e2⟩=>⟨e1,by rw [List.getElem?_map,List.getElem?_map,hc,e2];rfl⟩,fun H' _=>by show l.length<=_;simp⟩
theorem compG {J:It}{vs:List V}{te:TE}{σ:St}{H:Hp}{Q:VK}(f:V->V)(rd:Reads J H vs)(hn:vs.length<=sizeLine)
  (he:∀ x H',x∈vs->Same H H'->∀ N:V->Hp->Prop,(∀ H'',Same H' H''->N (f x) H'')->te (some x::σ) H' N)
  (hq:∀ D H',H D=none->Same H H'->H' D=some (.lst (vs.map f))->Q (.ref D) H'):compAt te σ Q J H:=by
 intro D hD
 refine ⟨fun i m ys H2=>m=vs.length-i∧i<=vs.length∧ys=(vs.take i).map f∧Same H H2∧H2 D=some (.lst ys),⟨vs.length,rfl,Nat.zero_le _,rfl,fun b o e=>?_,upd_same⟩,?_⟩
 ·rw [upd_ne (ne_of_none e hD)]
  exact e
 ·rintro i m ys H2 ⟨rfl,hi,rfl,hs,hd⟩
  by_cases hlt:i<vs.length
  ·have hx:vs[i]?=some vs[i]:=List.getElem?_eq_getElem hlt
   refine .inr ⟨rd.go i H2 hs hlt,by rw [List.length_map,List.length_take];omega,fun v H'=>v=f vs[i]∧Same H2 H',fun v H' ⟨ev,hs'⟩=>⟨hs' D _ hd,vs.length-(i+1),by omega,rfl,hlt,?app,fun b o e=>?kp,upd_same⟩,fun y H' hy=>?stp⟩
   case app =>
    rw [ev,List.take_add_one,hx,List.map_append]
    rfl
   case kp =>
    rw [upd_ne (ne_of_none e hD)]
    exact hs' b o (hs b o e)
   case stp =>
    obtain ⟨rfl,e2⟩:=rd.yl i H2 y H' hs hy
    have e4:y=vs[i]:=by rw [hx] at e2;exact (Option.some.inj e2).symm
    subst e4
    exact he _ _ (List.getElem_mem hlt) hs _ fun H'' h''=>⟨rfl,h''⟩
  ·have e:i=vs.length:=by omega
   subst e
   rw [List.take_length] at hd
   exact .inl ⟨rd.st H2 hs,hq D H2 hD hs hd⟩
theorem compFG {J:It}{vs:List V}{tc:TT}{te:TE}{σ:St}{H:Hp}{Q:VK}(p:V->Bool)(f:V->V)(rd:Reads J H vs)(hn:vs.length<=sizeLine)
  (ht:∀ x H',x∈vs->Same H H'->∀ N:Bool->Hp->Prop,(∀ H'',Same H' H''->N (p x) H'')->tc (some x::σ) H' N)
  (he:∀ x H',x∈vs->p x=true->Same H H'->∀ N:V->Hp->Prop,(∀ H'',Same H' H''->N (f x) H'')->te (some x::σ) H' N)
  (hq:∀ D H',H D=none->Same H H'->H' D=some (.lst ((vs.filter p).map f))->Q (.ref D) H'):compAtF tc te σ Q J H:=by
 intro D hD
 refine ⟨fun i m ys H2=>m=vs.length-i∧i<=vs.length∧ys=((vs.take i).filter p).map f∧Same H H2∧H2 D=some (.lst ys),⟨vs.length,rfl,Nat.zero_le _,rfl,fun b o e=>?_,upd_same⟩,?_⟩
 ·rw [upd_ne (ne_of_none e hD)]
  exact e
 ·rintro i m ys H2 ⟨rfl,hi,rfl,hs,hd⟩
  by_cases hlt:i<vs.length
  ·have hx:vs[i]?=some vs[i]:=List.getElem?_eq_getElem hlt
   refine .inr ⟨rd.go i H2 hs hlt,by have:=filter_take_len p vs i;rw [List.length_map];omega,fun v H'=>v=f vs[i]∧p vs[i]=true∧Same H2 H',fun v H' ⟨ev,hp,hs'⟩=>⟨hs' D _ hd,vs.length-(i+1),by omega,rfl,hlt,?app,fun b o e=>?kp,upd_same⟩,
    fun H'=>p vs[i]=false∧Same H2 H',fun H' ⟨hp,hs'⟩=>⟨vs.length-(i+1),by omega,rfl,hlt,?skp,fun b o e=>hs' b o (hs b o e),hs' D _ hd⟩,fun y H' hy=>?stp⟩
   case app =>
    rw [ev,take_filter p vs i _ hx,hp,List.map_append]
    rfl
   case kp =>
    rw [upd_ne (ne_of_none e hD)]
    exact hs' b o (hs b o e)
   case skp =>
    rw [take_filter p vs i _ hx,hp]
    simp
   case stp =>
    obtain ⟨rfl,e2⟩:=rd.yl i H2 y H' hs hy
    have e4:y=vs[i]:=by rw [hx] at e2;exact (Option.some.inj e2).symm
    subst e4
    refine ht _ _ (List.getElem_mem hlt) hs _ fun H'' h''=>?_
    by_cases hp:p vs[i]=true
    ·rw [if_pos hp]
     exact he _ _ (List.getElem_mem hlt) hp (hs.trans h'') _ fun H3 h3=>⟨rfl,hp,h''.trans h3⟩
    ·rw [if_neg hp]
     exact ⟨by simpa using hp,h''⟩
  ·have e:i=vs.length:=by omega
   subst e
   rw [List.take_length] at hd
   exact .inl ⟨rd.st H2 hs,hq D H2 hD hs hd⟩
def unT:V->List Nat
 | .str x=>x.cps.toList
 | _=>[]
theorem unT_T (l:List Nat):unT (T l)=l:=tx_cps l
section
variable {X:Cx}
end
theorem map_unT {f:List Nat->V}(ls:List (List Nat)):(ls.map T).map (fun x=>f (unT x))=ls.map f:=by
 rw [List.map_map]
 exact List.map_congr_left fun l _=>by show f (unT (T l))=f l;rw [unT_T]
end L2
namespace SS
open PySem PyProof.Rows L2
section
variable {prog:Program}{w:World}{A:Around}{E:Value->Shared->Prop}{s:Shared}
end
end SS
namespace L2
open PySem PyProof.Rows
section
variable {X:Cx}
end
end L2
namespace L2
open PySem PyProof.Rows PySem.Spec
namespace SE
section
variable {prog:Program}{w:World}{A:Around}{E:Value->Shared->Prop}{s:Shared}
end
end SE
section
variable {X:Cx}
end
end L2
namespace L2
open PySem PyProof.Rows PySem.Spec
section
variable {X:Cx}
end
end L2
namespace L2
open PySem PyProof.Rows PySem.Spec
section
variable {X:Cx}
end
end L2
namespace L2
open PySem PyProof.Rows PySem.Spec
section
variable {X:Cx}{pins:List (Addr×Obj)}{σ:List (Option V)}{H H':Hp}{s:Shared}{h':Heap}
theorem Inv.turnedL {t':Nat}{ch:List Addr}(I:Inv X pins σ H s)(k:∀ b o,b∉ch->s.heap.get? b=some o->h'.get? b=some o)(hf:∀ b∈ch,FpOk X pins H b):Inv X pins σ H { s with heap:=h',toks:=t' }:=by
 have nit:∀ b u,H b=some u->b∉ch:=fun b u e z=>by rw [(hf b z).1] at e;cases e
 refine I.step (g':=s.gens) (d':=s.drawn) (ch:=ch) (fun b hb=>?_) (fun b o _ _ hc e _=>k b o hc e) (fun b o _ _ hc e _=>⟨o.slots,k b o hc e⟩) (fun _ _ _ _ n=>n)
  (fun b o hc e=>⟨o,k b o hc e⟩) (fun _ _ e=>e) (fun _ _ _ e=>e) (fun b ps e=>⟨#[],by rw [e];simp⟩) (fun m hm=>?_) (fun b u e=>?_) I.bare
 ·obtain ⟨f0,f1,f2,f3,f4,f5⟩:=hf b hb
  exact ⟨f3,f1,f4,f5⟩
 ·obtain ⟨o,es,ep,ho,r⟩:=hm
  exact ⟨o,es,ep,k _ o (fun z=>(hf _ z).2.1 rfl) ho,r⟩
 ·refine (I.hok b u e).stay (fun c v hc q=>k c v ?_ q) (fun _ q=>q) fun _ _ q=>q
  rcases hc with z | z
  ·rw [z];exact nit b u e
  ·exact nit c _ z
end
def Itz (K:PySem.W.Frag)(a b:Addr):It :=
 ⟨fun i H=>∃ xs ys x y,SqL K H a xs∧SqL K H b ys∧xs[i]?=some x∧ys[i]?=some y,
  fun i H x H'=>∃ (T:Addr) (u v:V),x = .ref T∧H T=none∧H'=upd H T (.tup [u,v])∧(∀ xs,SqL K H a xs->xs[i]?=some u)∧∀ ys,SqL K H b ys->ys[i]?=some v,
  fun i H=>∃ xs ys,SqL K H a xs∧SqL K H b ys∧(xs.length<=i∨ys.length<=i)⟩
theorem turn_zip {P:Program}{w:World}{K:PySem.W.Frag}{elts:List Expr}{x1}{pos:Pos}{a b z TI TO i1 i2:Addr}(D:ZipApart z TI TO i1 i2 a b) :
  Turn P w K (.Tuple elts x1 pos) (Itz K a b) [z,TI,TO,i1,i2] z (fun i h=>IsZip h z TI TO .none∧IsPair h TI (.ref i1) (.ref i2)∧(∃ u v,IsPair h TO u v)∧h.IsListIter i1 a i∧h.IsListIter i2 b i) where
 mem:=by simp
 obj:=fun i h st c hc=>by
  obtain ⟨h1,h2,⟨u,v,h3⟩,⟨o4,e4,c4,d4⟩,⟨o5,e5,c5,d5⟩⟩:=st
  simp only [List.mem_cons,List.not_mem_nil,or_false] at hc
  rcases hc with rfl | rfl | rfl | rfl | rfl
  ·exact ⟨_,h1,fun v z=>by cases z⟩
  ·exact ⟨_,h2,fun v z=>by cases z⟩
  ·exact ⟨_,h3,fun v z=>by cases z⟩
  ·exact ⟨_,e4,fun v z=>by rw [d4] at z;cases z⟩
  ·exact ⟨_,e5,fun v z=>by rw [d5] at z;cases z⟩
 keep:=fun i h h' st k=>by
  obtain ⟨h1,h2,⟨u,v,h3⟩,h4,h5⟩:=st
  exact ⟨k z (by simp) _ h1,k TI (by simp) _ h2,⟨u,v,k TO (by simp) _ h3⟩,h4.at fun o e=>k i1 (by simp) o e,h5.at fun o e=>k i2 (by simp) o e⟩
 item:=by
  intro X hP hw hK hc i pins s σ H E I hf st hg
  subst hP hw hK
  obtain ⟨xs,ys,x,y,hq1,hq2,hx,hy⟩:=hg
  obtain ⟨its,rv,p,hz⟩:=I.list hq1
  obtain ⟨its2,rv2,p2,hz2⟩:=I.list hq2
  obtain ⟨u,hu,ru⟩:=rv.get hx
  obtain ⟨v,hv,rv'⟩:=rv2.get hy
  obtain ⟨h1,h2,⟨c1,c2,h3⟩,h4,h5⟩:=st
  refine wpAny_pyNext_zip_item D h1 h2 h3 h4 h5 p.isList p2.isList (x:=u) (y:=v) (by simpa using hu) (by simpa using hv) fun h' z1 z2 z3 z4 z5 z6 z7=>?_
  refine ⟨_,rfl,wpAny_letOwnedTupleGo_zip (s:={ s with heap:=h' }) z1 fun h'' y1 y2=>?_⟩
  have hT:H s.heap.objs.size=none:=I.hok.fresh (Nat.le_refl _)
  have I1:Inv X pins σ (upd H s.heap.objs.size (.tup [x,y])) { s with heap:=s.heap.push { cls:=.type "tuple",data:=.seq #[u,v] },toks:=s.toks } :=
   I.laid (t':=s.toks) (fun b u e=>Heap.get?_push_of_some _ e) (Nat.le_refl _) ⟨(by show 2<=sizeLine;rw [sizeLine_eq];decide),[u,v],.cons ru (.cons rv' .nil),⟨_,Heap.get?_push_size _ rfl,rfl,_,rfl⟩⟩
  have nf:∀ c∈[z,TI,TO,i1,i2],c≠s.heap.objs.size:=fun c hc e=>by
   have lt:∃ o,s.heap.get? c=some o:=by
    obtain ⟨o4,e4,_⟩:=id h4
    obtain ⟨o5,e5,_⟩:=id h5
    simp only [List.mem_cons,List.not_mem_nil,or_false] at hc
    rcases hc with rfl | rfl | rfl | rfl | rfl
    ·exact ⟨_,h1⟩
    ·exact ⟨_,h2⟩
    ·exact ⟨_,h3⟩
    ·exact ⟨_,e4⟩
    ·exact ⟨_,e5⟩
   obtain ⟨o,ho⟩:=lt
   have:=Heap.lt_size ho
   rw [e] at this
   exact Nat.lt_irrefl _ this
  have hf1:∀ c∈[z,TI,TO,i1,i2],FpOk X pins (upd H s.heap.objs.size (.tup [x,y])) c:=fun c hc=>by
   obtain ⟨f0,f⟩:=hf c hc
   exact ⟨by rw [upd_ne (nf c hc)];exact f0,f⟩
  have I2:Inv X pins σ (upd H s.heap.objs.size (.tup [x,y])) { s with heap:=h'',toks:=s.toks } :=
   Inv.turnedL (s:={ s with heap:=s.heap.push { cls:=.type "tuple",data:=.seq #[u,v] },toks:=s.toks }) (t':=s.toks) (ch:=[z,TI,TO,i1,i2]) I1 (fun b o hb e=>by
    simp only [List.mem_cons,List.not_mem_nil,or_false,not_or] at hb
    obtain ⟨b1,b2,b3,b4,b5⟩:=hb
    refine (y2.2 b b1).trans ?_
    rcases Heap.get?_push_cases e with ⟨rfl,rfl⟩ | e
    ·exact z5
    ·exact z7 b o b1 b3 b4 b5 e) hf1
  refine ⟨.ref s.heap.objs.size,_,I2,rfl,⟨s.heap.objs.size,x,y,rfl,hT,rfl,fun zs hzs=>by rw [I.list_inj hzs hq1];exact hx,fun zs hzs=>by rw [I.list_inj hzs hq2];exact hy⟩,⟨y1,?_,⟨u,v,?_⟩,?_,?_⟩,fun c hc=>(hf1 c hc).1⟩
  ·exact (y2.2 TI D.TIz).trans (z7 TI _ D.TIz D.TITO D.TIi1 D.TIi2 h2)
  ·exact (y2.2 TO D.TOz).trans z2
  ·exact z3.at fun o e=>(y2.2 i1 D.i1z).trans e
  ·exact z4.at fun o e=>(y2.2 i2 D.i2z).trans e
 done:=by
  intro X hP hw hK hc i pins s σ H E I hf st hg
  subst hP hw hK
  obtain ⟨xs,ys,hq1,hq2,hl⟩:=hg
  obtain ⟨its,rv,p,hz⟩:=I.list hq1
  obtain ⟨its2,rv2,p2,hz2⟩:=I.list hq2
  obtain ⟨h1,h2,⟨c1,c2,h3⟩,h4,h5⟩:=st
  have l1:=rv.length
  have l2:=rv2.length
  refine wpAny_pyNext_zip_end (I.ok.hd hc) D h1 h2 h3 h4 h5 p.isList p2.isList ?_ fun h' kk=>⟨rfl,?_⟩
  ·rcases hl with g | g
   ·exact .inl (by simp;omega)
   ·exact .inr (by simp;omega)
  ·exact I.turnedL (t':=s.toks) (ch:=[z,TI,TO,i1,i2]) (fun b o hb e=>by
    simp only [List.mem_cons,List.not_mem_nil,or_false,not_or] at hb
    obtain ⟨b1,b2,b3,b4,b5⟩:=hb
    exact kk b o b1 b3 b4 b5 e) hf
 self:=fun _ _ _ _ _ st h=>wpAny_pyIter_zip st.1 h
section
variable {X:Cx}
def iZip (K:PySem.W.Frag)(ta:TA):TI:=fun σ H R=>ta σ H fun xs H1=>∃ a b:Addr,xs=[.ref a,.ref b]∧(∃ us,SqL K H1 a us)∧(∃ vs,SqL K H1 b vs)∧R (Itz K a b) H1
theorem pi_zip {a b:Expr}{ta:TA}{p pos pos':Pos}{elts:List Expr}{x1}(hg:Gl X "zip")(hm:X.mg "zip" = none)(ha:PA X [a,b] ta)(hs:starEach [a,b] X.env=[(false,eval a X.env),(false,eval b X.env)]:=by rfl)(hs2:starEach [b] X.env=[(false,eval b X.env)]:=by rfl) :
  PI X (.Tuple elts x1 pos') (.Call (.Name "zip" p) [a,b] [] pos) (iZip X.K ta):=by
 intro pins s σ H R I h
 refine Call_ (ld_blt I hg hm boot_zip (PyProof.Rows.callWith_type1 (thn (ha pos pins s σ H _ I h) fun us s1 ⟨vs,H1,I1,r1,q1⟩=>?_) (by rw [hs,hs2]) (by rw [hs2];rfl)))
 obtain ⟨l1,l2,e,⟨us1,hq1⟩,⟨us2,hq2⟩,q⟩:=q1
 subst e
 cases r1 with
 | cons r rr =>
  cases rr with
  | cons r' rr =>
   cases rr
   cases r
   cases r'
   obtain ⟨its,rv,p,hz⟩:=I1.list hq1
   obtain ⟨its2,rv2,p2,hz2⟩:=I1.list hq2
   obtain ⟨o1,ho1,_⟩:=id p.isList
   obtain ⟨o2,ho2,_⟩:=id p2.isList
   refine call_zip_2 p.isList p2.isList fun h' z1 z2 z3 z4 z5 z6 z7=>?_
   refine wpAny_pyIter_zip (s:={ s1 with heap:=h' }) z1 ?_
   have fr:∀ c,s1.heap.objs.size<=c->FpOk X pins H1 c:=fun c hc=>I1.fpOk hc (I1.hok.fresh hc)
   refine ⟨s1.heap.objs.size+4,[s1.heap.objs.size+4,s1.heap.objs.size+2,s1.heap.objs.size+3,s1.heap.objs.size,s1.heap.objs.size+1],_,_,H1,rfl,I1.kept (t':=s1.toks) z7,turn_zip (zipApart_new (Heap.lt_size ho1) (Heap.lt_size ho2)),⟨z1,z2,⟨_,_,z3⟩,z4,z5⟩,fun c hc=>fr c ?_,q⟩
   simp only [List.mem_cons,List.not_mem_nil,or_false] at hc
   rcases hc with rfl | rfl | rfl | rfl | rfl
   ·exact Nat.le_add_right _ _
   ·exact Nat.le_add_right _ _
   ·exact Nat.le_add_right _ _
   ·exact Nat.le_refl _
   ·exact Nat.le_add_right _ _
theorem for_zip {K:PySem.W.Frag}{a b:Addr}{xs ys:List V}{g:TG}{tb:TS}{D:Ends}{σ:St}{H:Hp}(Pv:Nat->St->Hp->Prop)(h0:Pv 0 σ H)(he:xs.length=ys.length)(hl:∀ i σ H,i<=xs.length->Pv i σ H->SqL K H a xs∧SqL K H b ys)
  (hs:∀ i x y T σ H,xs[i]?=some x->ys[i]?=some y->H T=none->Pv i σ H->g (.ref T) σ (upd H T (.tup [x,y])) fun σ2 H2=>tb { D with nx:=Pv (i+1),ct:=Pv (i+1),bk:=D.nx } σ2 H2) (hd:∀ σ H,Pv xs.length σ H->D.nx σ H) :
  ∃ W:Nat->Nat->St->Hp->Prop,(∃ m,W 0 m σ H)∧∀ i m σ H,W i m σ H ->
   ((Itz K a b).stop i H∧D.nx σ H)∨((Itz K a b).go i H∧∃ N:St->Hp->Prop,(∀ σ' H',N σ' H'->∃ m',m'<m∧W (i+1) m' σ' H')∧∀ x H',(Itz K a b).yld i H x H'->g x σ H' fun σ2 H2=>tb { D with nx:=N,ct:=N,bk:=D.nx } σ2 H2):=by
 refine ⟨fun i m σ H=>m=xs.length-i∧i<=xs.length∧Pv i σ H,⟨xs.length,by simp,Nat.zero_le _,h0⟩,?_⟩
 rintro i m σ H ⟨rfl,hi,p⟩
 obtain ⟨q1,q2⟩:=hl i σ H hi p
 by_cases hlt:i<xs.length
 ·refine .inr ⟨⟨xs,ys,xs[i],ys[i]'(by omega),q1,q2,by simp [hlt],by rw [List.getElem?_eq_getElem]⟩,Pv (i+1),fun σ' H' p'=>⟨xs.length-(i+1),by omega,rfl,hlt,p'⟩,fun x H' y=>?_⟩
  obtain ⟨T,u,v,rfl,hT,rfl,y1,y2⟩:=y
  exact hs i u v T σ _ (y1 xs q1) (y2 ys q2) hT p
 ·have e:i=xs.length:=by omega
  subst e
  exact .inl ⟨⟨xs,ys,q1,q2,.inl (Nat.le_refl _)⟩,hd σ H p⟩
end
end L2
namespace L2
open PySem PyProof.Rows PySem.Spec
end L2
namespace L2
open PySem PyProof.Rows PySem.Spec
namespace ZS
section
variable {prog:Program}{w:World}{A:Around}{E:Value->Shared->Prop}{s:Shared}
end
end ZS
section
variable {X:Cx}
end
end L2
namespace L2
open PySem PyProof.Rows PySem.Spec
section
variable {X:Cx}
end
end L2
namespace L2
open PySem PyProof.Rows PySem.Spec
theorem on1 {α:Type}{C:List α->Prop}{us:List α}(h:us.length=1)(k:∀ a,C [a]):C us:=match us,h with | [a],_=>k a
theorem on2 {α:Type}{C:List α->Prop}{us:List α}(h:us.length=2)(k:∀ a b,C [a,b]):C us:=match us,h with | [a,b],_=>k a b
theorem on3 {α:Type}{C:List α->Prop}{us:List α}(h:us.length=3)(k:∀ a b c,C [a,b,c]):C us:=match us,h with | [a,b,c],_=>k a b c
theorem on4 {α:Type}{C:List α->Prop}{us:List α}(h:us.length=4)(k:∀ a b c d,C [a,b,c,d]):C us:=match us,h with | [a,b,c,d],_=>k a b c d
section
variable {X:Cx}
theorem pss_dead {st:List Stmt}:PSs X st (fun _ _ _=>False):=fun _ _ _ _ _ _ h=>h.elim
theorem argBest_least (ls:List (List Nat)):∀ k,k<ls.length->argBest (fun i j=>decide (ls.getD i []<ls.getD j [])) k<=k∧∀ i,i<=k->¬ ls.getD i []<ls.getD (argBest (fun i j=>decide (ls.getD i []<ls.getD j [])) k) []
 | 0,_=>⟨Nat.le_refl _,fun i hi=>by
   obtain rfl:i=0:=(by omega)
   exact List.lt_irrefl _⟩
 | k+1,h=>by
  obtain ⟨h1,h2⟩:=argBest_least ls k (by omega)
  rw [argBest]
  by_cases c:ls.getD (k+1) []<ls.getD (argBest (fun i j=>decide (ls.getD i []<ls.getD j [])) k) []
  ·rw [if_pos (decide_eq_true c)]
   refine ⟨Nat.le_refl _,fun i hi z=>?_⟩
   by_cases e:i=k+1
   ·subst e;exact List.lt_irrefl _ z
   ·exact h2 i (by omega) (List.lt_trans z c)
  ·rw [if_neg (fun z=>c (of_decide_eq_true z))]
   refine ⟨by omega,fun i hi z=>?_⟩
   by_cases e:i=k+1
   ·subst e;exact c z
   ·exact h2 i (by omega) z
theorem vals_text {ls:List (List Nat)}{its:List Value}(r:Vals (ls.map T) its){i:Nat}{v:Value}(h:its[i]?=some v):∃ t,i<ls.length∧v = .str (tx (ls.getD i [])) t:=by
 have hl:=r.length
 rw [List.length_map] at hl
 have hi:i<ls.length:=by have:=(List.getElem?_eq_some_iff.mp h).1;omega
 have e:ls[i]?=some (ls.getD i []):=by rw [List.getD_eq_getElem?_getD,List.getElem?_eq_getElem hi];rfl
 obtain ⟨u,e1,q1⟩:=r.get (show (ls.map T)[i]?=some (T (ls.getD i [])) by rw [List.getElem?_map,e];rfl)
 rw [h] at e1
 cases e1
 obtain ⟨t,rfl⟩:=q1
 exact ⟨t,hi,rfl⟩
theorem call_minT (hc:X.calm=true):CallR X (.builtin "min") (fun xs H Q=>∃ (p:Addr) (ls:List (List Nat)),xs=[.ref p]∧SqL X.K H p (ls.map T)∧ls≠[]∧∀ m∈ls,(∀ y∈ls,¬ y<m)->Q (T m) H):=by
 intro pins s σ H xs us Q I r h
 obtain ⟨p,ls,rfl,hq,hne,q⟩:=h
 obtain ⟨u,rfl,ru⟩:=vals1 r
 cases ru
 obtain ⟨its,rv,pl,_⟩:=I.list hq
 have hl:=pl.isList
 have hlen:=rv.length
 rw [List.length_map] at hlen
 have hpos:0<ls.length:=List.length_pos_iff.mpr hne
 have hlt:p<s.heap.objs.size:=by obtain ⟨_,e,_⟩:=hl;exact Heap.lt_size e
 refine call_min_walk (wpAny_pyIter_list hl ?_)
 refine ⟨_,[s.heap.objs.size,p],[s.heap.objs.size],_,_,_,fun i j=>decide (ls.getD i []<ls.getD j []),rfl,Walks.list (A:=X.A.in1) (I.ok.hd hc) _ p (Nat.ne_of_lt hlt) its.toArray,⟨⟨_,Heap.get?_push_size _ rfl,rfl,rfl⟩,hl.push _⟩,fun b hb=>?_,(by rw [List.size_toArray];omega),fun i j vi vj s' Q' E' hi hj h'=>?_,fun v h' tk hP hk=>?_⟩
 ·show b<(s.heap.push _).objs.size
  rw [Heap.size_push]
  simp only [List.mem_cons,List.not_mem_nil,or_false] at hb
  rcases hb with rfl | rfl
  ·exact Nat.lt_succ_self _
  ·exact Nat.lt_succ_of_lt hlt
 ·obtain ⟨t,_,rfl⟩:=vals_text rv (by simpa using hi)
  obtain ⟨t',_,rfl⟩:=vals_text rv (by simpa using hj)
  exact richCompare_gives (op:=.Lt) (typeIs_str s' _ t) (typeIs_str s' _ t') F.slot_str_lt F.entry_str_lt (F.args_str_lt_2 _ _) (gives_str_lt _ _ t t') (fun x=>nomatch x) (by rw [tx_cps,tx_cps];exact h')
 ·rw [List.size_toArray,show its.length=ls.length by omega] at hP
  obtain ⟨b1,b2⟩:=argBest_least ls (ls.length-1) (by omega)
  generalize argBest (fun i j=>decide (ls.getD i []<ls.getD j [])) (ls.length-1)=bi at hP b1 b2
  obtain ⟨t,hi,rfl⟩:=vals_text rv (i:=bi) (by rw [<- List.getElem?_toArray];exact hP)
  have e:ls[bi]?=some (ls.getD bi []):=by rw [List.getD_eq_getElem?_getD,List.getElem?_eq_getElem hi];rfl
  refine ⟨T (ls.getD bi []),H,I.kept (old_kept hk),⟨t,rfl⟩,q _ (List.mem_of_getElem? e) fun y hy=>?_⟩
  obtain ⟨i,hi',rfl⟩:=List.mem_iff_getElem.mp hy
  have:=b2 i (by omega)
  rw [List.getD_eq_getElem?_getD (l:=ls) (i:=i),List.getElem?_eq_getElem hi'] at this
  exact this
end
end L2
namespace L2
open PySem PySem.Spec PyProof.Rows
section
variable {X:Cx}{N':List Str}{scope:Scope}{x y2:Str}{px py py2 pt:Pos}{elt iter:Expr}{pos:Pos}{te:TE}{wi:TI}
end
end L2
namespace L2
open PySem PySem.Spec PyProof.Rows
end L2
namespace L2
open PySem PySem.Spec PyProof.Rows
end L2
namespace L2
open PySem PySem.Spec PyProof.Rows
section
variable {X:Cx}{pins:List (Addr×Obj)}{σ:St}{H H':Hp}{s s':Shared}{a:Addr}{cls:Value}{E:Value->Shared->Prop}
end
section
variable {X:Cx}{pins:List (Addr×Obj)}{σ:St}{H H':Hp}{s s':Shared}{a:Addr}{cls:Value}
end
section
variable {P:Program}{w:World}{K:PySem.W.Frag}{mg:Str->Option Value}{base:Heap}{N:List Str}{qual:Str}{scope:Scope}{f:Addr}{cdv:Value}{A:Around}{outer:List Env}{s:Shared}{H:Hp}{E:XK}
end
section
variable {X:Cx}
end
end L2
namespace L2
open PySem PySem.Spec PyProof.Rows
section
variable {prog:Program}{w:World}{A:Around}{E:Value->Shared->Prop}{h:Heap}{g:Array GenState}{d:Drawn}{t:Nat}{os:OsState}
variable {nm q:Str}{Cl Ns:Addr}{bs tl:List Value}{hdct:Bool}{sn:List Str}{sub:List Value}{ab:Bool}{col:Option Bool}{dd:Option Addr}{k0 k1 k2 k3 k5:Option Value}
end
section
variable {M:Model}{A:Around}{E:Value->Shared->Prop}{s:Shared}{env:Env}
variable {nm q:Str}{Cl Ns:Addr}{bs tl:List Value}{hdct:Bool}{sn:List Str}{sub:List Value}{ab:Bool}{col:Option Bool}{dd:Option Addr}{k0 k1 k2 k3 k5:Option Value}{ni:String}
end
end L2
namespace L2
open PySem PySem.Spec PyProof.Rows
end L2
namespace L2
open PySem PySem.Spec PyProof.Rows
section
variable {X:Cx}
end
end L2
namespace L2
open PySem PySem.Spec PyProof.Rows PySem.Builtin PySem.Builtin.ObjectAttr
section
variable {prog:Program}{w:World}{A:Around}{E:Value->Shared->Prop}{K:PySem.W.Frag}{C f a x0:Addr}{F:Str}{v:Value}{s:Shared}
end
section
variable {X:Cx}
end
end L2
namespace L2
open PySem PySem.Spec PyProof.Rows
section
variable {X:Cx}{pins:List (Addr×Obj)}{σ:St}{H:Hp}{s:Shared}{a C x0:Addr}{E:Value->Shared->Prop}{od:Option Addr}
end
section
variable {X:Cx}
end
end L2
namespace L2
open PySem PyProof.Rows PySem.Spec
section
variable {X:Cx}
end
namespace EX
open PySem.W PySem.Calls PySem.Builtin PySem.Builtin.ObjectAttr PySem.Builtin.Getset_descriptor
variable {prog:Program}{w:World}{A:Around}{E:Value->Shared->Prop}{s:Shared}{K:PySem.W.Frag}{a C:Addr}
end EX
section
variable {X:Cx}
end
end L2
namespace L2
open PySem PySem.Spec PyProof.Rows
section
variable {X:Cx}
theorem pi_listK (K:PySem.W.Frag)(hK:X.K=K){tg l:Expr}{tl:TE}(hl:PE X l tl):PI X tg l (iList K tl):=by
 subst hK
 exact pi_list hl
end
end L2
namespace L2
open PySem PyProof.Rows PySem.Spec
section
variable {X:Cx}
end
end L2
namespace L2
open PySem PyProof.Rows PySem.Spec
section
variable {X:Cx}
end
section
variable {X:Cx}{N':List Str}{scope:Scope}{x y2:Str}{px py py2 pt:Pos}{elt iter:Expr}{pos:Pos}{te:TE}{wi:TI}
end
end L2
namespace L2
open PySem PyProof.Rows PySem.Spec
section
variable {X:Cx}
end
end L2
namespace SR
open PySem PyProof.Rows PySem.Spec
section
variable {prog:Program}{w:World}{A:Around}{E:Value->Shared->Prop}{s:Shared}
end
end SR
namespace L2
open PySem PyProof.Rows PySem.Spec
section
variable {X:Cx}
end
end L2
namespace L2
open PySem PyProof.Rows PySem.Spec
section
variable {X:Cx}
end
end L2
namespace L2
open PySem PyProof.Rows PySem.Spec
section
variable {X:Cx}
end
end L2
namespace L2
open PySem PyProof.Rows PySem.Spec
section
variable {X:Cx}
end
end L2
namespace L2
open PySem PyProof.Rows PySem.Spec
section
variable {X:Cx}
end
end L2
namespace L2
open PySem PyProof.Rows PySem.Spec
section
variable {X:Cx}
end
section
variable {K:PySem.W.Frag}{H G:Hp}{as:List Addr}{M:List (List Int)}
end
end L2
namespace L2
open PySem PySem.Spec PyProof.Rows
section
variable {X:Cx}{pins:List (Addr×Obj)}{σ:St}{H:Hp}{s:Shared}{a:Addr}{kvs:List (Key×V)}{k:Key}{A:Around}{E:Value->Shared->Prop}
end
section
variable {X:Cx}{o e f:Expr}{apos cpos:Pos}{td ty tx:TE}
end
end L2
namespace SS
open PySem PyProof.Rows L2
section
variable {prog:Program}{w:World}{A:Around}{E:Value->Shared->Prop}{s:Shared}
end
end SS
namespace L2
open PySem PyProof.Rows
section
variable {X:Cx}
end
end L2
namespace L2
open PySem PyProof.Rows
end L2
namespace L2
open PySem PyProof.Rows
section
variable {X:Cx}{pins:List (Addr×Obj)}{σ:List (Option V)}{H H':Hp}{s:Shared}
end
section
variable {X:Cx}{tg:Expr}
end
end L2
namespace L2
open PySem PyProof.Rows
section
variable {X:Cx}{o:Expr}{td:TE}{apos cpos:Pos}
end
end L2
namespace L2
open PySem PyProof.Rows PySem.Spec
section
variable {X:Cx}
end
end L2
namespace L2
open PySem PyProof.Rows
section
variable {X:Cx}{pins:List (Addr×Obj)}{σ:St}{H:Hp}{s:Shared}
end
section
variable {X:Cx}
end
end L2
namespace L2
open PySem PySem.Spec PyProof.Rows
set_option genInjectivity false in
structure CompScC (N N':List Str)(sc scope:Scope)(x:Str):Prop where
 kind:scope.kind = .function
 cell:scope.names.filter (fun y=>y.2 == .cell)=[(x,.cell)]
 names:∀ y∈scope.names,y.2 = .local->scope.names.lookup y.1=some .local
 var:scope.names.lookup x=some .cell
 ok:∀ y∈scope.names,y.2 = .free->(y.1≠x∧(sc.names.lookup y.1=some .cell∨sc.names.lookup y.1=some .free))
 hd:N'[0]?=some x
 len:N'.length=N.length+1
 sub:∀ i,i<N.length->N'[i+1]?=N[i]?∨(N'[i+1]?.map fun y=>scope.names.lookup y)=some none
 noe:scope.names.lookup ("" : Str)=none
 nol:∀ y∈N'.tail,scope.names.lookup y≠some .local∧scope.names.lookup y≠some .cell
 nd:N'.Nodup
theorem cellsFrom_no:∀ (names:List (Str×NameKind)) (n:Nat) (acc:List (Str×Addr)),names.filter (fun y=>y.2 == .cell)=[]->cellsFrom n names acc=acc
 | [],_,_,_=>rfl
 | (y,k)::r,n,acc,h=>by
  rw [List.filter_cons] at h
  unfold cellsFrom
  by_cases hk:(k==NameKind.cell)=true
  ·rw [if_pos hk] at h
   cases h
  ·rw [if_neg hk] at h
   rw [if_neg hk]
   exact cellsFrom_no r n acc h
theorem cellsFrom_one {x:Str}:∀ (names:List (Str×NameKind)) (n:Nat) (acc:List (Str×Addr)),names.filter (fun y=>y.2 == .cell)=[(x,.cell)]->cellsFrom n names acc=(x,n)::acc
 | [],_,_,h=>by cases h
 | (y,k)::r,n,acc,h=>by
  rw [List.filter_cons] at h
  unfold cellsFrom
  by_cases hk:(k==NameKind.cell)=true
  ·rw [if_pos hk] at h
   obtain ⟨h1,h2⟩:=List.cons.inj h
   rw [if_pos hk,cellsFrom_no r _ _ h2]
   cases h1
   rfl
  ·rw [if_neg hk] at h
   rw [if_neg hk]
   exact cellsFrom_one r n acc h
theorem pushCells_no:∀ (names:List (Str×NameKind)) (h:Heap),names.filter (fun y=>y.2 == .cell)=[]->pushCells h names=h
 | [],_,_=>rfl
 | (y,k)::r,h0,h=>by
  rw [List.filter_cons] at h
  unfold pushCells
  by_cases hk:(k==NameKind.cell)=true
  ·rw [if_pos hk] at h
   cases h
  ·rw [if_neg hk] at h
   rw [if_neg hk]
   exact pushCells_no r h0 h
theorem pushCells_one {x:Str}:∀ (names:List (Str×NameKind)) (h:Heap),names.filter (fun y=>y.2 == .cell)=[(x,.cell)]->pushCells h names=h.push { cls:=.type "cell",data:=.cell none }
 | [],_,h=>by cases h
 | (y,k)::r,h0,h=>by
  rw [List.filter_cons] at h
  unfold pushCells
  by_cases hk:(k==NameKind.cell)=true
  ·rw [if_pos hk] at h
   obtain ⟨h1,h2⟩:=List.cons.inj h
   rw [if_pos hk,pushCells_no r _ h2]
  ·rw [if_neg hk] at h
   rw [if_neg hk]
   exact pushCells_one r h0 h
section
variable {M:Model}{A:Around}{E:Value->Shared->Prop}{s:Shared}
theorem newFunctionEnv_one {scope:Scope}{x:Str}{globals:Addr}{closure:List (Str×Addr)}{qual:Str}{func:Option Addr}{code:Value}{outer:Env}{builtins:Addr}{Q:Env->Shared->Prop}(hc:scope.names.filter (fun y=>y.2 == .cell)=[(x,.cell)])
  (hQ:Q (newEnv scope s.heap.objs.size globals ((x,s.heap.objs.size+1)::closure) qual func code (some outer) builtins) { s with heap:=(s.heap.push { cls:=.type "dict",data:=.dict #[] }).push { cls:=.type "cell",data:=.cell none } }) :
  wpAny M A (newFunctionEnv scope globals closure [] qual func code (some outer) builtins) Q E s:=by
 simp only [newFunctionEnv,Option.isSome_some,if_true]
 refine wpAny_bind (wpAny_alloc ?_)
 refine wpAny_bind (wpAny_layCells _ (fun name kind cells=>by cases hkc:kind==NameKind.cell <;> simp [hkc]) _ _ _ _ ?_)
 rw [show ({ s with heap:=s.heap.push { cls:=.type "dict",data:=.dict #[] } }:Shared).heap.objs.size=s.heap.objs.size+1 from Heap.size_push ..]
 rw [cellsFrom_one _ _ _ hc,pushCells_one _ _ hc]
 refine wpAny_bind (wpAny_pure ?_)
 exact wpAny_pure hQ
end
abbrev cxCompC (X:Cx)(x:Str)(N':List Str)(scope:Scope)(cl:List (Str×Addr))(C:Addr)(s:Shared)(H:Hp)(fp:List Addr):Cx :=
 { X with env:=compEnvC scope cl C X.env,N:=N',s₀:=s,H₀:=H,outer:=X.stack,stack:=X.stack,ex:=fp,fn:=fun y=>y==x,xe:=fun _ _=>False }
theorem look_x {x:Str}{c:Addr}{cl:List (Str×Addr)}:List.lookup x ((x,c)::cl)=some c:=by
 rw [List.lookup_cons,beq_self_eq_true]
theorem look_ne {x y:Str}{c:Addr}{cl:List (Str×Addr)}(h:y≠x):List.lookup y ((x,c)::cl)=List.lookup y cl:=by
 rw [List.lookup_cons,beq_false_of_ne h]
section
variable {X:Cx}{N':List Str}{scope:Scope}{x:Str}{px:Pos}{elt iter:Expr}{cds:List Expr}{pos:Pos}{te:TE}{tc:TT}{wi:TI}
theorem compc_core (S:CompScC X.N N' X.env.scope scope x)(hc:X.calm=true)(ht:∀ cl C s H fp,PTL (cxCompC X x N' scope cl C s H fp) cds tc)(he:∀ cl C s H fp,PE (cxCompC X x N' scope cl C s H fp) elt te)
  {pins:List (Addr×Obj)} {σ:St} {H:Hp} {s:Shared} {Q:VK} {E:Value->Shared->Prop} {RR:Value->Addr->Result->Shared->Prop} {it:Addr} {fp:List Addr} {tn:Nat->Heap->Prop} {J:It}
  (I:Inv X pins σ H s) (T:Turn X.prog X.w X.K (.Name x px) J fp it tn) (st:tn 0 s.heap) (f2:∀ b∈fp,FpOk X pins H b)
  (hw:compAtF tc te σ Q J H)
  (hRR:∀ D C s' H',Inv X pins σ H' s'->(∃ m,s'.heap.Ns C m)->C≠X.env.locals->(∀ y c,X.env.cells.lookup y=some c->c≠C)->H' C=none->X.s₀.heap.objs.size<=C->(∀ p∈X.pn++pins,p.1≠C)->Q (.ref D) H'->RR (.ref D) C (.ok .next) s') :
  ∃ cl,closureFor scope X.env=pure cl∧wpAny (model X.prog X.w) X.A (newList []) (fun acc s₃=>wpAny (model X.prog X.w) X.A (newFunctionEnv scope X.env.globals cl [] X.env.qual none .none (some X.env)) (fun cenv s₄ =>
   codeAny (model X.prog X.w) X.A (.compStart (.ListComp elt [⟨.Name x px,iter,cds,0⟩] scope pos) 0 (.ref it) acc { cenv with scope:=relabel scope X.env }) (RR acc cenv.locals) s₄) E s₃) E s:=by
 have hfree:∀ z∈scope.names,z.2 = .free->∃ c,X.env.cells.lookup z.1=some c:=fun z hz hk=>by
  rcases (S.ok z hz hk).2 with q | q
  ·exact I.ok.has z.1 (.inl q)
  ·exact I.ok.has z.1 (.inr q)
 refine ⟨_,clos_eq hfree,?_⟩
 have clS:∀ y c,(closOf X.env.cells scope.names []).lookup y=some c->X.env.cells.lookup y=some c:=fun y c=>clos_sound scope.names [] hfree fun q=>by cases q
 generalize hcl:closOf X.env.cells scope.names []=cl at clS
 have clH:∀ y,scope.names.lookup y=some .free->∃ c,cl.lookup y=some c:=fun y hy=>by
  rw [<- hcl]
  exact clos_has scope.names [] (lookup_mem hy)
 refine wpAny_newObj_type (newFunctionEnv_one S.cell ?_)
 have I3:Inv X pins σ (upd H s.heap.objs.size (.lst [])) { s with heap:=s.heap.push { cls:=.type "list",data:=.seq ([]:List Value).toArray } }:=I.lnew (t':=s.toks) .nil (Nat.zero_le _)
 obtain ⟨W,⟨m0,w0⟩,turn⟩:=hw s.heap.objs.size I.fresh
 dsimp only
 generalize hs3:({ s with heap:=s.heap.push { cls:=.type "list",data:=.seq ([]:List Value).toArray } }:Shared)=s3 at I3
 have hh3:s3.heap=s.heap.push { cls:=.type "list",data:=.seq ([]:List Value).toArray }:=by rw [<- hs3]
 have hsz3:s3.heap.objs.size=s.heap.objs.size+1:=by rw [hh3,Heap.size_push]
 rw [<- hh3]
 generalize hh₁:(s3.heap.push { cls:=.type "dict",data:=.dict #[] }).push { cls:=.type "cell",data:=.cell none }=h₁
 have old:∀ b o,s3.heap.get? b=some o->h₁.get? b=some o:=fun b o e=>by rw [<- hh₁];exact Heap.get?_push_of_some _ (Heap.get?_push_of_some _ e)
 have old0:∀ b o,s.heap.get? b=some o->h₁.get? b=some o:=fun b o e=>old b o (by rw [hh3];exact Heap.get?_push_of_some _ e)
 have hns₁:h₁.Ns s3.heap.objs.size fun _=>none:=by rw [<- hh₁];exact (Heap.Ns.new s3.heap (.type "dict")).keeps fun b o e=>Heap.get?_push_of_some _ e
 have hzp:(s3.heap.push { cls:=.type "dict",data:=.dict #[] }).objs.size=s3.heap.objs.size+1:=Heap.size_push ..
 have hce:h₁.IsCell (s3.heap.objs.size+1) none:=⟨_,by rw [<- hh₁,<- hzp];exact Heap.get?_push_size _ rfl,rfl⟩
 have CneL:s3.heap.objs.size≠X.env.locals:=Nat.ne_of_gt I3.lt
 have CneC:∀ y c,X.env.cells.lookup y=some c->c<s3.heap.objs.size:=fun y c e=>by
  obtain ⟨v,q⟩:=I3.cell y c e
  exact q.lt
 have CneP:∀ p∈X.pn++pins,p.1<s3.heap.objs.size:=fun p hp=>Heap.lt_size (I3.pin p hp).1
 have fpLt:∀ b∈fp,b<s3.heap.objs.size:=fun b hb=>by
  obtain ⟨o,e,_⟩:=T.obj 0 s.heap st b hb
  rw [hsz3]
  exact Nat.lt_succ_of_lt (Heap.lt_size e)
 have fpD:∀ b∈fp,b≠s.heap.objs.size:=fun b hb=>by
  obtain ⟨o,e,_⟩:=T.obj 0 s.heap st b hb
  exact Nat.ne_of_lt (Heap.lt_size e)
 generalize hC1:s3.heap.objs.size+1=C1 at hce hzp
 have C1gt:s3.heap.objs.size<C1:=by rw [<- hC1];exact Nat.lt_succ_self _
 have cases':∀ y c,List.lookup y ((x,C1)::cl)=some c->(y=x∧c=C1)∨(y≠x∧cl.lookup y=some c):=fun y c e=>by
  by_cases hy:y=x
  ·subst hy
   rw [look_x] at e
   exact .inl ⟨rfl,(Option.some.inj e).symm⟩
  ·rw [look_ne hy] at e
   exact .inr ⟨hy,e⟩
 have ltC1:∀ y c,cl.lookup y=some c->c<s3.heap.objs.size:=fun y c e=>CneC y c (clS y c e)
 have ok':(cxCompC X x N' scope ((x,C1)::cl) s3.heap.objs.size s3 (upd H s.heap.objs.size (.lst [])) fp).Ok:=by
  refine ⟨I3.ok.mod,?_,I3.ok.glob,I3.ok.blt,Nat.le_refl _,fun y z c h1 h2=>?_,fun y hy=>?_,fun y c hf e=>?_,I3.ok.hd,I3.ok.frames,.inl rfl,fun b hb=>⟨Nat.ne_of_lt (fpLt b hb),fun y c e=>?_⟩,
   fun b o e=>I3.bs b o e,Nat.le_trans I3.ok.bsz I3.sz,fun b o e hb=>?_,fun b hb z=>?_,I3.stack,I3.stkFree⟩
  ·show (relabel scope X.env).kind = .function
   exact S.kind
  ·rcases cases' y c h1 with ⟨e1,e2⟩ | ⟨n1,e1⟩
   ·rcases cases' z c h2 with ⟨e3,e4⟩ | ⟨n3,e3⟩
    ·rw [e1,e3]
    ·exact absurd (ltC1 z c e3) (by rw [e2];exact Nat.not_lt.mpr (Nat.le_of_lt C1gt))
   ·rcases cases' z c h2 with ⟨e3,e4⟩ | ⟨n3,e3⟩
    ·exact absurd (ltC1 y c e1) (by rw [e4];exact Nat.not_lt.mpr (Nat.le_of_lt C1gt))
    ·exact I3.ok.inj y z c (clS y c e1) (clS z c e3)
  ·by_cases hyx:y=x
   ·subst hyx
    exact ⟨C1,look_x⟩
   have hy':(relabel scope X.env).names.lookup y=some .cell∨(relabel scope X.env).names.lookup y=some .free:=hy
   rw [relabel_lookup] at hy'
   cases q:scope.names.lookup y with
   | none=>rw [q] at hy';rcases hy' with z | z <;> cases z
   | some k =>
    have hm:=lookup_mem q
    cases k with
    | free =>
     obtain ⟨c,hc'⟩:=clH y q
     exact ⟨c,(look_ne hyx).trans hc'⟩
    | cell =>
     have:(y,NameKind.cell)∈scope.names.filter (fun y=>y.2 == .cell):=List.mem_filter.mpr ⟨hm,rfl⟩
     rw [S.cell] at this
     exact absurd (congrArg Prod.fst (List.mem_singleton.mp this)) hyx
    | «local» => rw [q] at hy';rcases hy' with z | z <;> simp at z
    | globalExplicit=>rw [q] at hy';rcases hy' with z | z <;> simp at z
    | globalImplicit=>rw [q] at hy';rcases hy' with z | z <;> simp at z
  ·have hyx:y=x:=by simpa using hf
   rcases cases' y c e with ⟨_,e2⟩ | ⟨n1,_⟩
   ·rw [e2];exact Nat.le_of_lt C1gt
   ·exact absurd hyx n1
  ·rcases cases' y c e with ⟨_,e2⟩ | ⟨n1,e1⟩
   ·rw [e2];exact fun z=>absurd (fpLt b hb) (by rw [<- z];exact Nat.not_lt.mpr (Nat.le_of_lt C1gt))
   ·exact (f2 b hb).2.2.2.2.1 y c (clS y c e1)
  ·rcases (f2 b hb).2.2.2.1 with z | z
   ·exact I.ok.noex b o e z
   ·exact absurd (Nat.lt_of_lt_of_le (Heap.lt_size e) (Nat.le_trans I.ok.bsz z)) (Nat.lt_irrefl _)
  ·rcases List.mem_cons.mp (I3.stkSub b z) with q | q
   ·exact (f2 b hb).2.1 q
   ·exact (f2 b hb).2.2.1 q
 have fpOk':∀ {H':Hp},(∀ b∈fp,H' b=none)->∀ b∈fp,FpOk (cxCompC X x N' scope ((x,C1)::cl) s3.heap.objs.size s3 (upd H s.heap.objs.size (.lst [])) fp) pins H' b:=fun hn b hb =>
  ⟨hn b hb,Nat.ne_of_lt (fpLt b hb),fun z=>by
   rcases List.mem_cons.mp (I3.stkSub b z) with q | q
   ·exact (f2 b hb).2.1 q
   ·exact (f2 b hb).2.2.1 q,.inl hb,fun y c e=>by
   rcases cases' y c e with ⟨_,e2⟩ | ⟨n1,e1⟩
   ·rw [e2];exact fun z=>absurd (fpLt b hb) (by rw [<- z];exact Nat.not_lt.mpr (Nat.le_of_lt C1gt))
   ·exact (f2 b hb).2.2.2.2.1 y c (clS y c e1),(f2 b hb).2.2.2.2.2⟩
 have I4:Inv (cxCompC X x N' scope ((x,C1)::cl) s3.heap.objs.size s3 (upd H s.heap.objs.size (.lst [])) fp) pins (none::σ) (upd H s.heap.objs.size (.lst [])) { s3 with heap:=h₁ }:=by
  refine ⟨ok',rfl,I3.bare,Un.kept old,⟨_,hns₁,fun i y v e1 e2 vis=>?_⟩,fun y c e=>?_,?_,fun y c e=>?_,fun p hp=>?_,I3.hok.kept old,?_⟩
  ·cases i with
   | zero=>cases e2
   | succ i =>
    have e2':σ[i]?=some (some v):=by simpa using e2
    have hi:i<X.N.length:=by rw [<- I3.len];exact (List.getElem?_eq_some_iff.mp e2').1
    have vis':(relabel scope X.env).names.lookup y=some .local∨(relabel scope X.env).names.lookup y=some .cell∨(relabel scope X.env).names.lookup y=some .free:=vis
    have e1':N'[i+1]?=some y:=e1
    rcases S.sub i hi with q | q
    ·rw [e1'] at q
     have hy:X.N[i]?=some y:=q.symm
     have hmem:y∈N'.tail:=by
      rw [List.mem_iff_getElem?]
      exact ⟨i,by rw [List.getElem?_tail];exact e1'⟩
     have hfr:scope.names.lookup y=some .free:=by
      rw [relabel_lookup] at vis'
      cases q2:scope.names.lookup y with
      | none=>rw [q2] at vis';rcases vis' with z | z | z <;> cases z
      | some k =>
       cases k with
       | free=>rfl
       | cell=>exact absurd q2 (S.nol y hmem).2
       | «local» => exact absurd q2 (S.nol y hmem).1
       | globalExplicit=>rw [q2] at vis';rcases vis' with z | z | z <;> simp at z
       | globalImplicit=>rw [q2] at vis';rcases vis' with z | z | z <;> simp at z
     have hyx:y≠x:=fun z=>by rw [z,S.var] at hfr;cases hfr
     have hok:=(S.ok (y,.free) (lookup_mem hfr) rfl).2
     obtain ⟨m,hn,hl⟩:=I3.loc
     have visX:Vis X.env.scope y:=by
      rcases hok with z | z
      ·exact .inr (.inl z)
      ·exact .inr (.inr z)
     obtain ⟨u,r,l⟩:=hl i y v hy e2' visX
     refine ⟨u,r,.inr ⟨?_,?_⟩⟩
     ·show (relabel scope X.env).names.lookup y=some .cell∨(relabel scope X.env).names.lookup y=some .free
      rw [relabel_lookup,hfr,Option.map_some]
      by_cases hcnd:(NameKind.free==NameKind.free&&X.env.scope.kind == .function&&X.env.kindOf y==some .cell)=true
      ·left
       rw [if_pos hcnd]
      ·right
       rw [if_neg hcnd]
     ·rcases l with ⟨k,_⟩ | ⟨k,c,e,z⟩
      ·have k':X.env.scope.names.lookup y=some .local:=k
       have hok':X.env.scope.names.lookup y=some .cell∨X.env.scope.names.lookup y=some .free:=hok
       rw [k'] at hok'
       rcases hok' with z | z <;> cases z
      ·obtain ⟨c',e'⟩:=clH y hfr
       have e3:=clS y c' e'
       rw [e] at e3
       cases e3
       obtain ⟨o,ho,hd⟩:=z
       exact ⟨c,(look_ne hyx).trans e',o,old c o ho,hd⟩
    ·rw [e1'] at q
     have q:scope.names.lookup y=none:=Option.some.inj q
     rw [relabel_lookup,q] at vis'
     rcases vis' with z | z | z <;> cases z
  ·rcases cases' y c e with ⟨_,e2⟩ | ⟨n1,e1⟩
   ·exact ⟨none,by rw [e2];exact hce⟩
   ·obtain ⟨v,o,ho,hd⟩:=I3.cell y c (clS y c e1)
    exact ⟨v,o,old c o ho,hd⟩
  ·show upd H s.heap.objs.size (.lst []) s3.heap.objs.size=none
   exact I3.hok.fresh (Nat.le_refl _)
  ·rcases cases' y c e with ⟨_,e2⟩ | ⟨n1,e1⟩
   ·rw [e2];exact I3.hok.fresh (Nat.le_of_lt C1gt)
   ·exact I3.freeC y c (clS y c e1)
  ·obtain ⟨e,n,ne,nf,d⟩:=I3.pin p hp
   refine ⟨old _ _ e,n,Nat.ne_of_lt (CneP p hp),fun z=>?_,d⟩
   rcases List.mem_cons.mp (I3.stkSub p.1 z) with q | q
   ·exact ne q
   ·exact nf q
  ·show (none::σ).length=N'.length
   rw [S.len,List.length_cons,I3.len]
 have st4:tn 0 h₁:=T.keep 0 s.heap h₁ st fun b _ o e=>old0 b o e
 have hvar:Loc (relabel scope X.env) x:=by
  right
  show (relabel scope X.env).names.lookup x=some .cell
  rw [relabel_lookup,S.var,Option.map_some]
  rfl
 have loop:∀ s₄:Shared,s₄ = { s3 with heap:=h₁ } ->
   codeAny (model X.prog X.w) X.A (.compLoop (.ListComp elt [⟨.Name x px,iter,cds,0⟩] scope pos) 0 (.ref it) (.ref s.heap.objs.size) (compEnvC scope ((x,C1)::cl) s3.heap.objs.size X.env)) (RR (.ref s.heap.objs.size) s3.heap.objs.size) s₄:=by
  rintro s₄ rfl
  refine codeAny_compLoop_ts (fun n s'=>∃ i v0 ys H',Inv (cxCompC X x N' scope ((x,C1)::cl) s3.heap.objs.size s3 (upd H s.heap.objs.size (.lst [])) fp) pins (v0::σ) H' s'∧tn i s'.heap∧(∀ b∈fp,H' b=none)∧W i n ys H') ?_ m0
   ⟨0,none,[],_,I4,st4,fun b hb=>by rw [upd_ne (fpD b hb)];exact (f2 b hb).1,w0⟩
  rintro n s5 ⟨i,v0,ys,H5,I5,st5,fr5,w5⟩
  rcases turn i n ys H5 w5 with ⟨stop,qn⟩ | ⟨go,hz,N,hN,Nn,hNn,step⟩
  ·refine thn (T.done (cxCompC X x N' scope ((x,C1)::cl) s3.heap.objs.size s3 (upd H s.heap.objs.size (.lst [])) fp) rfl rfl rfl hc i pins s5 (v0::σ) H5 (fun _ _=>False) I5 (fpOk' fr5) st5 stop) fun r s6 ⟨hr,I6⟩=>?_
   subst hr
   have hch:∀ b∈fp,(b∈X.ex∨X.s₀.heap.objs.size<=b)∧b≠X.env.locals∧(∀ x c,X.env.cells.lookup x=some c->c≠b)∧∀ p∈X.pn++pins,p.1≠b:=fun b hb =>
    ⟨(f2 b hb).2.2.2.1,(f2 b hb).2.1,(f2 b hb).2.2.2.2.1,(f2 b hb).2.2.2.2.2⟩
   have I7:Inv X pins σ H5 s6:=I3.call' (ch:=fp) I6.os I6.base I6.hok I6.bare hch
   obtain ⟨m,hm,_⟩:=I6.loc
   exact hRR s.heap.objs.size s3.heap.objs.size s6 H5 I7 ⟨m,hm⟩ CneL (fun y c e=>Nat.ne_of_lt (CneC y c e)) I6.free (Nat.le_trans I3.sz (Nat.le_refl _)) (fun p hp=>Nat.ne_of_lt (CneP p hp)) qn
  ·refine thn (T.item (cxCompC X x N' scope ((x,C1)::cl) s3.heap.objs.size s3 (upd H s.heap.objs.size (.lst [])) fp) rfl rfl rfl hc i pins s5 (v0::σ) H5 (fun _ _=>False) I5 (fpOk' fr5) st5 go) fun r s6 ⟨u,hr,h6⟩=>?_
   subst hr
   refine thn h6 fun _ s7 ⟨y,H7,I7,r7,y7,st7,fr7⟩=>?_
   have I7':=I7.pinned (fpOk' fr7) (T.obj _ _ st7)
   refine wpAny_assign_Name (store_ok (i:=0) (v:=y) I7' S.nd S.hd hvar r7 (fun s8 I8=>?_) (.inl (beq_self_eq_true x)))
   have I8':Inv (cxCompC X x N' scope ((x,C1)::cl) s3.heap.objs.size s3 (upd H s.heap.objs.size (.lst [])) fp) (pins++pinsAt fp s7.heap) (some y::σ) H7 s8:=I8
   refine thn (ht _ s3.heap.objs.size s3 (upd H s.heap.objs.size (.lst [])) fp _ s8 (some y::σ) H7 (fun b H''=>if b=true then te (some y::σ) H'' N else Nn H'') I8' (step y H7 y7)) fun okb s8 ⟨H8,I8,q8⟩=>?_
   cases okb with
   | false =>
    have q8':Nn H8:=by simpa using q8
    obtain ⟨m',hm,w9⟩:=hNn H8 q8'
    refine ⟨m',hm,i+1,some y,ys,_,I8.unpinned,T.keep _ _ _ st7 fun b hb o e=>(I8.pin (b,o) (List.mem_append_right _ (List.mem_append_right _ (mem_pinsAt hb e)))).1,fun b hb=>?_,w9⟩
    obtain ⟨o,e,d⟩:=T.obj _ _ st7 b hb
    exact (I8.pin (b,o) (List.mem_append_right _ (List.mem_append_right _ (mem_pinsAt hb e)))).2.1
   | true =>
    refine thn (he _ s3.heap.objs.size s3 (upd H s.heap.objs.size (.lst [])) fp _ s8 (some y::σ) H8 N I8 (by simpa using q8)) fun w s9 ⟨v,H9,I9,r9,q9⟩=>?_
    obtain ⟨hD9,m',hm,w9⟩:=hN v H9 q9
    refine thn (mt_append _ s9 (some y::σ) H9 (.ref s.heap.objs.size) [v] (.ref s.heap.objs.size) [w] (fun z H10=>z = .non∧H10=upd H9 s.heap.objs.size (.lst (ys++[v]))) I9 rfl (.cons r9 .nil) ⟨s.heap.objs.size,ys,v,rfl,rfl,hD9,hz,rfl,rfl⟩) fun _ s10 ⟨z,H10,I10,_,ez,e10⟩=>?_
    subst e10
    refine ⟨m',hm,i+1,some y,ys++[v],_,I10.unpinned,T.keep _ _ _ st7 fun b hb o e=>(I10.pin (b,o) (List.mem_append_right _ (List.mem_append_right _ (mem_pinsAt hb e)))).1,fun b hb=>?_,w9⟩
    obtain ⟨o,e,d⟩:=T.obj _ _ st7 b hb
    exact (I10.pin (b,o) (List.mem_append_right _ (List.mem_append_right _ (mem_pinsAt hb e)))).2.1
 exact codeAny_compStart_list (loop _ (by rw [<- hs3])) (T.self X.A 0 _ _ _ st4 (loop _ (by rw [<- hs3])))
end
end L2
namespace L2
open PySem PySem.Spec PyProof.Rows
section
variable {X:Cx}{N':List Str}{scope:Scope}{x:Str}{px:Pos}{elt iter:Expr}{cds:List Expr}{pos:Pos}{te:TE}{tc:TT}{wi:TI}
theorem ps_setCompCx {at':St->VK->It->Hp->Prop}{i:Nat}{y:Str}{py spos:Pos}(S:CompScC X.N N' X.env.scope scope x)(hc:X.calm=true)(hi:PI X (.Name x px) iter wi)(ht:∀ cl C s H fp,PTL (cxCompC X x N' scope cl C s H fp) cds tc)(he:∀ cl C s H fp,PE (cxCompC X x N' scope cl C s H fp) elt te)(cv:∀ σ Q J H,at' σ Q J H->compAtF tc te σ Q J H)
  (hN:X.N.Nodup) (hy:X.N[i]?=some y) (hyl:X.env.scope.names.lookup y=some .local)
  (hsw:swapsWith (.ListComp elt [⟨.Name x px,iter,cds,0⟩] scope pos) (some (.Name y py)) spos.line X.env=pure true:=by rfl)
  (hs:∀ x,foldedSetIterable iter X.env x=pure x:=by intro _;rfl):PS X (.Assign [.Name y py] (.ListComp elt [⟨.Name x px,iter,cds,0⟩] scope pos) spos) (tAsg (fun σ H Q=>wi σ H (at' σ Q)) (gName i)):=by
 intro pins s σ H D0 I h
 have hfree:∀ z∈scope.names,z.2 = .free->∃ c,X.env.cells.lookup z.1=some c:=fun z hz hk=>by
  rcases (S.ok z hz hk).2 with q | q
  ·exact I.ok.has z.1 (.inl q)
  ·exact I.ok.has z.1 (.inr q)
 rw [exec_Assign_Name_used _ _ _ _ hsw]
 refine wpAny_bind (wpAny_standAt (wpAny_bind ?_))
 show wpAny _ X.A (do let _ <- comprehension (.ListComp elt [⟨.Name x px,iter,cds,0⟩] scope pos) scope X.env _ (newList []) false (eval iter X.env) (some (assign (.Name y py) X.env))) _ _ s
 refine wpAny_bind (wpAny_mono (wpAny_comprehension_free (use:=some (assign (.Name y py) X.env)) (Q:=fun _ s'=>SP X pins D0 .next s') rfl hs (clos_eq hfree) S.kind S.names
  (thn (hi pins s σ H _ I h) fun xv s1 h1=>thn h1 fun itv s2 h2=>?_)) (fun _ s' hq=>wpAny_pure (wpAny_pure hq)) fun _ _ e=>e)
 obtain ⟨it,fp,tn,J,H2,e,I2,T,st2,f2,hw⟩:=h2
 subst e
 obtain ⟨cl,hcl,hrun⟩:=compc_core (tc:=tc) (cds:=cds) (elt:=elt) (iter:=iter) (pos:=pos) (px:=px) (E:=X.xe) (Q:=fun x H1=>gName i x σ H1 D0.nx) (RR:=fun acc C=>compPost (model X.prog X.w) X.A X.xe (some (assign (.Name y py) X.env)) (fun _ s'=>SP X pins D0 .next s') acc C) S hc ht he I2 T st2 f2 (cv _ _ _ _ hw) (fun D C s' H' I' ⟨m,hm⟩ n1 n2 n3 n4 n5 q=>by
  show wpAny _ X.A (assign (.Name y py) X.env (.ref D)) _ _ _
  refine wpAny_assign_Name (store_ok2 (i:=i) (v:=.ref D) I' hN hy (.inl hyl) rfl (fun s'' I'' ⟨a,hsa,hwa⟩=>?_) (.inr hyl))
  have haC:C≠a:=by
   rcases hwa with z | z
   ·rw [z];exact n1
   ·intro z2
    exact n2 y a z z2.symm
  refine ⟨m,hm.sameBut hsa haC,fun h' hsb=>?_⟩
  exact ⟨_,H',I''.turned (it:=C) (t':=s''.toks) (fun b o hb e=>(hsb.2 b hb).trans e) n3 n1 (.inr n4) n2 n5,q⟩)
 have ecl:(pure (closOf X.env.cells scope.names []):Sem (List (Str×Addr)))=pure cl:=(clos_eq hfree).symm.trans hcl
 have ecl':closOf X.env.cells scope.names []=cl:=by
  injection ecl
 rw [ecl']
 exact hrun
end
theorem relabel_ok {outer inner:Scope}(h:∀ y∈inner.names,y.2 = .free->outer.names.lookup y.1=some .cell∨outer.names.lookup y.1=some .free)(env:Env):∀ y∈inner.names,y.2 = .free->(relabel outer env).names.lookup y.1=some .cell∨(relabel outer env).names.lookup y.1=some .free:=fun y hy hk=>by
 rw [relabel_lookup]
 rcases h y hy hk with z | z
 ·left
  rw [z,Option.map_some]
  rfl
 ·rw [z,Option.map_some]
  by_cases hcnd:(NameKind.free==NameKind.free&&env.scope.kind == .function&&env.kindOf y.1==some .cell)=true
  ·left
   rw [if_pos hcnd]
  ·right
   rw [if_neg hcnd]
end L2
namespace L2
open PySem PyProof.Rows PySem.Spec
section
variable {X:Cx}
end
section
variable {X:Cx}{N':List Str}{scope:Scope}{x:Str}{px:Pos}{elt iter cd:Expr}{pos:Pos}{te:TE}{tc:TT}{wi:TI}
theorem ps_setCompfC {i:Nat}{y:Str}{py spos:Pos}(S:CompScC X.N N' X.env.scope scope x)(hc:X.calm=true)(hi:PI X (.Name x px) iter wi)(ht:∀ cl C s H fp,PT (cxCompC X x N' scope cl C s H fp) cd tc)(he:∀ cl C s H fp,PE (cxCompC X x N' scope cl C s H fp) elt te)
  (hN:X.N.Nodup) (hy:X.N[i]?=some y) (hyl:X.env.scope.names.lookup y=some .local)
  (hsw:swapsWith (.ListComp elt [⟨.Name x px,iter,[cd],0⟩] scope pos) (some (.Name y py)) spos.line X.env=pure true:=by rfl)
  (hs:∀ x,foldedSetIterable iter X.env x=pure x:=by intro _;rfl):PS X (.Assign [.Name y py] (.ListComp elt [⟨.Name x px,iter,[cd],0⟩] scope pos) spos) (tAsg (tCompF wi tc te) (gName i)) :=
 ps_setCompCx (at':=fun σ Q=>compAtF tc te σ Q) S hc hi (fun _ _ _ _ _=>ptl_one (ht _ _ _ _ _)) he (fun _ _ _ _ h=>h) hN hy hyl hsw hs
end
theorem compFL {J:It}{vs:List V}{tc:TT}{te:TE}{σ:St}{H:Hp}{Q:VK}(p:V->Bool)(g:V->List V)(rd:Reads J H vs)(hn:vs.length<=sizeLine)
  (ht:∀ x H',x∈vs->Same H H'->∀ N:Bool->Hp->Prop,(∀ H'',Same H' H''->N (p x) H'')->tc (some x::σ) H' N)
  (he:∀ x H',x∈vs->p x=true->Same H H'->∀ N:V->Hp->Prop,(∀ c H'',Same H' H''->H' c=none->H'' c=some (.lst (g x))->N (.ref c) H'')->te (some x::σ) H' N)
  (hq:∀ D bs H',H D=none->Same H H'->H' D=some (.lst (bs.map V.ref))->Dt.R2 (fun v b=>b≠D∧H b=none∧H' b=some (.lst (g v))) (vs.filter p) bs->Q (.ref D) H'):compAtF tc te σ Q J H:=by
 intro D hD
 refine ⟨fun i m ys H2=>m=vs.length-i∧i<=vs.length∧Same H H2∧H2 D=some (.lst ys)∧∃ bs:List Addr,ys=bs.map V.ref∧Dt.R2 (fun v b=>b≠D∧H b=none∧H2 b=some (.lst (g v))) ((vs.take i).filter p) bs,⟨vs.length,rfl,Nat.zero_le _,fun b o e=>?_,upd_same,[],rfl,.nil⟩,?_⟩
 ·rw [upd_ne (ne_of_none e hD)]
  exact e
 ·rintro i m ys H2 ⟨rfl,hi,hs,hd,bs,rfl,hb⟩
  by_cases hlt:i<vs.length
  ·have hx:vs[i]?=some vs[i]:=List.getElem?_eq_getElem hlt
   have hbl:bs.length<=i:=by have:=hb.len;have:=filter_take_len p vs i;omega
   refine .inr ⟨rd.go i H2 hs hlt,by rw [List.length_map];omega,fun v H'=>p vs[i]=true∧Same H2 H'∧∃ c,v = .ref c∧c≠D∧H c=none∧H' c=some (.lst (g vs[i])),fun v H' ⟨hp,hs',c,ev,hcD,hcn,hc⟩=>⟨hs' D _ hd,vs.length-(i+1),by omega,rfl,hlt,fun b o e=>?kp,upd_same,bs++[c],?app,?la⟩,
    fun H'=>p vs[i]=false∧Same H2 H',fun H' ⟨hp,hs'⟩=>⟨vs.length-(i+1),by omega,rfl,hlt,fun b o e=>hs' b o (hs b o e),hs' D _ hd,bs,rfl,?skp⟩,fun y H' hy=>?stp⟩
   case app =>
    rw [ev,List.map_append]
    rfl
   case kp =>
    rw [upd_ne (ne_of_none e hD)]
    exact hs' b o (hs b o e)
   case la =>
    rw [take_filter p vs i _ hx,hp]
    refine Dt.R2.snoc (hb.mono fun v b _ ⟨h1,h0,h2⟩=>⟨h1,h0,by rw [upd_ne h1];exact hs' b _ h2⟩) ⟨hcD,hcn,by rw [upd_ne hcD];exact hc⟩
   case skp =>
    rw [take_filter p vs i _ hx,hp]
    rw [show (if false=true then [vs[i]] else [])=[] from rfl,List.append_nil]
    exact hb.mono fun v b _ ⟨h1,h0,h2⟩=>⟨h1,h0,hs' b _ h2⟩
   case stp =>
    obtain ⟨rfl,e2⟩:=rd.yl i H2 y H' hs hy
    have e4:y=vs[i]:=by rw [hx] at e2;exact (Option.some.inj e2).symm
    subst e4
    refine ht _ _ (List.getElem_mem hlt) hs _ fun H'' h''=>?_
    by_cases hp:p vs[i]=true
    ·rw [if_pos hp]
     refine he _ _ (List.getElem_mem hlt) hp (hs.trans h'') _ fun c H3 h3 hc1 hc2=>⟨hp,h''.trans h3,c,rfl,fun z=>?_,?_,hc2⟩
     ·rw [z,h'' D _ hd] at hc1;cases hc1
     ·cases e:H c with
      | none=>rfl
      | some o=>rw [h'' c o (hs c o e)] at hc1;cases hc1
    ·rw [if_neg hp]
     exact ⟨by simpa using hp,h''⟩
  ·have e:i=vs.length:=by omega
   subst e
   rw [List.take_length] at hb
   exact .inl ⟨rd.st H2 hs,hq D bs H2 hD hs hd hb⟩
end L2
namespace L2
open PySem PyProof.Rows
def SqA (K:PySem.W.Frag)(H:Hp)(a:Addr)(xs:List V):Prop:=SqL K H a xs∨SqT K H a xs
theorem SqA.on {K:PySem.W.Frag}{H H':Hp}{a:Addr}{xs:List V}(h:SqA K H a xs)(s:Same H H'):SqA K H' a xs:=h.elim (fun h=>.inl (s.seq h)) fun h=>.inr (tupOn s h)
def iSq (K:PySem.W.Frag)(tl:TE):TI:=fun σ H R=>tl σ H fun x H1=>∃ a xs H0,x = .ref a∧SqA K H0 a xs∧Same H0 H1∧∀ J,Reads J H0 xs->R J H1
section
variable {X:Cx}{tg:Expr}
theorem pi_seq {l:Expr}{tl:TE}(hl:PE X l tl):PI X tg l (iSq X.K tl):=by
 intro pins s σ H R I h
 refine thn (hl pins s σ H _ I h) fun v s1 ⟨x,H1,I1,r1,q1⟩=>?_
 obtain ⟨a,xs,H0,e,hq0 | hq0,s0,q0⟩:=q1
 ·have hq:=s0.seq hq0
  have q:=q0 _ (reads_list hq0)
  subst e
  cases r1
  obtain ⟨its,rv,p,hz⟩:=I1.list hq
  refine wpAny_pyIter_list p.isList ?_
  refine ⟨s1.heap.objs.size,[s1.heap.objs.size],_,_,H1,rfl,I1.kept (t':=s1.toks) fun b o e=>Heap.get?_push_of_some _ e,turn_list a _,⟨_,Heap.get?_push_size _ rfl,rfl,rfl⟩,fun b hb=>?_,q⟩
  have e:b=s1.heap.objs.size:=by simpa using hb
  subst e
  exact I1.fpOk (Nat.le_refl _) (I1.hok.fresh (Nat.le_refl _))
 ·have hq:=tupOn s0 hq0
  have q:=q0 _ (reads_tup hq0)
  subst e
  cases r1
  obtain ⟨its,rv,p,hz⟩:=I1.tuple hq
  refine wpAny_pyIter_tuple (show s1.heap.IsTuple a its.toArray from p) ?_
  refine ⟨s1.heap.objs.size,[s1.heap.objs.size],_,_,H1,rfl,I1.kept (t':=s1.toks) fun b o e=>Heap.get?_push_of_some _ e,turn_tuple a _,⟨_,Heap.get?_push_size _ rfl,rfl,rfl⟩,fun b hb=>?_,q⟩
  have e:b=s1.heap.objs.size:=by simpa using hb
  subst e
  exact I1.fpOk (Nat.le_refl _) (I1.hok.fresh (Nat.le_refl _))
theorem pi_seqK (K:PySem.W.Frag)(hK:X.K=K){l:Expr}{tl:TE}(hl:PE X l tl):PI X tg l (iSq K tl):=by
 subst hK
 exact pi_seq hl
end
theorem for_reads {J:It}{H0:Hp}{vs:List V}{g:TG}{tb:TS}{D:Ends}{σ:St}{H:Hp}(rd:Reads J H0 vs)(Pv:Nat->St->Hp->Prop)(h0:Pv 0 σ H)(hl:∀ i σ H,i<=vs.length->Pv i σ H->Same H0 H)
  (hs:∀ i x σ H,vs[i]?=some x->Pv i σ H->g x σ H fun σ2 H2=>tb { D with nx:=Pv (i+1),ct:=Pv (i+1),bk:=D.nx } σ2 H2) (hd:∀ σ H,Pv vs.length σ H->D.nx σ H) :
  ∃ W:Nat->Nat->St->Hp->Prop,(∃ m,W 0 m σ H)∧∀ i m σ H,W i m σ H ->
   (J.stop i H∧D.nx σ H)∨(J.go i H∧∃ N:St->Hp->Prop,(∀ σ' H',N σ' H'->∃ m',m'<m∧W (i+1) m' σ' H')∧∀ x H',J.yld i H x H'->g x σ H' fun σ2 H2=>tb { D with nx:=N,ct:=N,bk:=D.nx } σ2 H2):=by
 refine ⟨fun i m σ H=>m=vs.length-i∧i<=vs.length∧Pv i σ H,⟨vs.length,by simp,Nat.zero_le _,h0⟩,?_⟩
 rintro i m σ H ⟨rfl,hi,p⟩
 have hA:=hl i σ H hi p
 by_cases hlt:i<vs.length
 ·refine .inr ⟨rd.go i H hA hlt,Pv (i+1),fun σ' H' p'=>⟨vs.length-(i+1),by omega,rfl,hlt,p'⟩,fun x H' hy=>?_⟩
  obtain ⟨rfl,e⟩:=rd.yl i H x H' hA hy
  exact hs i x σ _ e p
 ·have e:i=vs.length:=by omega
  subst e
  exact .inl ⟨rd.st H hA,hd σ H p⟩
end L2
namespace L2
open PySem PyProof.Rows
theorem compAtF.un {te:TE}{σ:St}{Q:VK}{J:It}{H:Hp}(hw:compAtF (fun _ H k=>k true H) te σ Q J H):compAt te σ Q J H:=fun D hD=>by
 obtain ⟨W,h0,hW⟩:=hw D hD
 refine ⟨W,h0,fun i m ys H2 hw2=>?_⟩
 rcases hW i m ys H2 hw2 with g | ⟨g1,g2,N,g3,Nn,g4,g5⟩
 ·exact .inl g
 ·refine .inr ⟨g1,g2,N,g3,fun y H' hy=>?_⟩
  have:=g5 y H' hy
  dsimp only at this
  rw [if_pos rfl] at this
  exact this
theorem compL {J:It}{vs:List V}{te:TE}{σ:St}{H:Hp}{Q:VK}(g:V->List V)(rd:Reads J H vs)(hn:vs.length<=sizeLine)
  (he:∀ x H',x∈vs->Same H H'->∀ N:V->Hp->Prop,(∀ c H'',Same H' H''->H' c=none->H'' c=some (.lst (g x))->N (.ref c) H'')->te (some x::σ) H' N)
  (hq:∀ D bs H',H D=none->Same H H'->H' D=some (.lst (bs.map V.ref))->Dt.R2 (fun v b=>b≠D∧H b=none∧H' b=some (.lst (g v))) vs bs->Q (.ref D) H'):compAt te σ Q J H:=by
 refine compAtF.un (compFL (fun _=>true) g rd hn (fun x H' _ s N hN=>hN H' (Same.refl _)) (fun x H' hx _ s N hN=>he x H' hx s N hN) fun D bs H' h1 h2 h3 h4=>?_)
 rw [List.filter_eq_self.mpr fun _ _=>rfl] at h4
 exact hq D bs H' h1 h2 h3 h4
def rdL (H:Hp)(v:V):List V:=match v with
 | .ref b=>match H b with
  | some (.lst xs)=>xs
  | _=>[]
 | _=>[]
theorem rdL_at {H:Hp}{b:Addr}{xs:List V}(h:H b=some (.lst xs)):rdL H (.ref b)=xs:=by
 unfold rdL
 dsimp only
 rw [h]
end L2
namespace L2
open PySem PyProof.Rows PySem.Spec
section
variable {X:Cx}
end
end L2
namespace L2
open PySem PyProof.Rows PySem.Spec
section
variable {X:Cx}
end
end L2
namespace L2
open PySem
theorem ps_false {X:Cx}{st:Stmt}:PS X st (fun _ _ _=>False):=fun _ _ _ _ _ _ h=>h.elim
end L2
namespace L2
open PySem PyProof.Rows PySem.Spec
section
variable {X:Cx}
theorem sorted_ofS {pins:List (Addr×Obj)}{σ:St}{H:Hp}{s:Shared}{v:Value}{ls:List (List Nat)}{Q:VK}(h64:ls.length<64)
  (hc:∀ (A':Around) (Q':List Value->Shared->Prop),A'.handled=X.A.handled->(∀ (vs:List Value) (ss:List Str) (s1:Shared),StrsAre vs ss->ss.Perm (ls.map tx)->Inv X pins σ H s1->Q' vs s1)->wpAny (model X.prog X.w) A' (collect v) Q' X.xe s)
  (q:∀ (ms:List (List Nat)) (D:Addr),H D=none->ms.Perm ls->ms.Pairwise (fun a b=>¬ b<a)->Q (.ref D) (upd H D (.lst (ms.map T)))) :
  wpAny (model X.prog X.w) X.A (call (.builtin "sorted") [v]) (EP X pins σ Q) X.xe s:=by
 have hz:ls.length<=sizeLine:=by rw [sizeLine_eq];omega
 refine Calls.call_function_entry kind_sorted plain_sorted entry_sorted (args_sorted1 _) ?_
 unfold Builtin.«sorted»
 refine wpAny_bind (m:=checkCount "sorted" 1 1 _) (wpAny_pure (wpAny_bind (hc _ _ (by simp) fun vs ss s1 hS hp I1=>wpAny_bind (wpAny_newList ?_ (by rw [hS.length,hp.length_eq,List.length_map];exact hz)))))
 have e2:(s1.heap.push (seqObj "list" vs.toArray 0)).get? s1.heap.objs.size=some (seqObj "list" vs.toArray 0):=Heap.get?_push_size _ rfl
 have hvl:vs.length=ls.length:=by rw [hS.length,hp.length_eq,List.length_map]
 show wpAny _ _ _ _ _ { s1 with heap:=s1.heap.push (seqObj "list" vs.toArray 0) }
 have key:∀ (out:Array Value) (ss':List Str),StrsAre out.toList ss'->ss'.Perm ss->sortedS ss'=true->EP X pins σ Q (.ref s1.heap.objs.size) { s1 with heap:=sortedHeap (s1.heap.push (seqObj "list" vs.toArray 0)) s1.heap.objs.size vs out }:=fun out ss' b1 b2 b3=>by
  obtain ⟨e,he⟩:=sortedHeap_at (out:=out) e2
  have em:(ss'.map fun x=>x.cps.toList).map tx=ss':=by
   rw [List.map_map]
   conv=>rhs;rw [<- List.map_id ss']
   exact List.map_congr_left fun x _=>tx_eta x
  have hp':(ss'.map fun x=>x.cps.toList).Perm ls:=by
   have y:=(b2.trans hp).map fun x=>x.cps.toList
   rw [List.map_map,show (fun x=>x.cps.toList)∘tx=id from funext tx_cps,List.map_id] at y
   exact y
  refine ⟨.ref _,_,I1.laid (t':=s1.toks) (fun b o eo=>?_) (Nat.le_refl _) (o:=.lst ((ss'.map fun x=>x.cps.toList).map T)) ⟨?_,out.toList,e,strs_back b1,by simpa using he⟩,rfl,q _ _ (I1.hok.fresh (Nat.le_refl _)) hp' (sorted_pw _ (by rw [em];exact b3))⟩
  ·have hlt:=Heap.lt_size eo
   rw [sortedHeap_old (Nat.ne_of_lt hlt) (by rw [size_push'];exact Nat.lt_succ_of_lt hlt)]
   exact Heap.get?_push_of_some _ eo
  ·rw [List.length_map,hp'.length_eq]
   exact hz
 refine wpAny_bind (wpAny_holding (wpAny_call_entry slot_list_sort ⟨_,e2,rfl⟩ entry_list_sort (list_sort_treeK strKind_oneLt e2 hS.keysOf (fun v1 v2 r e=>?_) (by omega) fun st' a1 a2=>⟨_,rfl,wpAny_pure ⟨_,rfl,?_⟩⟩) (args_list_sort _)))
 ·have hS2:=hS
  rw [e] at hS2
  exact keyKind_strs hS2
 ·obtain ⟨ss',b1,b2,b3⟩:=sorted_out_str hS a1 a2
  exact key _ ss' b1 b2 b3
end
end L2
namespace L2
open PySem PySem.W PyProof.Rows
section
variable {X:Cx}
theorem call_sortedTuS:CallR X (.builtin "sorted") (fun xs H Q=>∃ (p:Addr) (ls:List (List Nat)),xs=[.ref p]∧SqT X.K H p (ls.map T)∧ls.length<64∧∀ (ms:List (List Nat)) (D:Addr),H D=none->ms.Perm ls->ms.Pairwise (fun a b=>¬ b<a)->Q (.ref D) (upd H D (.lst (ms.map T)))):=by
 intro pins s σ H xs us Q I r h
 obtain ⟨p,ls,rfl,hq,h64,q⟩:=h
 obtain ⟨u,rfl,ru⟩:=vals1 r
 cases ru
 obtain ⟨its,rv,⟨o,ho,hc,n,hd⟩,hz⟩:=I.tuple hq
 have hlen:=rv.length
 rw [List.length_map] at hlen hz
 exact sorted_ofS h64 (fun A' Q' _ hQ=>wpAny_collect_seq p (.inr rfl) ho hc hd (fun h' kp=>hQ _ _ _ (strsAre_T rv) (List.Perm.refl _) (I.kept (t':=s.toks) kp)) (by rw [List.size_toArray];omega)) q
theorem call_sortedSA:CallR X (.builtin "sorted") (fun xs H Q=>∃ (p:Addr) (ls:List (List Nat)),xs=[.ref p]∧SqA X.K H p (ls.map T)∧ls.length<64∧∀ (ms:List (List Nat)) (D:Addr),H D=none->ms.Perm ls->ms.Pairwise (fun a b=>¬ b<a)->Q (.ref D) (upd H D (.lst (ms.map T)))) :=
 fun pins s σ H xs us Q I r ⟨p,ls,e,h,k⟩=>h.elim (fun h=>call_sortedT pins s σ H xs us Q I r ⟨p,ls,e,h,k⟩) fun h=>call_sortedTuS pins s σ H xs us Q I r ⟨p,ls,e,h,k⟩
theorem call_setA (hc:X.calm=true):CallR X (.type "set") (fun xs H Q=>∃ (p:Addr) (ls:List (List Nat)),xs=[.ref p]∧SqA X.K H p (ls.map T)∧ls.length+1<4096∧∀ D,H D=none->Q (.ref D) (upd H D (SetT X.prog X.w D (uniq ls)))) :=
 fun pins s σ H xs us Q I r ⟨p,ls,e,h,k⟩=>h.elim (fun h=>call_setT hc pins s σ H xs us Q I r ⟨p,ls,e,h,k⟩) fun h=>call_setTu hc pins s σ H xs us Q I r ⟨p,ls,e,h,k⟩
theorem ix_A:IxR X (fun x y H Q=>∃ (p:Addr) (xs:List V) (i:Int) (v:V),x = .ref p∧y = .int i∧SqA X.K H p xs∧atI xs i=some v∧Q v H) :=
 fun value slice pins s σ H x y v u Q I rx ry ⟨p,xs,i,z,e1,e2,h,k⟩ hs=>h.elim (fun h=>ix_list value slice pins s σ H x y v u Q I rx ry ⟨p,xs,i,z,e1,e2,h,k⟩ hs) fun h=>ix_tup value slice pins s σ H x y v u Q I rx ry ⟨p,xs,i,z,e1,e2,h,k⟩ hs
end
end L2
namespace L2
open PySem PyProof.Rows
set_option genInjectivity false in
structure CalF (P:Program)(w:World)(K:PySem.W.Frag)(mg:Str->Option Value)(base:Heap)(CX:CXT)(f:Addr)(k:Nat)(ps:List Str)(sp:Sp):Prop where
 ex:∃ fd:FuncData,FnOk P w K mg base CX k f fd ps sp∧PySem.W.keepIn K (.ref f)=true∧Binds K fd ps []
theorem Cal.val {P:Program}{w:World}{K:PySem.W.Frag}{mg:Str->Option Value}{base:Heap}{CX:CXT}{x:Str}{k:Nat}{ps:List Str}{sp:Sp}(c:Cal P w K mg base CX x k ps sp):∃ f,mg x=some (.ref f)∧CalF P w K mg base CX f k ps sp:=by
 obtain ⟨f,fd,F,hm,hk,hb⟩:=c.ex
 exact ⟨f,hm,⟨fd,F,hk,hb⟩⟩
def tCallL (f:Addr)(sp:Sp)(E:XK)(tf:TE)(t:TA):TE:=fun σ H Q=>tf σ H fun x H1=>x = .ref f∧tCall sp [] E t σ H1 Q
section
variable {X:Cx}
theorem pe_calL {CX:CXT}{x:Str}{j k:Nat}{ps:List Str}{sp:Sp}{E:XK}{e:Expr}{es:List Expr}{t:TA}{tf:TE}{p pos:Pos}{f:Addr}(c:CalF X.prog X.w X.K X.mg X.base CX f j ps sp)(hr:Room k X.A)(hx:Passes CX X E)(hf:PE X (.Name x p) tf)(ha:PA X (e::es) t)
  (hjk:j<=k) (he:starEach (e::es) X.env=(false,eval e X.env)::starEach es X.env:=by rfl) (hpl:(backTo pos (starEach es X.env)).any (·.1)=false:=by rfl) :
  PE X (.Call (.Name x p) (e::es) [] pos) (tCallL f sp E tf t):=by
 obtain ⟨fd,F,hk,hb⟩:=c.ex
 intro pins s σ H Q I h
 refine wpAny_Call_Name_kw (thn (hf pins s σ H _ I h) fun v s1 ⟨y,H1,I1,r,ey,q⟩=>?_)
 subst ey
 obtain rfl:v=Value.ref f:=r
 refine PySem.W.callWith_K (h₀:=X.base) I1.ok.mod.kin hk (thn (ha pos pins s1 σ H1 _ I1 q) fun us s2 ⟨vs,H2,I2,r2,q2⟩=>⟨I2.kIn,?_⟩) he hpl
 exact run_fn F (hr.mono hjk) hb .nil hx I2 r2 q2
end
end L2
namespace L2
open PySem PyProof.Rows PySem.Spec
section
variable {X:Cx}
end
end L2
namespace L2
open PySem PyProof.Rows PySem.Spec
section
variable {X:Cx}
theorem call_allB (hc:X.calm=true):CallR X (.builtin "all") (fun xs H Q=>∃ (p:Addr) (bs:List Bool),xs=[.ref p]∧SqL X.K H p (bs.map V.bl)∧Q (.bl (bs.all id)) H):=by
 intro pins s σ H xs us Q I r h
 obtain ⟨p,bs,rfl,hq,q⟩:=h
 obtain ⟨u,rfl,ru⟩:=vals1 r
 cases ru
 obtain ⟨its,rv,pl,_⟩:=I.list hq
 have hlen:=rv.length
 rw [List.length_map] at hlen
 have hat:∀ (i:Nat) (v:Value),its.toArray[i]?=some v->v = .bool (bs.getD i false):=fun i v e=>by
  have hi:i<bs.length:=by
   have:=(Array.getElem?_eq_some_iff.mp e).1
   rw [List.size_toArray] at this
   omega
  obtain ⟨w',e1,q1⟩:=rv.get (i:=i) (x:=.bl bs[i]) (by rw [List.getElem?_map,List.getElem?_eq_getElem hi];rfl)
  rw [List.getElem?_toArray,e1] at e
  obtain rfl:=Option.some.inj e
  rw [List.getD_eq_getElem?_getD,List.getElem?_eq_getElem hi]
  exact q1
 have hall:(List.range its.toArray.size).all (fun i=>bs.getD i false)=bs.all id:=by
  rw [List.size_toArray,<- hlen,Bool.eq_iff_iff,List.all_eq_true,List.all_eq_true]
  constructor
  ·intro h b hb
   obtain ⟨i,hi⟩:=List.getElem?_of_mem hb
   have hil:=(List.getElem?_eq_some_iff.mp hi).1
   have:=h i (List.mem_range.mpr hil)
   rw [List.getD_eq_getElem?_getD,hi] at this
   exact this
  ·intro h i hi
   have hil:=List.mem_range.mp hi
   rw [List.getD_eq_getElem?_getD,List.getElem?_eq_getElem hil]
   exact h _ (List.getElem_mem hil)
 have hne:p≠s.heap.objs.size:=by
  obtain ⟨o,ho,_⟩:=id pl.isList
  exact Nat.ne_of_lt (Heap.lt_size ho)
 refine call_all_walk (wpAny_pyIter_list pl.isList ⟨s.heap.objs.size,[s.heap.objs.size,p],[s.heap.objs.size],its.toArray.size,_,_,fun i=>bs.getD i false,rfl,Walks.list (A:=X.A.in1) (show X.A.in1.handled=none from I.ok.hd hc) s.heap.objs.size p hne its.toArray,⟨⟨_,Heap.get?_push_size _ rfl,rfl,rfl⟩,pl.isList.at fun o e=>Heap.get?_push_of_some _ e⟩,?_,fun h' tk hk=>?_⟩)
 ·intro i v s' Q' E' hP hQ
  rw [hat i v hP]
  exact wpAny_truthy_bool hQ
 ·rw [hall]
  exact ⟨.bl _,H,I.kept (fun b o e=>hk b o (by simp;exact Nat.ne_of_lt (Heap.lt_size e)) (Heap.get?_push_of_some _ e)),rfl,q⟩
end
end L2
namespace L2
open PySem
section
variable {X:Cx}
end
end L2
namespace L2
open PySem PyProof.Rows
section
variable {X:Cx}
theorem call_max2T (hc:X.calm=true):CallR X (.builtin "max") (fun xs H Q=>∃ a b:List Nat,xs=[T a,T b]∧Q (T (if a<b then b else a)) H):=by
 intro pins s σ H xs us Q I r h
 obtain ⟨a,b,rfl,q⟩:=h
 obtain ⟨u,w',rfl,⟨t,rfl⟩,⟨t',rfl⟩⟩:=vals2 r
 have hT:(s.heap.push { cls:=.type "tuple",data:=.seq #[.str (tx a) t,.str (tx b) t'] }).IsTuple s.heap.objs.size #[.str (tx a) t,.str (tx b) t']:=⟨_,Heap.get?_push_size _ rfl,rfl,0,rfl⟩
 have hsz:(s.heap.push { cls:=.type "tuple",data:=.seq #[.str (tx a) t,.str (tx b) t'] }).objs.size=s.heap.objs.size+1:=Heap.size_push ..
 have hit:∀ (i:Nat) (v:Value),(#[Value.str (tx a) t,.str (tx b) t']:Array Value)[i]?=some v->∃ t,v = .str (tx ([a,b].getD i [])) t:=fun i v e=>by
  match i with
  | 0=>exact ⟨t,(Option.some.inj e).symm⟩
  | 1=>exact ⟨t',(Option.some.inj e).symm⟩
  | i+2=>simp at e
 refine call_max_two (wpAny_pyIter_tuple hT ?_)
 refine ⟨_,[_,s.heap.objs.size],[_],_,_,_,fun i j=>decide ([a,b].getD j []<[a,b].getD i []),rfl,Walks.tuple (A:=X.A.in1) (show X.A.in1.handled=none from I.ok.hd hc) _ s.heap.objs.size (by rw [hsz];exact Nat.ne_of_lt (Nat.lt_succ_self _)) #[.str (tx a) t,.str (tx b) t'],
  ⟨⟨_,Heap.get?_push_size _ rfl,rfl,rfl⟩,hT.push _⟩,fun c hc=>?_,(by show 0<2;decide),fun i j v v' s' Q' E' hi hj h'=>?_,fun v h' tk hP hk=>?_⟩
 ·show c<((s.heap.push _).push _).objs.size
  rw [Heap.size_push,hsz]
  rcases List.mem_cons.mp hc with rfl | hc
  ·rw [hsz];exact Nat.lt_succ_self _
  ·rcases List.mem_cons.mp hc with rfl | hc
   ·exact Nat.lt_succ_of_lt (Nat.lt_succ_self _)
   ·cases hc
 ·obtain ⟨t1,rfl⟩:=hit i v hi
  obtain ⟨t2,rfl⟩:=hit j v' hj
  exact richCompare_gives (op:=.Gt) (typeIs_str s' _ t1) (typeIs_str s' _ t2) F.slot_str_gt F.entry_str_gt (F.args_str_gt_2 _ _) (gives_str_gt _ _ t1 t2) (fun x=>nomatch x) (by rw [tx_cps,tx_cps];exact h')
 ·have hold:∀ c o,s.heap.get? c=some o->h'.get? c=some o:=fun c o e=>by
   refine hk c o (fun hm=>?_) (Heap.get?_push_of_some _ (Heap.get?_push_of_some _ e))
   rcases List.mem_cons.mp hm with e1 | hm
   ·have:=Heap.lt_size e;rw [e1,hsz] at this;exact Nat.lt_irrefl _ (Nat.lt_of_succ_lt this)
   ·cases hm
  obtain ⟨t3,rfl⟩:=hit _ v hP
  refine ⟨T (if a<b then b else a),H,I.kept hold,?_,q⟩
  refine ⟨t3,?_⟩
  have e1:[a,b].getD (argBest (fun i j=>decide ([a,b].getD j []<[a,b].getD i [])) (2-1)) []=if a<b then b else a:=by
   show [a,b].getD (argBest (fun i j=>decide ([a,b].getD j []<[a,b].getD i [])) 1) []=_
   by_cases c:a<b
   ·simp [argBest,c]
   ·simp [argBest,c]
  exact congrArg (fun l=>Value.str (tx l) t3) e1
end
end L2
namespace L2
open PySem PySem.Spec PyProof.Rows
section
variable {X:Cx}
end
end L2
namespace L2
open PySem PySem.Spec PyProof.Rows
end L2
namespace LT
open PySem PyProof.Rows L2
section
variable {prog:Program}{w:World}{A:Around}{R:Result->Shared->Prop}{s:Shared}{l b:Addr}{its jts:Array Value}
end
section
variable {X:Cx}
end
end LT
namespace L2
open PySem PyProof.Rows PySem.Spec
section
variable {X:Cx}{e:Expr}{ta:TE}{f:Str}{pos:Pos}
end
end L2
namespace L2
open PySem PyProof.Rows PySem.Spec
section
variable {X:Cx}
end
end L2
set_option autoImplicit false
namespace SR
open PySem PyProof.Rows PySem.Spec
section
variable {prog:Program}{w:World}{A:Around}{E:Value->Shared->Prop}{s:Shared}{z:Array Keyed}{κ:KeyKind}{kd:SortKind}
end
section
variable {prog:Program}{w:World}{A:Around}{E:Value->Shared->Prop}{s:Shared}
end
end SR
set_option autoImplicit false
namespace LT
open PySem PyProof.Rows L2 SR
section
variable {prog:Program}{w:World}{A:Around}{R:Result->Shared->Prop}{s:Shared}{l b:Addr}{its jts:Array Value}
end
def keyL (f:Addr->Option (List (List Nat))):Value->Option (List (List Nat))
 | .ref a=>f a
 | _=>none
@[reducible] noncomputable def kindL (f:Addr->Option (List (List Nat))):KeyKind where
 α:=List (List Nat)
 blt a b:=decide (a<b)
 irrefl a:=by simpa using List.lt_irrefl a
 trans a b c h1 h2:=by simp only [decide_eq_true_eq] at *;exact List.lt_trans h1 h2
 negTrans a b c h:=by
  simp only [decide_eq_true_eq] at *
  by_cases hab:a<b
  ·exact .inl hab
  ·exact .inr (List.lt_of_le_of_lt (List.not_lt.mp hab) h)
 total a b h1 h2:=by simp only [decide_eq_false_iff_not] at *;exact List.le_antisymm (List.not_lt.mp h2) (List.not_lt.mp h1)
 keyOf:=keyL f
 dflt:=[]
end LT
namespace L2
open PySem PyProof.Rows PySem.Spec SR
section
variable {X:Cx}
def LLs (K:PySem.W.Frag)(H:Hp)(us:List (List (List Nat)))(bs:List Addr):Prop:=Dt.R2 (fun u b=>SqL K H b (u.map T)) us bs
end
end L2
namespace L2
open PySem PySem.Spec PyProof.Rows
def spl (c:Nat):List Nat->List (List Nat)
 | []=>[[]]
 | a::t=>if a=c then []::spl c t else match spl c t with
  | h::r=>(a::h)::r
  | []=>[[a]]
theorem spl_ne (c:Nat):∀ t,∃ h r,spl c t=h::r
 | []=>⟨[],[],rfl⟩
 | a::t=>by
  obtain ⟨h,r,e⟩:=spl_ne c t
  by_cases g:a=c
  ·exact ⟨[],spl c t,if_pos g⟩
  ·refine ⟨a::h,r,?_⟩
   show (if a=c then _ else _)=_
   rw [if_neg g,e]
def jnS (g:List Nat):List (List Nat)->List Nat
 | []=>[]
 | [l]=>l
 | l::m::r=>l++g++jnS g (m::r)
section
open Builtin Builtin.Str StrLaws
theorem occ1_go {t:List Nat}{c:Nat}:∀ (k a:Nat) (st:Array Nat×Nat),a+k<=t.length+1->st.snd<=a->st.fst.size<=a ->
  (forIn (List.range' a k) st (occBody (tx t) (tx [c]) (tx t).length ((tx t).length+1))).run.fst.toList=st.fst.toList++(List.range' a k).filter fun i=>decide (t[i]?=some c)
 | 0,a,st,_,_,_=>by simp
 | k+1,a,st,h1,h2,h3=>by
  have hl:(tx t).length=t.length:=tx_len t
  rw [List.range'_succ,List.forIn_cons]
  have hs:=subAt_one (tx t) c a
  rw [tx_cps] at hs
  have hx:(⟨#[c]⟩:Str)=tx [c]:=rfl
  rw [hx] at hs
  unfold occBody
  by_cases e:t[a]?=some c
  ·obtain ⟨g1,g2⟩:=hs.mpr e
   rw [if_pos ⟨⟨⟨by omega,h2⟩,g1⟩,g2⟩]
   rw [List.filter_cons_of_pos (p:=fun i=>decide (t[i]?=some c)) (decide_eq_true e)]
   have ih:=occ1_go (t:=t) (c:=c) k (a+1) (st.fst.push a,a+(tx [c]).length) (by omega) (by show a+(tx [c]).length<=a+1;rw [tx_len];exact Nat.le_refl _) (by show (st.fst.push a).size<=a+1;rw [Array.size_push];omega)
   refine ih.trans ?_
   rw [Array.toList_push,List.append_assoc]
   rfl
  ·rw [if_neg (fun z=>e (hs.mp ⟨z.1.2,z.2⟩))]
   rw [List.filter_cons_of_neg (p:=fun i=>decide (t[i]?=some c)) (fun z=>e (of_decide_eq_true z))]
   exact occ1_go (t:=t) (c:=c) k (a+1) (st.fst,st.snd) (by omega) (by show st.snd<=a+1;omega) (by show st.fst.size<=a+1;omega)
theorem occ1 (t:List Nat)(c:Nat):occurrences (tx t) (tx [c]) 0 (tx t).length ((tx t).length+1)=(List.range' 0 (t.length+1)).filter fun i=>decide (t[i]?=some c):=by
 have hl:(tx t).length=t.length:=tx_len t
 rw [occ_eq,show (tx t).length+1-0=t.length+1 by omega]
 have:=occ1_go (t:=t) (c:=c) (t.length+1) 0 (#[],0) (by omega) (Nat.le_refl _) (Nat.le_refl _)
 simpa using this
theorem sub_tx (t:List Nat)(a b:Nat):strSub (tx t) a b=tx ((t.drop a).take (b-a)):=by
 apply Str.ext'
 apply Array.toList_inj.mp
 rw [strSub_toList,tx_cps,tx_cps]
theorem parts1 (t:List Nat)(c:Nat):∀ (k a:Nat),a+k=t.length->partsFrom (tx t) 1 a ((List.range' a (k+1)).filter fun i=>decide (t[i]?=some c))=(spl c (t.drop a)).map tx
 | 0,a,h=>by
  have hl:(tx t).length=t.length:=tx_len t
  have e:t.drop a=[]:=List.drop_eq_nil_of_le (by omega)
  rw [e,show List.range' a (0+1)=[a] from rfl,List.filter_cons_of_neg (p:=fun i=>decide (t[i]?=some c)) (fun z=>by have:=of_decide_eq_true z;rw [List.getElem?_eq_none (by omega)] at this;cases this),List.filter_nil]
  show [strSub (tx t) a (tx t).length]=[tx []]
  rw [sub_tx,e,List.take_nil]
 | k+1,a,h=>by
  have hl:(tx t).length=t.length:=tx_len t
  have ih:=parts1 t c k (a+1) (by omega)
  have hd:t.drop a=t[a]::t.drop (a+1):=List.drop_eq_getElem_cons (by omega)
  have ha:t[a]?=some t[a]:=List.getElem?_eq_getElem (by omega)
  rw [List.range'_succ,hd]
  by_cases e:t[a]=c
  ·rw [List.filter_cons_of_pos (p:=fun i=>decide (t[i]?=some c)) (decide_eq_true (by rw [ha,e]))]
   show strSub (tx t) a a::partsFrom (tx t) 1 (a+1) _=_
   rw [ih,sub_tx,Nat.sub_self,List.take_zero]
   show _=(if t[a]=c then []::spl c (t.drop (a+1)) else _).map tx
   rw [if_pos e]
   rfl
  ·rw [List.filter_cons_of_neg (p:=fun i=>decide (t[i]?=some c)) (fun z=>e (Option.some.inj (ha.symm.trans (of_decide_eq_true z))))]
   have hgt:∀ i∈(List.range' (a+1) (k+1)).filter fun i=>decide (t[i]?=some c),a+1<=i:=fun i hi=>by
    have:=(List.mem_range'_1.mp (List.mem_filter.mp hi).1).1
    exact this
   obtain ⟨q,r,e2⟩:=spl_ne c (t.drop (a+1))
   have e3:spl c (t[a]::t.drop (a+1))=(t[a]::q)::r:=by
    show (if t[a]=c then _ else _)=_
    rw [if_neg e,e2]
   rw [e3]
   rw [e2] at ih
   generalize (List.range' (a+1) (k+1)).filter (fun i=>decide (t[i]?=some c))=cu at ih hgt
   have hone:∀ b,a+1<=b->strSub (tx t) (a+1) b=tx q->strSub (tx t) a b=tx (t[a]::q):=fun b hb hq=>by
    rw [sub_tx] at hq ⊢
    rw [hd,show b-a=(b-(a+1))+1 by omega,List.take_succ_cons,tx_inj hq]
   cases cu with
   | nil =>
    have g:strSub (tx t) (a+1) (tx t).length=tx q∧([]:List Str)=r.map tx:=List.cons.inj ih
    show [strSub (tx t) a (tx t).length]=_
    rw [hone _ (by omega) g.1,List.map_cons,<- g.2]
   | cons b cu =>
    have g:strSub (tx t) (a+1) b=tx q∧partsFrom (tx t) 1 (b+1) cu=r.map tx:=List.cons.inj ih
    show strSub (tx t) a b::partsFrom (tx t) 1 (b+1) cu=_
    rw [hone _ (hgt b (List.mem_cons_self ..)) g.1,g.2,List.map_cons]
theorem split_tx (t:List Nat)(c:Nat)(hc:c<256):Txt.split (tx t) (tx [c])=(spl c t).map tx:=by
 have hl:(tx t).length=t.length:=tx_len t
 have key:=parts1 t c t.length 0 (by omega)
 rw [List.drop_zero] at key
 unfold Txt.split
 by_cases h0:t.length=0
 ·obtain rfl:=List.length_eq_zero_iff.mp h0
  rw [if_pos (by rw [Bool.or_eq_true,decide_eq_true_iff];exact .inl (by rw [tx_len,tx_len];exact Nat.lt_succ_self 0))]
  rfl
 ·have hk:Builtin.Str.strKind (tx [c])=1:=by
   unfold Builtin.Str.strKind
   rw [if_pos (by simp [tx,hc])]
  have hk2:1<=Builtin.Str.strKind (tx t):=by
   unfold Builtin.Str.strKind
   split
   ·exact Nat.le_refl _
   ·split <;> omega
  have hno:¬ (decide ((tx t).length<(tx [c]).length)||decide (Builtin.Str.strKind (tx t)<Builtin.Str.strKind (tx [c])))=true:=by
   rw [Bool.or_eq_true,decide_eq_true_iff,decide_eq_true_iff,hk,tx_len,tx_len]
   rintro (z | z)
   ·have:t.length<1:=z
    omega
   ·omega
  rw [if_neg hno,occ1,partsBetween_eq,show (tx [c]).length=1 from tx_len [c]]
  by_cases he:((List.range' 0 (t.length+1)).filter fun i=>decide (t[i]?=some c)).isEmpty=true
  ·rw [if_pos he]
   rw [List.isEmpty_iff.mp he] at key
   rw [<- key]
   show _=[strSub (tx t) 0 (tx t).length]
   rw [sub_tx,List.drop_zero,Nat.sub_zero,hl,List.take_length]
  ·rw [if_neg he]
   exact key
end
end L2
namespace L2
open PySem PySem.Spec PyProof.Rows
section
open Builtin Builtin.Str
theorem split_here {prog:Program}{w:World}{A:Around}{E:Value->Shared->Prop}{s:Shared}{x y:Str}{t u:Tok}{Q:Value->Shared->Prop}(hy:(y.length==0)=false)
  (hq:∀ (l:List (Str×Tok)) (k:Nat),l.map (·.1)=Txt.split x y->Q (.ref s.heap.objs.size) { s with toks:=k,heap:=s.heap.push { cls:=.type "list",data:=.seq (strValues l).toArray } })
  (hsz:x.length<=sizeLine) (hs2:(partsBetween x (occurrences x y 0 x.length (x.length+1)) y.length).length<=sizeLine) :
  wpAny (model prog w) A (call (.builtin "str.split") [.str x t,.str y u]) Q E s:=by
 have hd:∀ b:Bool,b=true∨b=false:=fun b=>by cases b <;> simp
 rcases hd (decide (x.length<y.length)||decide (Builtin.Str.strKind x<Builtin.Str.strKind y)) with h1 | h1
 ·refine call_meets F.slot_str_split (typeIs_str _ _ _) F.entry_str_split (F.args_str_split_2 _ _)
   (meets_str_split_cannot_occur x y t u h1) ?_
  exact hq [(x,t)] s.toks (if_pos h1).symm
 rcases hd (occurrences x y 0 x.length (x.length+1)).isEmpty with hf | hf
 ·refine call_meets F.slot_str_split (typeIs_str _ _ _) F.entry_str_split (F.args_str_split_2 _ _)
   (meets_str_split_not_found x y t u h1 hy hf) ?_
  exact hq [(x,t)] s.toks ((if_neg (ne_true_of_eq_false h1)).trans (if_pos hf)).symm
 ·refine call_meets F.slot_str_split (typeIs_str _ _ _) F.entry_str_split (F.args_str_split_2 _ _)
   (meets_str_split_sep x y t u h1 hy hf hsz hs2) ?_
  have e:=strsFrom_eq s.toks (partsBetween x (occurrences x y 0 x.length (x.length+1)) y.length)
  have z:=fun k=>hq (numbered s.toks (partsBetween x (occurrences x y 0 x.length (x.length+1)) y.length)) k ((numbered_texts _ _).trans ((if_neg (ne_true_of_eq_false h1)).trans (if_neg (ne_true_of_eq_false hf))).symm)
  simp only [<- e] at z
  exact z _
end
theorem jnS_app {g:List Nat}(a b:List Nat):∀ r:List (List Nat),jnS g ((a++b)::r)=a++jnS g (b::r)
 | []=>rfl
 | m::r=>by
  show a++b++g++jnS g (m::r)=a++(b++g++jnS g (m::r))
  simp
theorem joinS_tx (g:List Nat)(ls:List (List Nat)):Txt.join (tx g) (ls.map tx)=tx (jnS g ls):=by
 unfold Txt.join Builtin.Str.glued
 have key:∀ (r:List (List Nat)) (a:List Nat),(r.map tx).foldl (fun acc (p:Str)=>acc++(tx g).cps++p.cps) (tx a).cps=(tx (jnS g (a::r))).cps:=by
  intro r
  induction r with
  | nil=>intro a;rfl
  | cons m r ih =>
   intro a
   rw [List.map_cons,List.foldl_cons,show (tx a).cps++(tx g).cps++(tx m).cps=(tx (a++g++m)).cps by simp [tx],ih,jnS_app]
   show (tx (a++g++jnS g (m::r))).cps=_
   rfl
 cases ls with
 | nil=>rfl
 | cons l ls =>
  rw [List.map_cons,List.drop_succ_cons,List.drop_zero,List.headD_cons,key]
section
variable {X:Cx}
theorem mt_split:MtR X "str.split" (fun x xs H Q=>∃ (t:List Nat) (c:Nat),x=T t∧xs=[T [c]]∧c<256∧t.length+2<=sizeLine∧∀ D,H D=none->Q (.ref D) (upd H D (.lst ((spl c t).map T)))):=by
 intro pins s σ H x xs v us Q I rx rs h
 obtain ⟨t,c,rfl,rfl,hc,hz,q⟩:=h
 obtain ⟨tk,rfl⟩:=rx
 obtain ⟨u,rfl,ru⟩:=vals1 rs
 obtain ⟨tk2,rfl⟩:=ru
 have hlen:(Builtin.Str.partsBetween (tx t) (Builtin.Str.occurrences (tx t) (tx [c]) 0 (tx t).length ((tx t).length+1)) (tx [c]).length).length<=sizeLine:=by
  have h1:=StrLaws.occ_length_le_len (tx t) (tx [c]) 0 (tx t).length ((tx t).length+1)
  rw [length_partsBetween]
  rw [tx_len] at h1
  rw [tx_len]
  omega
 refine split_here (by rw [tx_len];rfl) (fun l k hl=>?_) (by rw [tx_len];omega) hlen
 rw [split_tx t c hc] at hl
 have hv:Vals ((spl c t).map T) (strValues l):=by
  have z:=strs_back (strsAre_of_values l)
  rw [hl,List.map_map,List.map_map] at z
  have e:(spl c t).map (T∘(fun x:Str=>x.cps.toList)∘tx)=(spl c t).map T:=List.map_congr_left fun y _=>by show T (tx y).cps.toList=T y;rw [tx_cps]
  rw [<- e]
  exact z
 have hsz:((spl c t).map T).length<=sizeLine:=by
  have h2:=congrArg List.length (split_tx t c hc)
  rw [List.length_map] at h2 ⊢
  have h3:(Txt.split (tx t) (tx [c])).length<=(Builtin.Str.partsBetween (tx t) (Builtin.Str.occurrences (tx t) (tx [c]) 0 (tx t).length ((tx t).length+1)) (tx [c]).length).length:=by
   unfold Txt.split
   have h4:=length_partsBetween (tx t) (Builtin.Str.occurrences (tx t) (tx [c]) 0 (tx t).length ((tx t).length+1)) (tx [c]).length
   split
   ·rw [h4];exact Nat.succ_le_succ (Nat.zero_le _)
   ·split
    ·rw [h4];exact Nat.succ_le_succ (Nat.zero_le _)
    ·exact Nat.le_refl _
  omega
 exact ⟨.ref s.heap.objs.size,_,I.lnew (t':=k) hv hsz,rfl,q _ I.fresh⟩
theorem mt_joinS:MtR X "str.join" (fun x xs H Q=>∃ (g:List Nat) (p:Addr) (ls:List (List Nat)),x=T g∧xs=[.ref p]∧SqL X.K H p (ls.map T)∧ls.flatten.length+ls.length*g.length<=sizeLine∧Q (T (jnS g ls)) H):=by
 intro pins s σ H x xs v us Q I rx rs h
 obtain ⟨g,p,ls,rfl,rfl,hq,hz,q⟩:=h
 obtain ⟨t,rfl⟩:=rx
 obtain ⟨u,rfl,ru⟩:=vals1 rs
 cases ru
 obtain ⟨its,r,pl,_⟩:=I.list hq
 have hs:sizeLine=16777216:=sizeLine_eq
 refine join_list pl.isList (ys:=ls.map tx) (by simpa using strsAre_T r) ?_ fun t' k=>⟨T (jnS g ls),H,I.tok _,⟨t',by rw [joinS_tx]⟩,q⟩
 rw [sum_len_tx,tx_len,List.length_map]
 omega
def dgI (a:Int):List Nat:=(Str.ofString (toString a)).cps.toList
theorem call_strI:CallR X (.type "str") (fun xs H Q=>∃ a:Int,xs=[.int a]∧a.natAbs.log2<1920∧Q (T (dgI a)) H):=by
 intro pins s σ H xs us Q I r h
 obtain ⟨a,rfl,ha,q⟩:=h
 obtain ⟨u,rfl,ru⟩:=vals1 r
 obtain ⟨t,rfl⟩:=ru
 refine P.str_of_int ha ⟨T (dgI a),H,I.tok _,⟨s.toks,?_⟩,q⟩
 show Value.str _ _=Value.str (tx (dgI a)) _
 rw [dgI,tx_eta]
theorem call_intT:CallR X (.type "int") (fun xs H Q=>∃ (t:List Nat) (n:Int),xs=[T t]∧t.length<=640∧PySem.intText? (tx t)=some n∧Q (.int n) H):=by
 intro pins s σ H xs us Q I r h
 obtain ⟨t,n,rfl,hl,hn,q⟩:=h
 obtain ⟨u,rfl,ru⟩:=vals1 r
 obtain ⟨tk,rfl⟩:=ru
 exact PySem.W.KIN.call_text hn (by rw [tx_len];exact hl) ⟨.int n,H,I.tok _,⟨_,rfl⟩,q⟩
end
end L2
namespace L2
open PySem PySem.Spec PyProof.Rows
def tupLook (K:PySem.W.Frag)(d:List (List Nat))(v:Value):Bool:=match v with
 | .ref b=>match K.lookup b with
  | some o=>match o.cls,o.data with
   | .type "tuple",.seq its _=>decide (its.size<=1000)&&(its.toList.map fun v=>match v with | .str x _=>some x | _=>none)==d.map fun z=>some (tx z)
   | _,_=>false
  | none=>false
 | _=>false
theorem vals_look:∀ (ns:List (List Nat)) (us:List Value),(us.map fun v=>match v with | .str x _=>some x | _=>none)=ns.map (fun z=>some (tx z))->Vals (ns.map T) us
 | [],[],_=>.nil
 | [],_::_,h=>by cases h
 | _::_,[],h=>by cases h
 | n::ns,u::us,h=>by
  rw [List.map_cons,List.map_cons,List.cons.injEq] at h
  refine .cons ?_ (vals_look ns us h.2)
  have h1:=h.1
  split at h1
  ·obtain rfl:=Option.some.inj h1
   exact ⟨_,rfl⟩
  ·cases h1
theorem tupLook_of {K:PySem.W.Frag}(H:Hp){d:List (List Nat)}{v:Value}(h:tupLook K d v=true):∃ b,v = .ref b∧SqT K H b (d.map T):=by
 unfold tupLook at h
 split at h
 ·rename_i b
  refine ⟨b,rfl,?_⟩
  split at h
  ·rename_i o hk
   split at h
   ·rename_i its n hc hd
    rw [Bool.and_eq_true,decide_eq_true_iff,beq_iff_eq] at h
    exact .inr ⟨o,its,n,hk,hc,hd,Nat.le_trans h.1 (by rw [sizeLine_eq];decide),vals_look d _ h.2⟩
   ·cases h
  ·cases h
 ·cases h
abbrev TabD:=List (List Nat×List (List Nat))
def tabS (D:TabD):List (Str×List (List Nat)):=D.map fun p=>(tx p.1,p.2)
def tabIs (K:PySem.W.Frag)(a:Addr)(D:TabD):Bool:=KTD.tabLook (tupLook K) (fun b=>K.lookup b) a (tabS D)
def tabAt (t:List Nat):TabD->Option (List (List Nat))
 | []=>none
 | (x,d)::D=>if t=x then some d else tabAt t D
theorem datum_tab (t:List Nat):∀ D:TabD,KTD.datumAt (tx t) (tabS D)=tabAt t D
 | []=>rfl
 | (x,d)::D=>by
  show (if decide (tx t=tx x)=true then some d else KTD.datumAt (tx t) (tabS D))=if t=x then some d else tabAt t D
  rw [datum_tab t D]
  by_cases h:t=x
  ·rw [if_pos h,if_pos (decide_eq_true (by rw [h]))]
  ·rw [if_neg h,if_neg fun z=>h (tx_inj (of_decide_eq_true z))]
section
variable {X:Cx}{pins:List (Addr×Obj)}{σ:St}{H:Hp}{s:Shared}{a:Addr}{D:TabD}
abbrev TabR (K:PySem.W.Frag)(H:Hp):List (List Nat)->Value->Prop:=fun d v=>∃ b,v = .ref b∧SqT K H b (d.map T)
theorem tab_inv (I:Inv X pins σ H s)(h:tabIs X.K a D=true):KTD.TabOf (TabR X.K H) s.heap a (tabS D) :=
 KTD.tab_of_look (fun _ _ z=>tupLook_of H z) (fun b o z=>I.kIn b o z) h
theorem tab_typeIs (I:Inv X pins σ H s)(h:tabIs X.K a D=true):s.TypeIs (.ref a) "dict" ∧ ∀ b,Value.ref a = .ref b->∃ ob,s.heap.get? b=some ob∧ob.dict=none:=by
 obtain ⟨_,o,_,_,ho,hc,_⟩:=tab_inv I h
 exact ⟨⟨o,ho,hc.1⟩,fun b e=>by cases e;exact ⟨o,ho,hc.2.1⟩⟩
def TabV (K:PySem.W.Frag)(H:Hp)(o:Option (List (List Nat)))(v:Option Value):Prop:=match o,v with
 | some d,some v=>TabR K H d v
 | none,none=>True
 | _,_=>False
theorem tab_get (I:Inv X pins σ H s)(h:tabIs X.K a D=true)(t:List Nat):∃ v,TabV X.K H (tabAt t D) v∧∀ (A:Around) (tk:Tok) (Q:Option Value->Shared->Prop) (E:Value->Shared->Prop),Q v { s with toks:=s.toks+1 }->wpAny (model X.prog X.w) A (dictGet a (.str (tx t) tk)) Q E s:=by
 obtain ⟨_,o,es,ep,ho,_,hd,hr⟩:=tab_inv I h
 have hall:(es.all fun e=>isExactStrKey e.key)=true:=by
  rw [<- Array.all_toList]
  exact hr.exact
 have hf:findBy (fun k v=>v.isStr k) es (tx t)=(es.toList.find? fun e=>e.key.isStr (tx t)).map (·.val):=by
  cases es
  simp [findBy]
 refine ⟨findBy (fun k v=>v.isStr k) es (tx t),?_,fun A tk Q E q=>?_⟩
 ·rw [hf,<- datum_tab]
  cases hat:KTD.datumAt (tx t) (tabS D) with
  | none=>rw [hr.find_none hat];trivial
  | some d =>
   obtain ⟨v,hv,hR⟩:=hr.find_some hat
   rw [hv]
   exact hR
 ·unfold dictGet
  try with_reducible refine wpAny_holding ?_
  refine wpAny_bind (wpAny_pyHash_str (wpAny_bind ?_))
  refine KTD.kt_dictFind_strs (o:=o) (es:=es) (ep:=ep) ho hd hall ?_
  rw [findBy_of_findIdx?] at q
  cases hi:es.findIdx? fun e=>e.key.isStr (tx t) with
  | none=>rw [hi] at q;exact wpAny_pure q
  | some i=>rw [hi] at q;exact wpAny_bind (wpAny_dictEntries (s:={ s with toks:=s.toks+1 }) ho hd (wpAny_pure q))
theorem tab_contains (I:Inv X pins σ H s)(h:tabIs X.K a D=true)(t:List Nat)(A:Around)(tk:Tok)(Q:Bool->Shared->Prop)(E:Value->Shared->Prop)(q:Q (tabAt t D).isSome { s with toks:=s.toks+1 }):wpAny (model X.prog X.w) A (contains (.ref a) (.str (tx t) tk)) Q E s:=by
 obtain ⟨ti,_⟩:=tab_typeIs I h
 have hm:=(tab_inv I h).1
 obtain ⟨v,hv,hg⟩:=tab_get I h t
 unfold contains
 try with_reducible refine wpAny_holding ?_
 refine wpAny_bind (wpAny_specialOf ti slot_dict_contains.lookup ?_)
 show wpAny _ _ (if (some (Value.builtin "dict.__contains__")==some Value.none)=true then _ else _) _ E s
 rw [if_neg (by rw [beq_builtin_none];exact Bool.false_ne_true)]
 refine wpAny_bind (wpAny_callSpecialUnlessNone?_slot (name:=Str.ofString "__contains__") ti slot_dict_contains (wpAny_call_entry slot_dict_contains ti entry_dict_contains ?_ (args_dict_contains _ _)))
 show wpAny _ _ (dictGet a (.str (tx t) tk) >>= _) _ _ s
 refine wpAny_bind (hg _ _ _ _ ?_)
 cases hta:tabAt t D with
 | none =>
  rw [hta] at hv q
  cases v with
  | some v=>exact absurd hv id
  | none=>exact wpAny_bind (wpAny_pendingKey_other hm (wpAny_pure ⟨_,rfl,wpAny_truthy_bool q⟩))
 | some d =>
  rw [hta] at hv q
  cases v with
  | none=>exact absurd hv id
  | some v=>exact wpAny_pure ⟨_,rfl,wpAny_truthy_bool q⟩
end
section
variable {X:Cx}
theorem op_in_tab:OpR X (compareOp .In) (fun x y H Q=>∃ (t:List Nat) (a:Addr) (D:TabD),x=T t∧y = .ref a∧tabIs X.K a D=true∧Q (.bl (tabAt t D).isSome) H):=by
 intro pins s σ H x y v u Q I rx ry h
 obtain ⟨t,a,D,rfl,rfl,hD,q⟩:=h
 obtain ⟨tk,rfl⟩:=rx
 cases ry
 show wpAny _ _ (do return Value.bool (<- contains (.ref a) (.str (tx t) tk))) _ _ s
 exact wpAny_bind (tab_contains I hD t _ _ _ _ (wpAny_pure ⟨.bl _,H,I.tok _,rfl,q⟩))
theorem ix_tab:IxR X (fun x y H Q=>∃ (t:List Nat) (a:Addr) (D:TabD) (d:List (List Nat)),x = .ref a∧y=T t∧tabIs X.K a D=true∧tabAt t D=some d∧∀ b,SqT X.K H b (d.map T)->Q (.ref b) H):=by
 intro value slice pins s σ H x y v u Q I rx ry h hs
 obtain ⟨t,a,D,d,rfl,rfl,hD,hd,q⟩:=h
 cases rx
 obtain ⟨tk,rfl⟩:=ry
 obtain ⟨ti,_⟩:=tab_typeIs I hD
 obtain ⟨v,hv,hg⟩:=tab_get I hD t
 rw [hd] at hv
 cases v with
 | none=>exact absurd hv id
 | some v =>
  obtain ⟨b,rfl,hb⟩:=hv
  refine subscriptTail_builtinR (x:=.ref b) ti slot_dict_getitem.lookup ?_ hs
  unfold getItem
  try with_reducible refine wpAny_holding ?_
  refine wpAny_bind (wpAny_sequenceKey ti (by decide) ?_)
  refine wpAny_bind (wpAny_callSpecial?_slot (name:=Str.ofString "__getitem__") ti slot_dict_getitem (wpAny_call_entry slot_dict_getitem ti entry_dict_getitem ?_ (args_dict_getitem _ _)))
  show wpAny _ _ (dictGet a (.str (tx t) tk) >>= _) _ _ s
  exact wpAny_bind (hg _ _ _ _ (wpAny_pure ⟨_,rfl,wpAny_pure ⟨rfl,.ref b,H,I.tok _,rfl,q b hb⟩⟩))
def tTGet2 (K:PySem.W.Frag)(td ty tz:TE):TE:=fun σ H Q=>td σ H fun x H1=>∃ (a:Addr) (D:TabD),x = .ref a∧tabIs K a D=true∧ty σ H1 fun y H2=>tz σ H2 fun z H3=>∃ t,y=T t∧match tabAt t D with
 | some d=>∀ b,SqT K H3 b (d.map T)->Q (.ref b) H3
 | none=>Q z H3
variable {o e f:Expr}{td ty tz:TE}{apos cpos:Pos}
theorem pe_tget2 (ho:PE X o td)(he:PE X e ty)(hf:PE X f tz)(m:M2 X o "get" apos e f cpos):PE X (.Call (.Attribute o "get" apos) [e,f] [] cpos) (tTGet2 X.K td ty tz):=by
 intro pins s σ H Q I h
 refine wpAny_Call_method m.base m.few m.line PySem.F.plainAttrs_dict PySem.F.slot_dict_get PySem.F.type_dict_get (thn (ho pins s σ H _ I h) fun u s1 ⟨x,H1,I1,rx,a,D,ex,hD,q1⟩=>?_)
 subst ex
 obtain rfl:u=Value.ref a:=rx
 obtain ⟨t1,t2⟩:=tab_typeIs I1 hD
 refine ⟨t1,t2,?_⟩
 rw [m.trees]
 refine Calls.callWith_builtin rfl (Calls.evalArgs_plain (Calls.spliced_cons (thn (he pins s1 σ H1 _ I1 q1) fun iv s2 ⟨y,H2,I2,ry,q2⟩ =>
  Calls.spliced_cons (thn (hf pins s2 σ H2 _ I2 q2) fun fv s3 ⟨z,H3,I3,rz,t,ey,q3⟩=>Calls.spliced_nil ?_))))
 subst ey
 obtain ⟨tk,rfl⟩:=ry
 have hm:=(tab_inv I3 hD).1
 obtain ⟨t3,_⟩:=tab_typeIs I3 hD
 obtain ⟨v,hv,hg⟩:=tab_get I3 hD t
 refine wpAny_call_entry PySem.F.slot_dict_get t3 PySem.F.entry_dict_get ?_ (PySem.F.args_dict_get_3 _ _ _)
 show wpAny _ _ (dictGet a (.str (tx t) tk) >>= _) _ _ s3
 refine wpAny_bind (hg _ _ _ _ ?_)
 cases hta:tabAt t D with
 | none =>
  rw [hta] at hv q3
  cases v with
  | some v=>exact absurd hv id
  | none=>exact wpAny_bind (wpAny_missed_other hm (wpAny_pure ⟨_,rfl,z,H3,I3.tok _,rz,q3⟩))
 | some d =>
  rw [hta] at hv q3
  cases v with
  | none=>exact absurd hv id
  | some v =>
   obtain ⟨b,rfl,hb⟩:=hv
   exact wpAny_pure ⟨_,rfl,.ref b,H3,I3.tok _,rfl,q3 b hb⟩
end
end L2
namespace PySem
open Sem (wp)
theorem enum_new1 (l:Addr)(items:Array Value)(n:Nat)(dct:Option Addr)(sl:Array (Option Value))(t:Tok) :
  Meets (Builtin.«enumerate.__new__» ⟨[.type "enumerate",.ref l],[(Str.ofString "start",.int 1 t)]⟩) (fun _ R s=>s.heap.get? l=some { cls:=.type "list",dict:=dct,data:=.seq items n,slots:=sl } ∧
   R (.ok (.ret (.ref (s.heap.push { cls:=.type "list_iterator",data:=.fields #[.ref l,.int 0 0] }).objs.size)))
    { s with heap:=(s.heap.push { cls:=.type "list_iterator",data:=.fields #[.ref l,.int 0 0] }).push { cls:=.type "enumerate",data:=.fields #[.none,.bool false,.ref s.heap.objs.size,rawInt 1,.none,.none] } }) :=
 .of_wp fun prog w A R s h=>by
  obtain ⟨hp,g,d,tk,os⟩:=s
  obtain ⟨hl,h⟩:=h
  have hsub:=sub_enumerate
  have hL:Heap.IsList (Shared.heap ⟨hp,g,d,tk,os⟩) l items:=⟨_,hl,rfl,n,rfl⟩
  wp_walk using AutoSeq1.wpAny_loadPart' hl
  refine wpAny_stack_any fun st=>wpAny_pure ?_
  split
  ·rename_i c _ _ _ _ _
   cases (c==Value.type "enumerate") <;> (wp_walk using AutoSeq1.wpAny_loadPart' hl,wpAny_pyIter_list hL)
   ·exact ⟨_,rfl,h⟩
   ·exact ⟨_,rfl,h⟩
  ·wp_walk using AutoSeq1.wpAny_loadPart' hl,wpAny_pyIter_list hL
   exact ⟨_,rfl,h⟩
theorem ctx_kw {prog:Program}{w:World}{A:Around}{E:Value->Shared->Prop}{s:Shared}{T newId initId:String}{Bn Bi:Builtin}{args:List Value}{kw:List (Str×Value)}{S:Spec}{Q Q₁:Value->Shared->Prop}(ft:TypeCalled T newId initId)
  (hct:checkTypeCall T ⟨args,kw⟩=pure ()) (hcn:checkBuiltinCall newId ⟨.type T::args,kw⟩=pure ()) (eN:entryFor table newId=some Bn) (eI:entryFor table initId=some Bi) (g:Meets (Bn ⟨.type T::args,kw⟩) S) (h:S A.in1 (wants Q₁ E) s)
  (hn:∀ obj s₁,Q₁ obj s₁->s₁.TypeIs obj T∧argsOk initId ⟨obj::args,kw⟩∧∃ Si,Meets (Bi ⟨obj::args,kw⟩) Si∧Si A.in1 (wants (fun r s₂=>r = .none∧Q obj s₂) E) s₁):wpAny (model prog w) A (call (.type T) args kw) Q E s:=by
 obtain ⟨⟨c,tl,hmro⟩,hmade,hsub⟩:(∃ c tl,mroOf (.type T)=pure (c::tl))∧Bind.madeBy (.type T)=pure (some newId)∧isSubtype (.type T) (.type T)=pure true:=⟨ft.mro,ft.made,ft.sub⟩
 refine wpAny_call (codeAny_of_tree (show wpAny _ _ (callAny (.type T) _) _ _ _ from wpAny_pure ⟨Code.quiet_builtin _ (by decide +kernel),codeAny_builtin F.entry_type_call ?_⟩))
 rw [Around.under_plain (weight_type_call_type T args kw) (units_type_call_type T args kw)]
 have h1:=ft.notType
 have h2:=ft.canCreate
 repeat any_goals first | assumption | wp_step
 refine codeAny_mono (codeAny_call_builtin ft.plain eN (wpAny_of_eq hcn (g prog w A.in1 _ s h))) fun r s₁ hr=>?_
 match r,hr with
 | .error e,hr=>exact hr
 | .ok (.ret obj),hr =>
  obtain ⟨hT,hok,Si,gi,hsi⟩:=hn _ _ hr
  have hli:=ft.init.lookup
  have hbi:=ft.init.bind obj
  repeat any_goals first | assumption | wp_step
  refine codeAny_mono (codeAny_call_builtin ft.init.plain eI (ft.init.check _ _ _ _ _ _ _ _ hT hok (gi prog w A.in1 _ s₁ hsi))) fun r₂ s₂ hr₂=>?_
  match r₂,hr₂ with
  | .error e,hr₂=>exact hr₂
  | .ok (.ret r),hr₂ =>
   obtain ⟨rfl,hq⟩:=hr₂
   repeat any_goals first | assumption | wp_step
theorem init_kw {T newId:String}{self:Value}{rest:List Value}{kw:List (Str×Value)}(hl:typeLookup (.type T) "__init__" = pure (some (.builtin "object.__init__")))(hm:Bind.madeBy (.type T)=pure (some newId))(hne:(some newId != some "object.__new__")=true)(a:Value) :
  Meets (Builtin.«object.__init__» ⟨self::a::rest,kw⟩) (fun _ R s=>s.TypeIs self T∧R (.ok (.ret .none)) s):=by
 refine Meets.of_wp fun prog w A R s hs=>?_
 obtain ⟨hT,hq⟩:=hs
 repeat any_goals first | assumption | wp_step
 exact ⟨_,rfl,hq⟩
theorem call_enum1 {prog:Program}{w:World}{A:Around}{E:Value->Shared->Prop}{s:Shared}{l:Addr}{items:Array Value}{t:Tok}{Q:Value->Shared->Prop}(hL:s.heap.IsList l items)
  (h:∀ h',IsEnum h' (s.heap.objs.size+1) s.heap.objs.size 1 .none->h'.IsListIter s.heap.objs.size l 0->(∀ b o,s.heap.get? b=some o->h'.get? b=some o)->Q (.ref (s.heap.objs.size+1)) { s with heap:=h' }) :
  wpAny (model prog w) A (call (.type "enumerate") [.ref l] [(Str.ofString "start",.int 1 t)]) Q E s:=by
 obtain ⟨⟨c,dct,dt,sl⟩,hl,hc,n,hd⟩:=hL
 obtain rfl:c = .type "list" := hc
 obtain rfl:dt = .seq items n:=hd
 refine ctx_kw F.called_enumerate (by kernel_rfl) (by kernel_rfl) F.entry_enumerate_new F.entry_object_init (enum_new1 l items n dct sl t) (Q₁:=fun obj s₁=>s₁.TypeIs obj "enumerate" ∧ Q obj s₁) ⟨hl,?_⟩ fun obj _ hq=>⟨hq.1,?_,_,init_kw F.called_enumerate.init.lookup F.called_enumerate.made (by decide) _,hq.1,rfl,hq.2⟩
 ·have hz:(s.heap.push { cls:=.type "list_iterator",data:=.fields #[.ref l,.int 0 0] }).objs.size=s.heap.objs.size+1:=Heap.size_push ..
  have he:=Heap.get?_push_size (s.heap.push { cls:=.type "list_iterator",data:=.fields #[.ref l,.int 0 0] }) (o:={ cls:=.type "enumerate",data:=.fields #[.none,.bool false,.ref s.heap.objs.size,rawInt 1,.none,.none] }) rfl
  show _∧_
  rw [hz] at he ⊢
  exact ⟨⟨_,he,rfl⟩,h _ he ⟨_,Heap.get?_push_of_some _ (Heap.get?_push_size _ rfl),rfl,rfl⟩ fun b o x=>Heap.get?_push_of_some _ (Heap.get?_push_of_some _ x)⟩
 ·first | (show argsOk _ _;unfold argsOk;kernel_rfl) | kernel_rfl
end PySem
namespace L2
open PySem PyProof.Rows PySem.Spec
theorem cw_typeKw {M:Model}{A:Around}{E:Value->Shared->Prop}{s:Shared}{pos:Pos}{T:String}{args:List (Bool×Sem Value)}{keywords:List (Option Str×Sem Value)}{Q:Value->Shared->Prop}(hp:args.any (·.1)=false)(hk:keywords.any (·.1.isNone)=false)
  (h:wpAny M A (evalArgs (.type T) true args keywords) (fun a s₁=>wpAny M A (call (.type T) ([]++a.pos) a.kw) Q E s₁) E s):wpAny M A (callWith pos (.type T) [] args keywords) Q E s:=by
 unfold callWith
 refine wpAny_bind (wpAny_holding (thn h fun a s₁ h₁=>wpAny_bind (wpAny_standAt ?_)))
 simp only [hp,hk,Bool.or_false]
 exact wpAny_bind (wpAny_pure (wpAny_bind (thn h₁ fun r s₂ hr=>wpAny_bind (wpAny_holding (wpAny_point (wpAny_pure hr))))))
theorem draws_up {prog:Program}{w:World}{A:Around}{it:Addr}{fp:List Addr}{n:Nat}{P:Nat->Value->Prop}{St:Nat->Heap->Prop}(D:Draws prog w A it fp n P St):Draws prog w A it fp (n+1) (fun i x=>∃ j,i=j+1∧P j x) (fun i h=>∃ j,i=j+1∧St j h) where
 live:=fun _ h ⟨j,_,st⟩=>D.live j h st
 frame:=fun _ h h' ⟨j,e,st⟩ k=>⟨j,e,D.frame j h h' st k⟩
 item:=fun i s Q E hi ⟨j,e,st⟩ hQ=>by
  subst e
  exact D.item j s Q E (Nat.lt_of_succ_lt_succ hi) st fun x h' tk p q r=>hQ x h' tk ⟨j,rfl,p⟩ ⟨j+1,rfl,q⟩ r
 done:=fun s Q E ⟨j,e,st⟩ hE=>by
  obtain rfl:n=j:=Nat.succ.inj e
  exact D.done s Q E st hE
def Ite1 (K:PySem.W.Frag)(a:Addr):It :=
 ⟨fun i H=>∃ xs x,SqL K H a xs∧xs[i]?=some x,
  fun i H x H'=>∃ (T:Addr) (u:V),x = .ref T∧H T=none∧H'=upd H T (.tup [.int ((i+1:Nat):Int),u])∧∀ xs,SqL K H a xs->xs[i]?=some u,
  fun i H=>∃ xs,SqL K H a xs∧xs.length<=i⟩
theorem turn_enum1 {P:Program}{w:World}{K:PySem.W.Frag}{elts:List Expr}{x1}{pos:Pos}{a e it:Addr}(hne:e≠it)(hea:e≠a)(hai:a≠it) :
  Turn P w K (.Tuple elts x1 pos) (Ite1 K a) [e,it] e (fun i h=>(∃ old,IsEnum h e it ((i+1:Nat):Int) old)∧h.IsListIter it a i) where
 mem:=by simp
 obj:=fun i h st c hc=>by
  obtain ⟨⟨old,h1⟩,⟨o4,e4,c4,d4⟩⟩:=st
  simp only [List.mem_cons,List.not_mem_nil,or_false] at hc
  rcases hc with rfl | rfl
  ·exact ⟨_,h1,fun v z=>by cases z⟩
  ·exact ⟨_,e4,fun v z=>by rw [d4] at z;cases z⟩
 keep:=fun i h h' st k=>by
  obtain ⟨⟨old,h1⟩,h4⟩:=st
  exact ⟨⟨old,k e (by simp) _ h1⟩,h4.at fun o e=>k it (by simp) o e⟩
 item:=by
  intro X hP hw hK hc i pins s σ H E I hf st hg
  subst hP hw hK
  obtain ⟨xs,x,hq1,hx⟩:=hg
  obtain ⟨its,rv,p,hz⟩:=I.list hq1
  obtain ⟨u,hu,ru⟩:=rv.get hx
  obtain ⟨⟨old,h1⟩,h4⟩:=st
  have hi:i<its.toArray.size:=by
   have:=(List.getElem?_eq_some_iff.mp hu).1
   simpa using this
  refine wpAny_pyNext_enum_itemD (draws_up (Draws.list (A:=X.A.in1) (I.ok.hd hc) it a hai its.toArray)) h1 ⟨i,rfl,h4,p.isList⟩ (Nat.succ_lt_succ hi) hne (by simp [hne,hea]) fun v h' tk ⟨j,ej,hv⟩ z1 ⟨j2,ej2,z2,_⟩ z3 z4 z5=>?_
  obtain rfl:i=j:=Nat.succ.inj ej
  obtain rfl:i+1=j2:=Nat.succ.inj ej2
  obtain rfl:u=v:=by
   have:its.toArray[i]?=some u:=by simpa using hu
   exact Option.some.inj (this.symm.trans hv)
  refine ⟨_,rfl,wpAny_letOwnedTupleGo_enum (s:={ s with heap:=h',toks:=tk+1 }) z1 fun h'' y1 y2=>?_⟩
  have hT:H s.heap.objs.size=none:=I.hok.fresh (Nat.le_refl _)
  have I1:Inv X pins σ (upd H s.heap.objs.size (.tup [.int ((i+1:Nat):Int),x])) { s with heap:=s.heap.push { cls:=.type "tuple",data:=.seq #[.int ((i+1:Nat):Int) tk,u] },toks:=tk+1 } :=
   I.laid (t':=tk+1) (fun b u e=>Heap.get?_push_of_some _ e) (Nat.le_refl _) ⟨(by show 2<=sizeLine;rw [sizeLine_eq];decide),[.int ((i+1:Nat):Int) tk,u],.cons ⟨_,rfl⟩ (.cons ru .nil),⟨_,Heap.get?_push_size _ rfl,rfl,_,rfl⟩⟩
  have nf:∀ c∈[e,it],c≠s.heap.objs.size:=fun c hc e=>by
   have lt:∃ o,s.heap.get? c=some o:=by
    obtain ⟨o4,e4,_⟩:=id h4
    simp only [List.mem_cons,List.not_mem_nil,or_false] at hc
    rcases hc with rfl | rfl
    ·exact ⟨_,h1⟩
    ·exact ⟨_,e4⟩
   obtain ⟨o,ho⟩:=lt
   have:=Heap.lt_size ho
   rw [e] at this
   exact Nat.lt_irrefl _ this
  have hf1:∀ c∈[e,it],FpOk X pins (upd H s.heap.objs.size (.tup [.int ((i+1:Nat):Int),x])) c:=fun c hc=>by
   obtain ⟨f0,f⟩:=hf c hc
   exact ⟨by rw [upd_ne (nf c hc)];exact f0,f⟩
  have I2:Inv X pins σ (upd H s.heap.objs.size (.tup [.int ((i+1:Nat):Int),x])) { s with heap:=h'',toks:=tk+1 } :=
   Inv.turnedL (s:={ s with heap:=s.heap.push { cls:=.type "tuple",data:=.seq #[.int ((i+1:Nat):Int) tk,u] },toks:=tk+1 }) (t':=tk+1) (ch:=[e,it]) I1 (fun b o hb e=>by
    simp only [List.mem_cons,List.not_mem_nil,or_false,not_or] at hb
    obtain ⟨b1,b2⟩:=hb
    refine (y2.2 b b1).trans ?_
    rcases Heap.get?_push_cases e with ⟨rfl,rfl⟩ | e
    ·exact z3
    ·exact z5 b o b1 b2 e) hf1
  refine ⟨.ref s.heap.objs.size,_,I2,rfl,⟨s.heap.objs.size,x,rfl,hT,rfl,fun zs hzs=>by rw [I.list_inj hzs hq1];exact hx⟩,⟨⟨_,by exact_mod_cast y1⟩,?_⟩,fun c hc=>(hf1 c hc).1⟩
  exact z2.at fun o e=>(y2.2 it (Ne.symm hne)).trans e
 done:=by
  intro X hP hw hK hc i pins s σ H E I hf st hg
  subst hP hw hK
  obtain ⟨xs,hq1,hl⟩:=hg
  obtain ⟨its,rv,p,hz⟩:=I.list hq1
  obtain ⟨⟨old,h1⟩,h4⟩:=st
  have l1:=rv.length
  have D:Draws X.prog X.w X.A.in1 it [it,a] i (fun _ _=>True) (fun j h=>j=i∧h.IsListIter it a i∧h.IsList a its.toArray) :=
   { live:=fun _ _ ⟨_,⟨o,ho,_⟩,_⟩=>⟨o,ho⟩,frame:=fun _ _ _ ⟨e,s1,s2⟩ k=>⟨e,s1.at fun o e=>k it (by simp) o e,s2.at fun o e=>k a (by simp) o e⟩,item:=fun j _ _ _ hj ⟨e,_⟩ _=>absurd hj (by omega),done:=fun s Q E ⟨_,s1,s2⟩ hE=>wpAny_nextOf_list_end (I.ok.hd hc) s1 s2 (by simp;omega) hE }
  refine wpAny_pyNext_enum_endD D h1 ⟨rfl,h4,p.isList⟩ fun h' kk=>⟨rfl,?_⟩
  exact I.turnedL (t':=s.toks) (ch:=[e,it]) (fun b o hb e=>by
   simp only [List.mem_cons,List.not_mem_nil,or_false,not_or] at hb
   exact kk b o hb.2 e) hf
 self:=fun A i s Q E st h=>wpAny_pyIter_enum st.1.choose_spec h
section
variable {X:Cx}
def iEnum1 (K:PySem.W.Frag)(ta:TA):TI:=fun σ H R=>ta σ H fun xs H1=>∃ a:Addr,xs=[.ref a]∧(∃ us,SqL K H1 a us)∧R (Ite1 K a) H1
theorem pi_enum1 {a:Expr}{ta:TA}{p pos pos' pk pc:Pos}{elts:List Expr}{x1 x2}(hg:Gl X "enumerate")(hm:X.mg "enumerate" = none)(ha:PA X [a] ta)(hs:starEach [a] X.env=[(false,eval a X.env)]:=by rfl) :
  PI X (.Tuple elts x1 pos') (.Call (.Name "enumerate" p) [a] [⟨some (Str.ofString "start"),.Constant (.int 1) x2 pc,pk⟩] pos) (iEnum1 X.K ta):=by
 intro pins s σ H R I h
 show wpAny _ _ (do callWith pos (<- eval (.Name "enumerate" p) X.env) [] (backTo pos (starEach [a] X.env)) (backToKw pos (keywordEach [⟨some (Str.ofString "start"),.Constant (.int 1) x2 pc,pk⟩] X.env))) _ _ _
 refine wpAny_bind (ld_blt I hg hm boot_enumerate (cw_typeKw (by rw [hs];rfl) (by rfl) ?_))
 have ha':=ha pos pins s σ H _ I h
 rw [hs] at ha' ⊢
 refine evalArgs_kwB (by rfl) (thn ha' fun us s1 ⟨vs,H1,I1,r1,l1,e,⟨us1,hq1⟩,q⟩=>kws_cons (wpAny_Constant_int (kws_nil ?_)))
 subst e
 obtain ⟨u,rfl,ru⟩:=vals1 r1
 cases ru
 have I2:=I1.tok (s1.toks+1)
 obtain ⟨its,rv,p,hz⟩:=I2.list hq1
 refine call_enum1 (t:=s1.toks) p.isList fun h' z1 z2 z4=>?_
 refine wpAny_pyIter_enum (s:={ s1 with heap:=h',toks:=s1.toks+1 }) z1 ?_
 have fr:∀ c,s1.heap.objs.size<=c->FpOk X pins H1 c:=fun c hc=>I1.fpOk hc (I1.hok.fresh hc)
 obtain ⟨o,ho,_⟩:=p.isList
 have hla:=Heap.lt_size ho
 refine ⟨s1.heap.objs.size+1,[s1.heap.objs.size+1,s1.heap.objs.size],_,_,H1,rfl,I2.kept (t':=s1.toks+1) z4,turn_enum1 (Nat.succ_ne_self _) (fun z=>?_) (Nat.ne_of_lt hla),⟨⟨_,z1⟩,z2⟩,fun c hc=>fr c ?_,q⟩
 ·rw [<- z] at hla
  exact absurd (Nat.lt_of_succ_lt hla) (Nat.lt_irrefl _)
 ·simp only [List.mem_cons,List.not_mem_nil,or_false] at hc
  rcases hc with rfl | rfl
  ·exact Nat.le_add_right _ _
  ·exact Nat.le_refl _
theorem for_enum1 {K:PySem.W.Frag}{a:Addr}{xs:List V}{g:TG}{tb:TS}{D:Ends}{σ:St}{H:Hp}(Pv:Nat->St->Hp->Prop)(h0:Pv 0 σ H)(hl:∀ i σ H,i<=xs.length->Pv i σ H->SqL K H a xs)
  (hs:∀ i x T σ H,xs[i]?=some x->H T=none->Pv i σ H->g (.ref T) σ (upd H T (.tup [.int ((i+1:Nat):Int),x])) fun σ2 H2=>tb { D with nx:=Pv (i+1),ct:=Pv (i+1),bk:=D.nx } σ2 H2) (hd:∀ σ H,Pv xs.length σ H->D.nx σ H) :
  ∃ W:Nat->Nat->St->Hp->Prop,(∃ m,W 0 m σ H)∧∀ i m σ H,W i m σ H ->
   ((Ite1 K a).stop i H∧D.nx σ H)∨((Ite1 K a).go i H∧∃ N:St->Hp->Prop,(∀ σ' H',N σ' H'->∃ m',m'<m∧W (i+1) m' σ' H')∧∀ x H',(Ite1 K a).yld i H x H'->g x σ H' fun σ2 H2=>tb { D with nx:=N,ct:=N,bk:=D.nx } σ2 H2):=by
 refine ⟨fun i m σ H=>m=xs.length-i∧i<=xs.length∧Pv i σ H,⟨xs.length,by simp,Nat.zero_le _,h0⟩,?_⟩
 rintro i m σ H ⟨rfl,hi,p⟩
 have q1:=hl i σ H hi p
 by_cases hlt:i<xs.length
 ·refine .inr ⟨⟨xs,xs[i],q1,by simp [hlt]⟩,Pv (i+1),fun σ' H' p'=>⟨xs.length-(i+1),by omega,rfl,hlt,p'⟩,fun x H' y=>?_⟩
  obtain ⟨T,u,rfl,hT,rfl,y1⟩:=y
  exact hs i u T σ _ (y1 xs q1) hT p
 ·have e:i=xs.length:=by omega
  subst e
  exact .inl ⟨⟨xs,q1,Nat.le_refl _⟩,hd σ H p⟩
end
end L2
namespace L2
open PySem PyProof.Rows PySem.Spec
section
variable {X:Cx}
theorem call_anyB (hc:X.calm=true):CallR X (.builtin "any") (fun xs H Q=>∃ (p:Addr) (bs:List Bool),xs=[.ref p]∧SqL X.K H p (bs.map V.bl)∧Q (.bl (bs.any id)) H):=by
 intro pins s σ H xs us Q I r h
 obtain ⟨p,bs,rfl,hq,q⟩:=h
 obtain ⟨u,rfl,ru⟩:=vals1 r
 cases ru
 obtain ⟨its,rv,pl,_⟩:=I.list hq
 have hlen:=rv.length
 rw [List.length_map] at hlen
 have hat:∀ (i:Nat) (v:Value),its.toArray[i]?=some v->v = .bool (bs.getD i false):=fun i v e=>by
  have hi:i<bs.length:=by
   have:=(Array.getElem?_eq_some_iff.mp e).1
   rw [List.size_toArray] at this
   omega
  obtain ⟨w',e1,q1⟩:=rv.get (i:=i) (x:=.bl bs[i]) (by rw [List.getElem?_map,List.getElem?_eq_getElem hi];rfl)
  rw [List.getElem?_toArray,e1] at e
  obtain rfl:=Option.some.inj e
  rw [List.getD_eq_getElem?_getD,List.getElem?_eq_getElem hi]
  exact q1
 have hall:(List.range its.toArray.size).any (fun i=>bs.getD i false)=bs.any id:=by
  rw [List.size_toArray,<- hlen,Bool.eq_iff_iff,List.any_eq_true,List.any_eq_true]
  constructor
  ·rintro ⟨i,hi,h⟩
   have hil:=List.mem_range.mp hi
   rw [List.getD_eq_getElem?_getD,List.getElem?_eq_getElem hil] at h
   exact ⟨_,List.getElem_mem hil,h⟩
  ·rintro ⟨b,hb,h⟩
   obtain ⟨i,hi⟩:=List.getElem?_of_mem hb
   refine ⟨i,List.mem_range.mpr (List.getElem?_eq_some_iff.mp hi).1,?_⟩
   rw [List.getD_eq_getElem?_getD,hi]
   exact h
 have hne:p≠s.heap.objs.size:=by
  obtain ⟨o,ho,_⟩:=id pl.isList
  exact Nat.ne_of_lt (Heap.lt_size ho)
 refine call_any_walk (wpAny_pyIter_list pl.isList ⟨s.heap.objs.size,[s.heap.objs.size,p],[s.heap.objs.size],its.toArray.size,_,_,fun i=>bs.getD i false,rfl,Walks.list (A:=X.A.in1) (show X.A.in1.handled=none from I.ok.hd hc) s.heap.objs.size p hne its.toArray,⟨⟨_,Heap.get?_push_size _ rfl,rfl,rfl⟩,pl.isList.at fun o e=>Heap.get?_push_of_some _ e⟩,?_,fun h' tk hk=>?_⟩)
 ·intro i v s' Q' E' hP hQ
  rw [hat i v hP]
  exact wpAny_truthy_bool hQ
 ·rw [hall]
  exact ⟨.bl _,H,I.kept (fun b o e=>hk b o (by simp;exact Nat.ne_of_lt (Heap.lt_size e)) (Heap.get?_push_of_some _ e)),rfl,q⟩
end
end L2
namespace L2
open PySem PyProof.Rows PySem.Spec
theorem compFR {J:It}{vs:List V}{tc:TT}{te:TE}{σ:St}{H:Hp}{Q:VK}(p:V->Bool)(S:V->HO->Prop)(rd:Reads J H vs)(hn:vs.length<=sizeLine)
  (ht:∀ x H',x∈vs->Same H H'->∀ N:Bool->Hp->Prop,(∀ H'',Same H' H''->N (p x) H'')->tc (some x::σ) H' N)
  (he:∀ x H',x∈vs->p x=true->Same H H'->∀ N:V->Hp->Prop,(∀ c o H'',Same H' H''->H' c=none->H'' c=some o->S x o->N (.ref c) H'')->te (some x::σ) H' N)
  (hq:∀ D bs H',H D=none->Same H H'->H' D=some (.lst (bs.map V.ref))->Dt.R2 (fun v b=>b≠D∧H b=none∧∃ o,H' b=some o∧S v o) (vs.filter p) bs->Q (.ref D) H'):compAtF tc te σ Q J H:=by
 intro D hD
 refine ⟨fun i m ys H2=>m=vs.length-i∧i<=vs.length∧Same H H2∧H2 D=some (.lst ys)∧∃ bs:List Addr,ys=bs.map V.ref∧Dt.R2 (fun v b=>b≠D∧H b=none∧∃ o,H2 b=some o∧S v o) ((vs.take i).filter p) bs,⟨vs.length,rfl,Nat.zero_le _,fun b o e=>?_,upd_same,[],rfl,.nil⟩,?_⟩
 ·rw [upd_ne (ne_of_none e hD)]
  exact e
 ·rintro i m ys H2 ⟨rfl,hi,hs,hd,bs,rfl,hb⟩
  by_cases hlt:i<vs.length
  ·have hx:vs[i]?=some vs[i]:=List.getElem?_eq_getElem hlt
   have hbl:bs.length<=i:=by have:=hb.len;have:=filter_take_len p vs i;omega
   refine .inr ⟨rd.go i H2 hs hlt,by rw [List.length_map];omega,fun v H'=>p vs[i]=true∧Same H2 H'∧∃ c o,v = .ref c∧c≠D∧H c=none∧H' c=some o∧S vs[i] o,fun v H' ⟨hp,hs',c,o,ev,hcD,hcn,hc,ho⟩=>⟨hs' D _ hd,vs.length-(i+1),by omega,rfl,hlt,fun b o e=>?kp,upd_same,bs++[c],?app,?la⟩,
    fun H'=>p vs[i]=false∧Same H2 H',fun H' ⟨hp,hs'⟩=>⟨vs.length-(i+1),by omega,rfl,hlt,fun b o e=>hs' b o (hs b o e),hs' D _ hd,bs,rfl,?skp⟩,fun y H' hy=>?stp⟩
   case app =>
    rw [ev,List.map_append]
    rfl
   case kp =>
    rw [upd_ne (ne_of_none e hD)]
    exact hs' b o (hs b o e)
   case la =>
    rw [take_filter p vs i _ hx,hp]
    refine Dt.R2.snoc (hb.mono fun v b _ ⟨h1,h0,o2,h2,h3⟩=>⟨h1,h0,o2,by rw [upd_ne h1];exact hs' b _ h2,h3⟩) ⟨hcD,hcn,o,by rw [upd_ne hcD];exact hc,ho⟩
   case skp =>
    rw [take_filter p vs i _ hx,hp]
    rw [show (if false=true then [vs[i]] else [])=[] from rfl,List.append_nil]
    exact hb.mono fun v b _ ⟨h1,h0,o2,h2,h3⟩=>⟨h1,h0,o2,hs' b _ h2,h3⟩
   case stp =>
    obtain ⟨rfl,e2⟩:=rd.yl i H2 y H' hs hy
    have e4:y=vs[i]:=by rw [hx] at e2;exact (Option.some.inj e2).symm
    subst e4
    refine ht _ _ (List.getElem_mem hlt) hs _ fun H'' h''=>?_
    by_cases hp:p vs[i]=true
    ·rw [if_pos hp]
     refine he _ _ (List.getElem_mem hlt) hp (hs.trans h'') _ fun c o H3 h3 hc1 hc2 ho=>⟨hp,h''.trans h3,c,o,rfl,fun z=>?_,?_,hc2,ho⟩
     ·rw [z,h'' D _ hd] at hc1;cases hc1
     ·cases e:H c with
      | none=>rfl
      | some o=>rw [h'' c o (hs c o e)] at hc1;cases hc1
    ·rw [if_neg hp]
     exact ⟨by simpa using hp,h''⟩
  ·have e:i=vs.length:=by omega
   subst e
   rw [List.take_length] at hb
   exact .inl ⟨rd.st H2 hs,hq D bs H2 hD hs hd hb⟩
theorem compFO {J:It}{vs:List V}{tc:TT}{te:TE}{σ:St}{H:Hp}{Q:VK}(p:V->Bool)(ob:V->HO)(rd:Reads J H vs)(hn:vs.length<=sizeLine)
  (ht:∀ x H',x∈vs->Same H H'->∀ N:Bool->Hp->Prop,(∀ H'',Same H' H''->N (p x) H'')->tc (some x::σ) H' N)
  (he:∀ x H',x∈vs->p x=true->Same H H'->∀ N:V->Hp->Prop,(∀ c H'',Same H' H''->H' c=none->H'' c=some (ob x)->N (.ref c) H'')->te (some x::σ) H' N)
  (hq:∀ D bs H',H D=none->Same H H'->H' D=some (.lst (bs.map V.ref))->Dt.R2 (fun v b=>b≠D∧H b=none∧H' b=some (ob v)) (vs.filter p) bs->Q (.ref D) H'):compAtF tc te σ Q J H :=
 compFR p (fun v o=>o=ob v) rd hn ht (fun x H' hx hp s N hN=>he x H' hx hp s N fun c H2 s2 h1 h2=>hN c _ H2 s2 h1 h2 rfl) fun D bs H' h1 h2 h3 h4=>hq D bs H' h1 h2 h3 (h4.mono fun v b _ ⟨a,b,o,c,d⟩=>⟨a,b,d▸c⟩)
theorem compRl {J:It}{vs:List V}{te:TE}{σ:St}{H:Hp}{Q:VK}(S:V->HO->Prop)(rd:Reads J H vs)(hn:vs.length<=sizeLine)
  (he:∀ x H',x∈vs->Same H H'->∀ N:V->Hp->Prop,(∀ c o H'',Same H' H''->H' c=none->H'' c=some o->S x o->N (.ref c) H'')->te (some x::σ) H' N)
  (hq:∀ D bs H',H D=none->Same H H'->H' D=some (.lst (bs.map V.ref))->Dt.R2 (fun v b=>b≠D∧H b=none∧∃ o,H' b=some o∧S v o) vs bs->Q (.ref D) H'):compAt te σ Q J H:=by
 refine compAtF.un (compFR (fun _=>true) S rd hn (fun x H' _ s N hN=>hN H' (Same.refl _)) (fun x H' hx _ s N hN=>he x H' hx s N hN) fun D bs H' h1 h2 h3 h4=>?_)
 rw [List.filter_eq_self.mpr fun _ _=>rfl] at h4
 exact hq D bs H' h1 h2 h3 h4
section
variable {X:Cx}(K:PySem.W.Frag)(hK:X.K=K)
include hK
theorem op_in_tabK:OpR X (compareOp .In) (fun x y H Q=>∃ (t:List Nat) (a:Addr) (D:TabD),x=T t∧y = .ref a∧tabIs K a D=true∧Q (.bl (tabAt t D).isSome) H):=by
 subst hK
 exact op_in_tab
theorem call_anyK (hc:X.calm=true):CallR X (.builtin "any") (fun xs H Q=>∃ (p:Addr) (bs:List Bool),xs=[.ref p]∧SqL K H p (bs.map V.bl)∧Q (.bl (bs.any id)) H):=by
 subst hK
 exact call_anyB hc
theorem call_tupleK:CallR X (.type "tuple") (fun xs H Q=>∃ (p:Addr) (ys:List V),xs=[.ref p]∧SqL K H p ys∧∀ l,H l=none->Q (.ref l) (upd H l (.tup ys))):=by
 subst hK
 intro pins s σ H xs us Q I r h
 obtain ⟨p,ys,e,hq,q⟩:=h
 exact call_tuple_of pins s σ H xs us Q I r ⟨p,ys,e,.inl ⟨hq,q⟩⟩
end
end L2
namespace L2
open PySem PyProof.Rows PySem.Spec
section
variable {X:Cx}(K:PySem.W.Frag)(hK:X.K=K)
include hK
theorem mt_joinTK:MtR X "str.join" (fun x xs H Q=>∃ (g:List Nat) (p:Addr) (ls:List (List Nat)),x=T g∧xs=[.ref p]∧SqT K H p (ls.map T)∧ls.flatten.length+ls.length*g.length<=sizeLine∧Q (T (jnS g ls)) H):=by
 subst hK
 intro pins s σ H x xs v us Q I rx rs h
 obtain ⟨g,p,ls,rfl,rfl,hq,hz,q⟩:=h
 obtain ⟨t,rfl⟩:=rx
 obtain ⟨u,rfl,ru⟩:=vals1 rs
 cases ru
 obtain ⟨its,r,pl,_⟩:=I.tuple hq
 have hs:sizeLine=16777216:=sizeLine_eq
 refine join_tuple pl (ys:=ls.map tx) (by simpa using strsAre_T r) ?_ fun t' k=>⟨T (jnS g ls),H,I.tok _,⟨t',by rw [joinS_tx]⟩,q⟩
 rw [sum_len_tx,tx_len,List.length_map]
 omega
end
end L2
namespace L2
open PySem PyProof.Rows PySem.Spec
theorem dg_nat (m:Nat):dgI (m:Nat)=(Nat.toDigits 10 m).map Char.toNat:=PySem.W.KIN.signs_num m
theorem dg_tx (a:Int):tx (dgI a)=Str.ofString (toString a):=by rw [dgI,tx_eta]
theorem dg_read {n:Int}(h0:0<=n)(h1:n<10 ^ 10):PySem.intText? (tx (dgI n))=some n:=by
 rw [dg_tx]
 exact PySem.W.KIN.num_reads h0 h1
theorem dg_step {m:Nat}(h:¬ m<10):Nat.toDigits 10 m=Nat.toDigits 10 (m/10)++[Nat.digitChar (m % 10)]:=by
 have hm:m % 10<10:=Nat.mod_lt m (by decide)
 have t:=Nat.toDigits_append_toDigits (b:=10) (n:=m/10) (d:=m % 10) (by decide) (by omega) hm
 rw [Nat.div_add_mod,Nat.toDigits_of_lt_base hm] at t
 exact t.symm
theorem dg_len {k:Nat}:∀ {m:Nat},m<10 ^ (k+1)->(dgI (m:Nat)).length<=k+1:=by
 induction k with
 | zero =>
  intro m h
  rw [dg_nat,Nat.toDigits_of_lt_base (by simpa using h)]
  exact Nat.le_refl 1
 | succ k ih =>
  intro m h
  by_cases h1:m<10
  ·rw [dg_nat,Nat.toDigits_of_lt_base h1]
   exact Nat.succ_le_succ (Nat.zero_le _)
  ·rw [dg_nat,dg_step h1,List.map_append,List.length_append,<- dg_nat]
   have:m/10<10 ^ (k+1):=by
    rw [Nat.pow_succ] at h
    exact Nat.div_lt_of_lt_mul (by rw [Nat.mul_comm];exact h)
   exact Nat.succ_le_succ (ih this)
theorem dgc:∀ d:Nat,d<10->(Nat.digitChar d).toNat=48+d:=by decide
theorem dg_all (m:Nat):∀ c∈dgI (m:Nat),48<=c∧c<=57:=by
 induction m using Nat.strongRecOn with
 | _ m ih =>
  intro c hc
  by_cases h:m<10
  ·rw [dg_nat,Nat.toDigits_of_lt_base h] at hc
   obtain rfl:=List.mem_singleton.mp hc
   rw [dgc m h]
   omega
  ·rw [dg_nat,dg_step h,List.map_append,<- dg_nat] at hc
   rcases List.mem_append.mp hc with hc | hc
   ·exact ih (m/10) (by omega) c hc
   ·obtain rfl:=List.mem_singleton.mp hc
    rw [dgc _ (Nat.mod_lt m (by decide))]
    omega
theorem dg_ne (m:Nat):dgI (m:Nat)≠[]:=by
 rw [dg_nat]
 by_cases h:m<10
 ·rw [Nat.toDigits_of_lt_base h]
  exact fun z=>by cases z
 ·rw [dg_step h,List.map_append]
  exact fun z=>by cases (List.append_eq_nil_iff.mp z).2
theorem dg_head (m:Nat):1<=m->(dgI (m:Nat)).take 1≠[48]:=by
 induction m using Nat.strongRecOn with
 | _ m ih =>
  intro h1
  by_cases h:m<10
  ·rw [dg_nat,Nat.toDigits_of_lt_base h]
   show [(Nat.digitChar m).toNat]≠[48]
   rw [dgc m h]
   exact fun z=>by have:=(List.cons.inj z).1;omega
  ·rw [dg_nat,dg_step h,List.map_append,<- dg_nat,List.take_append_of_le_length (List.length_pos_iff.mpr (dg_ne _))]
   exact ih (m/10) (by omega) (by omega)
theorem spl_no {c:Nat}:∀ {a:List Nat},c∉a->spl c a=[a]
 | [],_=>rfl
 | x::a,h=>by
  have h1:¬ x=c:=fun z=>h (by rw [z];exact List.mem_cons_self ..)
  show (if x=c then []::spl c a else match spl c a with | h::r=>(x::h)::r | []=>[[x]])=_
  rw [if_neg h1,spl_no fun z=>h (List.mem_cons_of_mem _ z)]
theorem spl_app {c:Nat}(t:List Nat):∀ {a:List Nat},c∉a->spl c (a++c::t)=a::spl c t
 | [],_=>by
  show (if c=c then []::spl c t else _)=_
  rw [if_pos rfl]
 | x::a,h=>by
  have h1:¬ x=c:=fun z=>h (by rw [z];exact List.mem_cons_self ..)
  show (if x=c then []::spl c (a++c::t) else match spl c (a++c::t) with | h::r=>(x::h)::r | []=>[[x]])=_
  rw [if_neg h1,spl_app t fun z=>h (List.mem_cons_of_mem _ z)]
theorem spl_jn {c:Nat}:∀ {ls:List (List Nat)},ls≠[]->(∀ l∈ls,c∉l)->spl c (jnS [c] ls)=ls
 | [],h,_=>absurd rfl h
 | [l],_,h=>spl_no (h l (List.mem_cons_self ..))
 | l::m::r,_,h=>by
  show spl c (l++[c]++jnS [c] (m::r))=_
  rw [List.append_assoc]
  show spl c (l++c::jnS [c] (m::r))=_
  rw [spl_app _ (h l (List.mem_cons_self ..)),spl_jn (fun z=>by cases z) fun x hx=>h x (List.mem_cons_of_mem _ hx)]
theorem jn_mem {g:List Nat}{c:Nat}:∀ {ls:List (List Nat)},c∈jnS g ls->c∈g∨∃ l∈ls,c∈l
 | [],h=>by cases h
 | [l],h=>.inr ⟨l,List.mem_cons_self ..,h⟩
 | l::m::r,h=>by
  rcases List.mem_append.mp (show c∈l++g++jnS g (m::r) from h) with h | h
  ·rcases List.mem_append.mp h with h | h
   ·exact .inr ⟨l,List.mem_cons_self ..,h⟩
   ·exact .inl h
  ·rcases jn_mem h with h | ⟨x,hx,h⟩
   ·exact .inl h
   ·exact .inr ⟨x,List.mem_cons_of_mem _ hx,h⟩
theorem rows_jn {rs:List (List (List Nat))}(h0:rs≠[])(h1:∀ r∈rs,r≠[]∧∀ x∈r,10∉x∧32∉x):(spl 10 (jnS [10] (rs.map (jnS [32])))).map (spl 32)=rs:=by
 rw [spl_jn (fun z=>h0 (List.map_eq_nil_iff.mp z)) fun l hl=>?_,List.map_map]
 ·refine (List.map_congr_left fun r hr=>?_).trans (List.map_id _)
  exact spl_jn (h1 r hr).1 fun x hx=>((h1 r hr).2 x hx).2
 ·obtain ⟨r,hr,rfl⟩:=List.mem_map.mp hl
  intro z
  rcases jn_mem z with z | ⟨x,hx,z⟩
  ·simp at z
  ·exact ((h1 r hr).2 x hx).1 z
end L2
namespace L2
open PySem PyProof.Rows PySem.Spec
section
variable {X:Cx}
end
end L2
namespace L2
open PySem PyProof.Rows PySem.Spec
namespace SE
open PySem
section
variable {prog:Program}{w:World}{A:Around}{E:Value->Shared->Prop}{s:Shared}
end
end SE
section
variable {X:Cx}
end
end L2
namespace L2
open PySem PyProof.Rows PySem.Spec
section
variable {X:Cx}
def txTy (r:List V->Hp->VK->Prop)(t:TEx):TEx:=fun σ H Q R=>t σ H (fun x H1=>r [x] H1 Q) R
theorem pex_ty {T:String}{x:Str}{r:List V->Hp->VK->Prop}{e:Expr}{t:TEx}{p pos:Pos}(hc:CallR X.nox (.type T) r)(hg:Gl X x)(hm:X.mg x=none)(hv:bootBuiltins x=some (.type T))(ha:PEx X e t)(hn:x ≠ "__name__" := by decide)(hdb:(x==("__debug__" : Str))=false:=by decide)
  (he:starEach [e] X.env=(false,eval e X.env)::starEach [] X.env:=by rfl) (hpl:(backTo pos (starEach [] X.env)).any (·.1)=false:=by rfl):PEx X (.Call (.Name x p) [e] [] pos) (txTy r t):=by
 intro pins s σ H Q R I h
 refine wpAny_Call_Name_kw (ld_blt I hg hm hv ?_ hn hdb)
 refine PyProof.Rows.callWith_type1 ?_ he hpl
 rw [he]
 show wpAny _ _ (spliced ((false,eval e X.env)::backTo pos (starEach [] X.env))) _ _ s
 refine Calls.spliced_cons (thn (ha pins s σ H _ R I h) fun u s1 ⟨y,H1,I1,r1,q1⟩=>Calls.spliced_nil ?_)
 exact wpAny_mono (hc pins s1 σ H1 [y] [u] Q (I1.wish _) (.cons r1 .nil) q1) (fun w s3 ⟨z,H3,I3,r3,q3⟩=>⟨z,H3,I3.unwish,r3,q3⟩) fun _ _ z=>False.elim z
theorem ix_tup_K (K:PySem.W.Frag)(hK:X.K=K):IxR X (rIxT K):=by
 subst hK
 exact ix_tup
def tyRet (t:TEx):TTy:=fun D R σ H=>t σ H (fun v H1=>D.rt v H1) fun cls H1=>R σ cls H1
theorem py_ret {e:Expr}{t:TEx}{pos:Pos}(he:PEx X e t):PTy X [.Return (some e) pos] (tyRet t):=by
 intro pins s σ H D R I q
 refine wpAny_execs_cons (wpAny_Return_some (wpAny_mono (he pins s σ H _ _ I q) (fun v s1 ⟨y,H1,I1,r1,q1⟩=>?_) fun e' s1 z=>?_))
 ·exact ⟨y,σ,H1,I1,r1,q1⟩
 ·obtain ⟨a,cls,H1,s2,H',rfl,I2,Y,q2⟩:=z
  exact ⟨a,cls,σ,H1,s2,H',rfl,I2,Y,q2⟩
end
end L2
namespace K81
open PySem L2
seal L2.PSs L2.PS L2.PE L2.PA L2.PT L2.PW L2.PI L2.PG L2.PGs L2.PO L2.PTy L2.PH L2.OpR L2.CallR L2.IxR L2.SlR L2.UnR L2.PSet
def madeOf (s:List Nat)(m:Nat)(w:List Nat):Bool:=decide (0<w.length)&&(decide (w.length<=m)&&w.all fun c=>decide (c∈s))
def figs:List Nat:=[48,49,50,51,52,53,54,55,56,57]
def lets:List Nat:=[97,98,99,100,101,102]
def isNum (w:List Nat):Bool:=madeOf figs 60 w&&(decide (w=[48])||decide (w.take 1≠[48]))
def isTxt (w:List Nat):Bool:=madeOf lets 200 w
def formOf (w:List Nat):List Nat:=if isNum w=true then [110] else if isTxt w=true then [116] else [45]
def rowForm (r:List (List Nat)):List Nat:=((r.drop 1).map formOf).flatten
def asksD:TabD:=[([114,105,110,103],[[],[110]]),([114,111,119],[[],[110]]),([114,105,110,103,115],[[]]),([114,111,119,115],[[]]),([110,117,109,98,101,114],[[116]]),([108,101,97,100],[[116,116]]),([112,105,101,99,101],[[116,110,110,110]]),([112,108,97,99,101],[[116,110,116]])]
def aheadD:TabD:=[([97,108,108],[[116,111,112]]),([119,111,114,100,115],[[116,111,112],[119,111,114,100,115]]),([98,97,114],[[97,108,108],[119,111,114,100,115],[98,97,114]]),([97,115,107],[[97,108,108],[119,111,114,100,115],[98,97,114],[97,115,107]])]
def isAsk (r:List (List Nat)):Bool:=match tabAt (r.headD []) asksD with
 | some d=>decide (rowForm r∈d)
 | none=>false
def kindOf (r:List (List Nat)):Option (List Nat) :=
 if isAsk r=true then some [97,115,107]
 else if r.headD []=[97,108,108]∧rowForm r=[110,110] then some [97,108,108]
 else if r.headD []=[98,97,114]∧rowForm r=[116] then some [98,97,114]
 else if r.headD []=[119,111,114,100,115]∧rowForm r≠[]∧rowForm r=Wd.rep (rowForm r).length [116] then some [119,111,114,100,115]
 else none
def top (i:Nat):Stmt:=PySem.Challenge.pw_onceround_k81_answers_from_far.main.body.getD i (.Pass ⟨0,0,0,0⟩)
abbrev s_looked_kinds:Stmt:=top 14
abbrev s_looked_length:Stmt:=top 15
abbrev s_letters:Stmt:=top 16
abbrev s_looked:Stmt:=top 17
abbrev s_word_total:Stmt:=top 18
abbrev s_spelled:Stmt:=top 19
abbrev s_turned:Stmt:=top 24
abbrev s_turn_by:Stmt:=top 60
abbrev s_least_turn:Stmt:=top 61
abbrev s_times_of:Stmt:=top 62
abbrev s_root:Stmt:=top 63
abbrev s_is_least:Stmt:=top 64
abbrev s_filled:Stmt:=top 66
abbrev s_is_beginning:Stmt:=top 67
abbrev s_least_from:Stmt:=top 68
abbrev s_least_beginning:Stmt:=top 69
abbrev s_next_least:Stmt:=top 70
abbrev s_last_least:Stmt:=top 71
abbrev s_rests:Stmt:=top 73
abbrev s_count_above:Stmt:=top 74
abbrev s_up_to:Stmt:=top 75
abbrev s_first_word_above:Stmt:=top 76
abbrev s_looked_first:Stmt:=top 79
abbrev s_count_below:Stmt:=top 80
abbrev s_begin_place:Stmt:=top 81
abbrev s_ring_size:Stmt:=top 82
abbrev s_put_together:Stmt:=top 83
abbrev s_piece_at:Stmt:=top 84
abbrev s_looked_for:Stmt:=top 85
abbrev s_place_of:Stmt:=top 86
abbrev s_all_words:Stmt:=top 20
abbrev s_looked_web:Stmt:=top 28
abbrev s_Web_init:Stmt:=inClass (top 29) 0
abbrev s_looked_size:Stmt:=top 121
abbrev s_is_made_of:Stmt:=top 128
abbrev s_is_number:Stmt:=top 129
abbrev s_is_text:Stmt:=top 130
abbrev s_form_of:Stmt:=top 131
abbrev s_kind_of:Stmt:=top 132
abbrev s_looked_rows:Stmt:=top 133
abbrev s_told_words:Stmt:=top 134
abbrev s_read_page:Stmt:=top 135
abbrev s_far_told:Stmt:=top 142
abbrev s_far_or_refused:Stmt:=top 143
abbrev s_answered:Stmt:=top 144
abbrev s_answers:Stmt:=top 145
abbrev s__law_stir:Stmt:=top 147
abbrev s__law_text:Stmt:=top 148
abbrev s__law_least:Stmt:=top 149
abbrev s__law_ask:Stmt:=top 150
abbrev s__law_due:Stmt:=top 151
abbrev s_law:Stmt:=top 152
theorem sc_looked_kinds:FnScope ["kinds"] ["kinds"] (defScope s_looked_kinds):=⟨rfl,rfl,rfl,by decide +kernel,rfl,by decide +kernel,by decide +kernel⟩
theorem sc_looked_length:FnScope ["length", "kinds"] ["length", "kinds"] (defScope s_looked_length):=⟨rfl,rfl,rfl,by decide +kernel,rfl,by decide +kernel,by decide +kernel⟩
theorem sc_letters:FnScope ["kinds"] ["kinds"] (defScope s_letters):=⟨rfl,rfl,rfl,by decide +kernel,rfl,by decide +kernel,by decide +kernel⟩
theorem sc_looked:FnScope ["word", "kinds", "known", "sign"] ["word", "kinds"] (defScope s_looked):=⟨rfl,rfl,rfl,by decide +kernel,rfl,by decide +kernel,by decide +kernel⟩
theorem sc_word_total:FnScope ["length", "kinds", "total", "step"] ["length", "kinds"] (defScope s_word_total):=⟨rfl,rfl,rfl,by decide +kernel,rfl,by decide +kernel,by decide +kernel⟩
theorem sc_spelled:FnScope ["number", "length", "kinds", "backward", "rest", "step"] ["number", "length", "kinds"] (defScope s_spelled):=⟨rfl,rfl,rfl,by decide +kernel,rfl,by decide +kernel,by decide +kernel⟩
theorem sc_turned:FnScope ["text", "by", "start"] ["text", "by"] (defScope s_turned):=⟨rfl,rfl,rfl,by decide +kernel,rfl,by decide +kernel,by decide +kernel⟩
theorem sc_turn_by:FnScope ["word", "best", "by"] ["word"] (defScope s_turn_by):=⟨rfl,rfl,rfl,by decide +kernel,rfl,by decide +kernel,by decide +kernel⟩
theorem sc_least_turn:FnScope ["word"] ["word"] (defScope s_least_turn):=⟨rfl,rfl,rfl,by decide +kernel,rfl,by decide +kernel,by decide +kernel⟩
theorem sc_times_of:FnScope ["word", "size", "times"] ["word"] (defScope s_times_of):=⟨rfl,rfl,rfl,by decide +kernel,rfl,by decide +kernel,by decide +kernel⟩
theorem sc_root:FnScope ["word"] ["word"] (defScope s_root):=⟨rfl,rfl,rfl,by decide +kernel,rfl,by decide +kernel,by decide +kernel⟩
theorem sc_is_least:FnScope ["word"] ["word"] (defScope s_is_least):=⟨rfl,rfl,rfl,by decide +kernel,rfl,by decide +kernel,by decide +kernel⟩
theorem sc_filled:FnScope ["text", "length", "kinds"] ["text", "length", "kinds"] (defScope s_filled):=⟨rfl,rfl,rfl,by decide +kernel,rfl,by decide +kernel,by decide +kernel⟩
theorem sc_is_beginning:FnScope ["text", "length", "kinds"] ["text", "length", "kinds"] (defScope s_is_beginning):=⟨rfl,rfl,rfl,by decide +kernel,rfl,by decide +kernel,by decide +kernel⟩
theorem sc_least_from:FnScope ["beginning", "length", "kinds", "word", "going_on"] ["beginning", "length", "kinds"] (defScope s_least_from):=⟨rfl,rfl,rfl,by decide +kernel,rfl,by decide +kernel,by decide +kernel⟩
def csc_least_from_0:Scope:={ kind:=PySem.ScopeKind.function,names:=[ (PySem.Str.ofString ".0",PySem.NameKind.local),(PySem.Str.ofString "letter",PySem.NameKind.local),(PySem.Str.ofString "is_beginning",PySem.NameKind.globalImplicit),(PySem.Str.ofString "kinds",PySem.NameKind.free),(PySem.Str.ofString "length",PySem.NameKind.free),(PySem.Str.ofString "word",PySem.NameKind.free)],isGenerator:=false,isCoroutine:=false,more:=[]:PySem.Scope }
theorem cs_least_from_0:CompSc ["beginning", "length", "kinds", "word", "going_on"] ["letter", "beginning", "length", "kinds", "word", "going_on"] (defScope s_least_from) csc_least_from_0 "letter" := ⟨rfl,by decide +kernel,by decide +kernel,rfl,by decide +kernel,rfl,rfl,by decide +kernel,rfl,by decide +kernel,by decide +kernel⟩
theorem sc_least_beginning:FnScope ["text", "length", "kinds"] ["text", "length", "kinds"] (defScope s_least_beginning):=⟨rfl,rfl,rfl,by decide +kernel,rfl,by decide +kernel,by decide +kernel⟩
theorem sc_next_least:FnScope ["word", "kinds", "place", "letter", "text"] ["word", "kinds"] (defScope s_next_least):=⟨rfl,rfl,rfl,by decide +kernel,rfl,by decide +kernel,by decide +kernel⟩
theorem sc_last_least:FnScope ["word", "kinds", "last", "place", "lesser"] ["word", "kinds"] (defScope s_last_least):=⟨rfl,rfl,rfl,by decide +kernel,rfl,by decide +kernel,by decide +kernel⟩
theorem sc_rests:FnScope ["greater", "counted", "size"] ["greater"] (defScope s_rests):=⟨rfl,rfl,rfl,by decide +kernel,rfl,by decide +kernel,by decide +kernel⟩
def csc_rests_0:Scope:={ kind:=PySem.ScopeKind.function,names:=[ (PySem.Str.ofString ".0",PySem.NameKind.local),(PySem.Str.ofString "place",PySem.NameKind.local),(PySem.Str.ofString "counted",PySem.NameKind.free),(PySem.Str.ofString "greater",PySem.NameKind.free),(PySem.Str.ofString "size",PySem.NameKind.free)],isGenerator:=false,isCoroutine:=false,more:=[]:PySem.Scope }
theorem cs_rests_0:CompSc ["greater", "counted", "size"] ["place", "greater", "counted", "size"] (defScope s_rests) csc_rests_0 "place" := ⟨rfl,by decide +kernel,by decide +kernel,rfl,by decide +kernel,rfl,rfl,by decide +kernel,rfl,by decide +kernel,by decide +kernel⟩
theorem sc_count_above:FnScope ["word", "kinds", "greater", "counted", "last"] ["word", "kinds"] (defScope s_count_above):=⟨rfl,rfl,rfl,by decide +kernel,rfl,by decide +kernel,by decide +kernel⟩
def csc_count_above_0:Scope:={ kind:=PySem.ScopeKind.function,names:=[ (PySem.Str.ofString ".0",PySem.NameKind.local),(PySem.Str.ofString "letter",PySem.NameKind.local),(PySem.Str.ofString "LETTERS",PySem.NameKind.globalImplicit),(PySem.Str.ofString "kinds",PySem.NameKind.free)],isGenerator:=false,isCoroutine:=false,more:=[]:PySem.Scope }
theorem cs_count_above_0:CompSc ["word", "kinds", "greater", "counted", "last"] ["letter", "word", "kinds", "greater", "counted", "last"] (defScope s_count_above) csc_count_above_0 "letter" := ⟨rfl,by decide +kernel,by decide +kernel,rfl,by decide +kernel,rfl,rfl,by decide +kernel,rfl,by decide +kernel,by decide +kernel⟩
def csc_count_above_1:Scope:={ kind:=PySem.ScopeKind.function,names:=[ (PySem.Str.ofString ".0",PySem.NameKind.local),(PySem.Str.ofString "place",PySem.NameKind.local),(PySem.Str.ofString "counted",PySem.NameKind.free),(PySem.Str.ofString "greater",PySem.NameKind.free),(PySem.Str.ofString "last",PySem.NameKind.free)],isGenerator:=false,isCoroutine:=false,more:=[]:PySem.Scope }
theorem cs_count_above_1:CompSc ["word", "kinds", "greater", "counted", "last"] ["place", "word", "kinds", "greater", "counted", "last"] (defScope s_count_above) csc_count_above_1 "place" := ⟨rfl,by decide +kernel,by decide +kernel,rfl,by decide +kernel,rfl,rfl,by decide +kernel,rfl,by decide +kernel,by decide +kernel⟩
theorem sc_up_to:FnScope ["word", "kinds"] ["word", "kinds"] (defScope s_up_to):=⟨rfl,rfl,rfl,by decide +kernel,rfl,by decide +kernel,by decide +kernel⟩
theorem sc_first_word_above:FnScope ["length", "kinds", "number", "counted_up_to", "first", "last", "middle"] ["length", "kinds", "number", "counted_up_to"] (defScope s_first_word_above):=⟨rfl,rfl,rfl,by decide +kernel,rfl,by decide +kernel,by decide +kernel⟩
theorem sc_looked_first:FnScope ["first", "kinds"] ["first", "kinds"] (defScope s_looked_first):=⟨rfl,rfl,rfl,by decide +kernel,rfl,by decide +kernel,by decide +kernel⟩
theorem sc_count_below:FnScope ["least", "kinds"] ["least", "kinds"] (defScope s_count_below):=⟨rfl,rfl,rfl,by decide +kernel,rfl,by decide +kernel,by decide +kernel⟩
theorem sc_begin_place:FnScope ["first", "kinds", "least"] ["first", "kinds", "least"] (defScope s_begin_place):=⟨rfl,rfl,rfl,by decide +kernel,rfl,by decide +kernel,by decide +kernel⟩
theorem sc_ring_size:FnScope ["first", "kinds"] ["first", "kinds"] (defScope s_ring_size):=⟨rfl,rfl,rfl,by decide +kernel,rfl,by decide +kernel,by decide +kernel⟩
theorem sc_put_together:FnScope ["first", "kinds", "least", "many", "text", "at", "later"] ["first", "kinds", "least", "many"] (defScope s_put_together):=⟨rfl,rfl,rfl,by decide +kernel,rfl,by decide +kernel,by decide +kernel⟩
theorem sc_piece_at:FnScope ["first", "kinds", "place", "many", "size", "below", "least", "start"] ["first", "kinds", "place", "many"] (defScope s_piece_at):=⟨rfl,rfl,rfl,by decide +kernel,rfl,by decide +kernel,by decide +kernel⟩
theorem sc_looked_for:FnScope ["first", "kinds", "word"] ["first", "kinds", "word"] (defScope s_looked_for):=⟨rfl,rfl,rfl,by decide +kernel,rfl,by decide +kernel,by decide +kernel⟩
theorem sc_place_of:FnScope ["first", "kinds", "word", "size", "top", "by", "least", "later"] ["first", "kinds", "word"] (defScope s_place_of):=⟨rfl,rfl,rfl,by decide +kernel,rfl,by decide +kernel,by decide +kernel⟩
theorem sc_all_words:FnScope ["length", "kinds", "total"] ["length", "kinds"] (defScope s_all_words):=⟨rfl,rfl,rfl,by decide +kernel,rfl,by decide +kernel,by decide +kernel⟩
def csc_all_words_0:Scope:={ kind:=PySem.ScopeKind.function,names:=[ (PySem.Str.ofString ".0",PySem.NameKind.local),(PySem.Str.ofString "number",PySem.NameKind.local),(PySem.Str.ofString "spelled",PySem.NameKind.globalImplicit),(PySem.Str.ofString "kinds",PySem.NameKind.free),(PySem.Str.ofString "length",PySem.NameKind.free)],isGenerator:=false,isCoroutine:=false,more:=[]:PySem.Scope }
theorem cs_all_words_0:CompSc ["length", "kinds", "total"] ["number", "length", "kinds", "total"] (defScope s_all_words) csc_all_words_0 "number" := ⟨rfl,by decide +kernel,by decide +kernel,rfl,by decide +kernel,rfl,rfl,by decide +kernel,rfl,by decide +kernel,by decide +kernel⟩
theorem sc_looked_web:FnScope ["words", "word"] ["words"] (defScope s_looked_web):=⟨rfl,rfl,rfl,by decide +kernel,rfl,by decide +kernel,by decide +kernel⟩
theorem sc_Web_init:FnScope ["self", "words"] ["self", "words"] (defScope s_Web_init):=⟨rfl,rfl,rfl,by decide +kernel,rfl,by decide +kernel,by decide +kernel⟩
theorem sc_looked_size:FnScope ["length", "kinds"] ["length", "kinds"] (defScope s_looked_size):=⟨rfl,rfl,rfl,by decide +kernel,rfl,by decide +kernel,by decide +kernel⟩
theorem sc_is_made_of:FnScope ["word", "signs", "most"] ["word", "signs", "most"] (defScope s_is_made_of):=⟨rfl,rfl,rfl,by decide +kernel,rfl,by decide +kernel,by decide +kernel⟩
def csc_is_made_of_0:Scope:={ kind:=PySem.ScopeKind.function,names:=[ (PySem.Str.ofString ".0",PySem.NameKind.local),(PySem.Str.ofString "sign",PySem.NameKind.local),(PySem.Str.ofString "signs",PySem.NameKind.free)],isGenerator:=false,isCoroutine:=false,more:=[]:PySem.Scope }
theorem cs_is_made_of_0:CompSc ["word", "signs", "most"] ["sign", "word", "signs", "most"] (defScope s_is_made_of) csc_is_made_of_0 "sign" := ⟨rfl,by decide +kernel,by decide +kernel,rfl,by decide +kernel,rfl,rfl,by decide +kernel,rfl,by decide +kernel,by decide +kernel⟩
theorem sc_is_number:FnScope ["word"] ["word"] (defScope s_is_number):=⟨rfl,rfl,rfl,by decide +kernel,rfl,by decide +kernel,by decide +kernel⟩
theorem sc_is_text:FnScope ["word"] ["word"] (defScope s_is_text):=⟨rfl,rfl,rfl,by decide +kernel,rfl,by decide +kernel,by decide +kernel⟩
theorem sc_form_of:FnScope ["word"] ["word"] (defScope s_form_of):=⟨rfl,rfl,rfl,by decide +kernel,rfl,by decide +kernel,by decide +kernel⟩
theorem sc_kind_of:FnScope ["row", "form"] ["row"] (defScope s_kind_of):=⟨rfl,rfl,rfl,by decide +kernel,rfl,by decide +kernel,by decide +kernel⟩
def csc_kind_of_0:Scope:={ kind:=PySem.ScopeKind.function,names:=[ (PySem.Str.ofString ".0",PySem.NameKind.local),(PySem.Str.ofString "word",PySem.NameKind.local),(PySem.Str.ofString "form_of",PySem.NameKind.globalImplicit)],isGenerator:=false,isCoroutine:=false,more:=[]:PySem.Scope }
theorem cs_kind_of_0:CompSc ["row", "form"] ["word", "row", "form"] (defScope s_kind_of) csc_kind_of_0 "word" := ⟨rfl,by decide +kernel,by decide +kernel,rfl,by decide +kernel,rfl,rfl,by decide +kernel,rfl,by decide +kernel,by decide +kernel⟩
theorem sc_looked_rows:FnScope ["rows", "ahead", "number", "row", "kind"] ["rows"] (defScope s_looked_rows):=⟨rfl,rfl,rfl,by decide +kernel,rfl,by decide +kernel,by decide +kernel⟩
theorem sc_told_words:FnScope ["rows", "length", "kinds", "found", "row"] ["rows"] (defScope s_told_words):=⟨rfl,rfl,rfl,by decide +kernel,rfl,by decide +kernel,by decide +kernel⟩
theorem sc_read_page:FnScope ["text", "rows", "bars", "kept"] ["text"] (defScope s_read_page):=⟨rfl,rfl,rfl,by decide +kernel,rfl,by decide +kernel,by decide +kernel⟩
def csc_read_page_0:Scope:={ kind:=PySem.ScopeKind.function,names:=[(PySem.Str.ofString ".0",PySem.NameKind.local),(PySem.Str.ofString "line",PySem.NameKind.local)],isGenerator:=false,isCoroutine:=false,more:=[]:PySem.Scope }
theorem cs_read_page_0:CompSc ["text", "rows", "bars", "kept"] ["line", "text", "rows", "bars", "kept"] (defScope s_read_page) csc_read_page_0 "line" := ⟨rfl,by decide +kernel,by decide +kernel,rfl,by decide +kernel,rfl,rfl,by decide +kernel,rfl,by decide +kernel,by decide +kernel⟩
def csc_read_page_1:Scope:={ kind:=PySem.ScopeKind.function,names:=[(PySem.Str.ofString ".0",PySem.NameKind.local),(PySem.Str.ofString "row",PySem.NameKind.local)],isGenerator:=false,isCoroutine:=false,more:=[]:PySem.Scope }
theorem cs_read_page_1:CompSc ["text", "rows", "bars", "kept"] ["row", "text", "rows", "bars", "kept"] (defScope s_read_page) csc_read_page_1 "row" := ⟨rfl,by decide +kernel,by decide +kernel,rfl,by decide +kernel,rfl,rfl,by decide +kernel,rfl,by decide +kernel,by decide +kernel⟩
def csc_read_page_2:Scope:={ kind:=PySem.ScopeKind.function,names:=[ (PySem.Str.ofString ".0",PySem.NameKind.local),(PySem.Str.ofString "word",PySem.NameKind.cell),(PySem.Str.ofString "any",PySem.NameKind.globalImplicit),(PySem.Str.ofString "bars",PySem.NameKind.free)],isGenerator:=false,isCoroutine:=false,more:=[]:PySem.Scope }
theorem cs_read_page_2:CompScC ["text", "rows", "bars", "kept"] ["word", "text", "rows", "bars", "kept"] (defScope s_read_page) csc_read_page_2 "word" := ⟨rfl,by decide +kernel,by decide +kernel,rfl,by decide +kernel,rfl,rfl,by decide +kernel,rfl,by decide +kernel,by decide +kernel⟩
def csc_read_page_3:Scope:={ kind:=PySem.ScopeKind.function,names:=[ (PySem.Str.ofString ".0",PySem.NameKind.local),(PySem.Str.ofString "bar",PySem.NameKind.local),(PySem.Str.ofString "word",PySem.NameKind.free)],isGenerator:=false,isCoroutine:=false,more:=[]:PySem.Scope }
theorem cs_read_page_3 {env:Env}:CompSc ["word", "text", "rows", "bars", "kept"] ["bar", "word", "text", "rows", "bars", "kept"] (relabel csc_read_page_2 env) csc_read_page_3 "bar" := ⟨rfl,by decide +kernel,by decide +kernel,rfl,relabel_ok (by decide +kernel) env,rfl,rfl,by decide +kernel,rfl,by decide +kernel,by decide +kernel⟩
def csc_read_page_4:Scope:={ kind:=PySem.ScopeKind.function,names:=[ (PySem.Str.ofString ".0",PySem.NameKind.local),(PySem.Str.ofString "row",PySem.NameKind.local),(PySem.Str.ofString "ASKS",PySem.NameKind.globalImplicit),(PySem.Str.ofString "tuple",PySem.NameKind.globalImplicit)],isGenerator:=false,isCoroutine:=false,more:=[]:PySem.Scope }
theorem cs_read_page_4:CompSc ["text", "rows", "bars", "kept"] ["row", "text", "rows", "bars", "kept"] (defScope s_read_page) csc_read_page_4 "row" := ⟨rfl,by decide +kernel,by decide +kernel,rfl,by decide +kernel,rfl,rfl,by decide +kernel,rfl,by decide +kernel,by decide +kernel⟩
theorem sc_far_told:FnScope ["ask", "kinds"] ["ask"] (defScope s_far_told):=⟨rfl,rfl,rfl,by decide +kernel,rfl,by decide +kernel,by decide +kernel⟩
theorem sc_far_or_refused:FnScope ["ask"] ["ask"] (defScope s_far_or_refused):=⟨rfl,rfl,rfl,by decide +kernel,rfl,by decide +kernel,by decide +kernel⟩
theorem sc_answered:FnScope ["web", "ask"] ["web", "ask"] (defScope s_answered):=⟨rfl,rfl,rfl,by decide +kernel,rfl,by decide +kernel,by decide +kernel⟩
theorem sc_answers:FnScope ["text", "page"] ["text"] (defScope s_answers):=⟨rfl,rfl,rfl,by decide +kernel,rfl,by decide +kernel,by decide +kernel⟩
def csc_answers_0:Scope:={ kind:=PySem.ScopeKind.function,names:=[ (PySem.Str.ofString ".0",PySem.NameKind.local),(PySem.Str.ofString "ask",PySem.NameKind.local),(PySem.Str.ofString "answered",PySem.NameKind.globalImplicit),(PySem.Str.ofString "page",PySem.NameKind.free)],isGenerator:=false,isCoroutine:=false,more:=[]:PySem.Scope }
theorem cs_answers_0:CompSc ["text", "page"] ["ask", "text", "page"] (defScope s_answers) csc_answers_0 "ask" := ⟨rfl,by decide +kernel,by decide +kernel,rfl,by decide +kernel,rfl,rfl,by decide +kernel,rfl,by decide +kernel,by decide +kernel⟩
theorem sc__law_stir:FnScope ["cell", "k", "m"] ["cell", "k"] (defScope s__law_stir):=⟨rfl,rfl,rfl,by decide +kernel,rfl,by decide +kernel,by decide +kernel⟩
theorem sc__law_text:FnScope ["n", "size", "kinds"] ["n", "size", "kinds"] (defScope s__law_text):=⟨rfl,rfl,rfl,by decide +kernel,rfl,by decide +kernel,by decide +kernel⟩
def csc__law_text_0:Scope:={ kind:=PySem.ScopeKind.function,names:=[ (PySem.Str.ofString ".0",PySem.NameKind.local),(PySem.Str.ofString "k",PySem.NameKind.local),(PySem.Str.ofString "_law_stir",PySem.NameKind.globalImplicit),(PySem.Str.ofString "kinds",PySem.NameKind.free),(PySem.Str.ofString "n",PySem.NameKind.free)],isGenerator:=false,isCoroutine:=false,more:=[]:PySem.Scope }
theorem cs__law_text_0:CompSc ["n", "size", "kinds"] ["k", "n", "size", "kinds"] (defScope s__law_text) csc__law_text_0 "k" := ⟨rfl,by decide +kernel,by decide +kernel,rfl,by decide +kernel,rfl,rfl,by decide +kernel,rfl,by decide +kernel,by decide +kernel⟩
theorem sc__law_least:FnScope ["word"] ["word"] (defScope s__law_least):=⟨rfl,rfl,rfl,by decide +kernel,rfl,by decide +kernel,by decide +kernel⟩
def csc__law_least_0:Scope:={ kind:=PySem.ScopeKind.function,names:=[ (PySem.Str.ofString ".0",PySem.NameKind.local),(PySem.Str.ofString "k",PySem.NameKind.local),(PySem.Str.ofString "word",PySem.NameKind.free)],isGenerator:=false,isCoroutine:=false,more:=[]:PySem.Scope }
theorem cs__law_least_0:CompSc ["word"] ["k", "word"] (defScope s__law_least) csc__law_least_0 "k" := ⟨rfl,by decide +kernel,by decide +kernel,rfl,by decide +kernel,rfl,rfl,by decide +kernel,rfl,by decide +kernel,by decide +kernel⟩
theorem sc__law_ask:FnScope ["cell", "long", "n", "far", "kinds", "size", "letters_many", "first", "place", "many", "word"] ["cell", "long"] (defScope s__law_ask):=⟨rfl,rfl,rfl,by decide +kernel,rfl,by decide +kernel,by decide +kernel⟩
theorem sc__law_due:FnScope ["ask", "told"] ["ask"] (defScope s__law_due):=⟨rfl,rfl,rfl,by decide +kernel,rfl,by decide +kernel,by decide +kernel⟩
theorem sc_law:FnScope ["script", "web", "asks", "due", "ask", "text", "found"] ["script"] (defScope s_law):=⟨rfl,rfl,rfl,by decide +kernel,rfl,by decide +kernel,by decide +kernel⟩
def csc_law_0:Scope:={ kind:=PySem.ScopeKind.function,names:=[ (PySem.Str.ofString ".0",PySem.NameKind.local),(PySem.Str.ofString "cell",PySem.NameKind.local),(PySem.Str.ofString "_law_ask",PySem.NameKind.globalImplicit)],isGenerator:=false,isCoroutine:=false,more:=[]:PySem.Scope }
theorem cs_law_0:CompSc ["script", "web", "asks", "due", "ask", "text", "found"] ["cell", "script", "web", "asks", "due", "ask", "text", "found"] (defScope s_law) csc_law_0 "cell" := ⟨rfl,by decide +kernel,by decide +kernel,rfl,by decide +kernel,rfl,rfl,by decide +kernel,rfl,by decide +kernel,by decide +kernel⟩
def csc_law_1:Scope:={ kind:=PySem.ScopeKind.function,names:=[ (PySem.Str.ofString ".0",PySem.NameKind.local),(PySem.Str.ofString "ask",PySem.NameKind.local),(PySem.Str.ofString "_law_due",PySem.NameKind.globalImplicit)],isGenerator:=false,isCoroutine:=false,more:=[]:PySem.Scope }
theorem cs_law_1:CompSc ["script", "web", "asks", "due", "ask", "text", "found"] ["ask", "script", "web", "asks", "due", "", "text", "found"] (defScope s_law) csc_law_1 "ask" := ⟨rfl,by decide +kernel,by decide +kernel,rfl,by decide +kernel,rfl,rfl,by decide +kernel,rfl,by decide +kernel,by decide +kernel⟩
def csc_law_2:Scope:={ kind:=PySem.ScopeKind.function,names:=[(PySem.Str.ofString ".0",PySem.NameKind.local),(PySem.Str.ofString "ask",PySem.NameKind.local)],isGenerator:=false,isCoroutine:=false,more:=[]:PySem.Scope }
theorem cs_law_2:CompSc ["script", "web", "asks", "due", "ask", "text", "found"] ["ask", "script", "web", "asks", "due", "", "text", "found"] (defScope s_law) csc_law_2 "ask" := ⟨rfl,by decide +kernel,by decide +kernel,rfl,by decide +kernel,rfl,rfl,by decide +kernel,rfl,by decide +kernel,by decide +kernel⟩
set_option genInjectivity false in
structure Adr where
 BadKinds:Addr
 BadWord:Addr
 NoSuch:Addr
 TooMany:Addr
 OnceError:Addr
 BadText:Addr
 Web:Addr
 ASKS:Addr
 AHEAD:Addr
 u_LETTERS:Value
 u_LONGEST:Value
 u_MOST_WORDS:Value
 u_MOST_OF_A_WEB:Value
 u_LONGEST_OF_A_WEB:Value
 u_MOST_OF_A_RULE:Value
 u_LONGEST_OF_A_RULE:Value
 u_FIGURES:Value
 u_MOST_FIGURES:Value
 u_MOST_LETTERS:Value
 u_MOST_OF_A_PIECE:Value
set_option genInjectivity false in
structure Txt (K:PySem.W.Frag)(mg:Str->Option Value)(ad:Adr):Prop where
 b_all:mg "all" = none
 b_any:mg "any" = none
 b_enumerate:mg "enumerate" = none
 b_int:mg "int" = none
 b_isinstance:mg "isinstance" = none
 b_len:mg "len" = none
 b_max:mg "max" = none
 b_min:mg "min" = none
 b_range:mg "range" = none
 b_reversed:mg "reversed" = none
 b_set:mg "set" = none
 b_sorted:mg "sorted" = none
 b_str:mg "str" = none
 b_sum:mg "sum" = none
 b_tuple:mg "tuple" = none
 b_zip:mg "zip" = none
 m_BadKinds:mg "BadKinds" = some (.ref ad.BadKinds)
 m_BadWord:mg "BadWord" = some (.ref ad.BadWord)
 m_NoSuch:mg "NoSuch" = some (.ref ad.NoSuch)
 m_TooMany:mg "TooMany" = some (.ref ad.TooMany)
 m_OnceError:mg "OnceError" = some (.ref ad.OnceError)
 m_BadText:mg "BadText" = some (.ref ad.BadText)
 m_Web:mg "Web" = some (.ref ad.Web)
 m_ASKS:mg "ASKS" = some (.ref ad.ASKS)
 m_AHEAD:mg "AHEAD" = some (.ref ad.AHEAD)
 x_BadKinds:Exc K mg "BadKinds" ad.BadKinds
 x_BadWord:Exc K mg "BadWord" ad.BadWord
 x_NoSuch:Exc K mg "NoSuch" ad.NoSuch
 x_TooMany:Exc K mg "TooMany" ad.TooMany
 g_LETTERS:mg "LETTERS" = some ad.u_LETTERS
 r_LETTERS:RelV (T [97,98,99,100,101,102]) ad.u_LETTERS
 g_LONGEST:mg "LONGEST" = some ad.u_LONGEST
 r_LONGEST:RelV (.int 24) ad.u_LONGEST
 g_MOST_WORDS:mg "MOST_WORDS" = some ad.u_MOST_WORDS
 r_MOST_WORDS:RelV (.int 4096) ad.u_MOST_WORDS
 g_MOST_OF_A_WEB:mg "MOST_OF_A_WEB" = some ad.u_MOST_OF_A_WEB
 r_MOST_OF_A_WEB:RelV (.int 64) ad.u_MOST_OF_A_WEB
 g_LONGEST_OF_A_WEB:mg "LONGEST_OF_A_WEB" = some ad.u_LONGEST_OF_A_WEB
 r_LONGEST_OF_A_WEB:RelV (.int 8) ad.u_LONGEST_OF_A_WEB
 g_MOST_OF_A_RULE:mg "MOST_OF_A_RULE" = some ad.u_MOST_OF_A_RULE
 r_MOST_OF_A_RULE:RelV (.int 64) ad.u_MOST_OF_A_RULE
 g_LONGEST_OF_A_RULE:mg "LONGEST_OF_A_RULE" = some ad.u_LONGEST_OF_A_RULE
 r_LONGEST_OF_A_RULE:RelV (.int 8) ad.u_LONGEST_OF_A_RULE
 g_FIGURES:mg "FIGURES" = some ad.u_FIGURES
 r_FIGURES:RelV (T [48,49,50,51,52,53,54,55,56,57]) ad.u_FIGURES
 g_MOST_FIGURES:mg "MOST_FIGURES" = some ad.u_MOST_FIGURES
 r_MOST_FIGURES:RelV (.int 60) ad.u_MOST_FIGURES
 g_MOST_LETTERS:mg "MOST_LETTERS" = some ad.u_MOST_LETTERS
 r_MOST_LETTERS:RelV (.int 200) ad.u_MOST_LETTERS
 g_MOST_OF_A_PIECE:mg "MOST_OF_A_PIECE" = some ad.u_MOST_OF_A_PIECE
 r_MOST_OF_A_PIECE:RelV (.int 200) ad.u_MOST_OF_A_PIECE
 k_asks:tabIs K ad.ASKS asksD=true
 k_ahead:tabIs K ad.AHEAD aheadD=true
 e_KK:PySem.W.exmOne K (.ref ad.BadKinds) (.ref ad.BadKinds)=some true
 e_KW:PySem.W.exmOne K (.ref ad.BadKinds) (.ref ad.BadWord)=some false
 e_KM:PySem.W.exmOne K (.ref ad.BadKinds) (.ref ad.TooMany)=some false
 e_KS:PySem.W.exmOne K (.ref ad.BadKinds) (.ref ad.NoSuch)=some false
 e_WK:PySem.W.exmOne K (.ref ad.BadWord) (.ref ad.BadKinds)=some false
 e_WW:PySem.W.exmOne K (.ref ad.BadWord) (.ref ad.BadWord)=some true
 e_WM:PySem.W.exmOne K (.ref ad.BadWord) (.ref ad.TooMany)=some false
 e_WS:PySem.W.exmOne K (.ref ad.BadWord) (.ref ad.NoSuch)=some false
 e_MK:PySem.W.exmOne K (.ref ad.TooMany) (.ref ad.BadKinds)=some false
 e_MW:PySem.W.exmOne K (.ref ad.TooMany) (.ref ad.BadWord)=some false
 e_MM:PySem.W.exmOne K (.ref ad.TooMany) (.ref ad.TooMany)=some true
 e_MS:PySem.W.exmOne K (.ref ad.TooMany) (.ref ad.NoSuch)=some false
 e_SK:PySem.W.exmOne K (.ref ad.NoSuch) (.ref ad.BadKinds)=some false
 e_SW:PySem.W.exmOne K (.ref ad.NoSuch) (.ref ad.BadWord)=some false
 e_SM:PySem.W.exmOne K (.ref ad.NoSuch) (.ref ad.TooMany)=some false
 e_SS:PySem.W.exmOne K (.ref ad.NoSuch) (.ref ad.NoSuch)=some true
 cl_Web:Cls K ad.Web
 na_Web_words:NoAttr K ad.Web "words"
 na_Web_length:NoAttr K ad.Web "length"
theorem cxK2 {CX:CXT}{P:Program}{w:World}{K:PySem.W.Frag}{mg:Str->Option Value}{base:Heap}{N:List Str}{q:Str}{sc:Scope}{f:Addr}{cdv:Value}{A:Around}{outer:List Env}{s:Shared}{H:Hp}{E:XK}:(cxOf CX P w K mg base N q sc f cdv A outer s H E).nox.K=K:=rfl
section
variable {P:Program}{w:World}{K:PySem.W.Frag}{mg:Str->Option Value}{base:Heap}{ad:Adr}
theorem same_upd {H:Hp}{D:Addr}{o:HO}(h:H D=none):Same H (upd H D o):=fun b u e=>by rw [upd_ne (ne_of_none e h)];exact e
theorem itP {c A B:Prop}[Decidable c](hc:c)(h:A):if c then A else B:=by rw [if_pos hc];exact h
theorem itN {c A B:Prop}[Decidable c](hc:¬ c)(h:B):if c then A else B:=by rw [if_neg hc];exact h
theorem abc6 {m:Nat}(h:m<6):([97,98,99,100,101,102]:List Nat)[m]?=some (97+m):=by
 have key:∀ m:Nat,m<6->([97,98,99,100,101,102]:List Nat)[m]?=some (97+m):=by decide
 exact key m h
theorem abc_mem {k c:Nat}(hk:k<=6):c∈([97,98,99,100,101,102]:List Nat).take k↔97<=c∧c<97+k:=by
 have key:∀ k:Nat,k<7->([97,98,99,100,101,102]:List Nat).take k=(List.range k).map (97 + ·):=by decide
 rw [key k (Nat.lt_succ_of_le hk),List.mem_map]
 exact ⟨fun ⟨i,h,e⟩=>e▸⟨Nat.le_add_right _ _,Nat.add_lt_add_left (List.mem_range.mp h) _⟩,fun ⟨h1,h2⟩=>⟨c-97,List.mem_range.mpr (Nat.sub_lt_left_of_lt_add h1 h2),Nat.add_sub_cancel' h1⟩⟩
theorem ones_rev (g:Nat->Nat):∀ l:List Nat,(l.map fun j=>[g j]).flatten=l.map g
 | []=>rfl
 | x::l=>by rw [List.map_cons,List.flatten_cons,ones_rev g l,List.map_cons];rfl
def spKindsX (ad:Adr):Sp:=fun vs H Q E=>∃ k:Int,vs=[.int k]∧((1<=k∧k<=6)->Q .non H)∧(¬ (1<=k∧k<=6)->E (.ref ad.BadKinds) none H)
theorem ok_looked_kinds {f:Addr}{fd:FuncData}(F:Fun K "looked_kinds" "looked_kinds" s_looked_kinds f fd)(tt:Txt K mg ad):FnOk P w K mg base (CX1 P w) 1 f fd ["kinds"] (spKindsX ad):=by
 refine F.okX sc_looked_kinds (fun vs H Q E h=>?_) (fun cdv A outer s H vs Q E hr h=>?_)
 ·obtain ⟨k,rfl,_⟩:=h
  rfl
 ·obtain ⟨k,rfl,q,x⟩:=h
  have hs:sizeLine=16777216:=sizeLine_eq
  refine ⟨_,(pss_one (ps_if (PW.pt (pw_or (pt_cmpR op_lt (pv 0) pe_int (nomark _)) (pw_or1 (pt_cmpR op_gt (pv 0) (pe_callB call_len_T (by rfl) tt.b_len PySem.boot_len (pa_cN (pe_glob (by rfl) tt.g_LETTERS tt.r_LETTERS) pa_nil)) (nomark _))))) (pss_one (ps_raise (E:=fun cls H'=>E cls none H') tt.x_BadKinds rfl (fun _ _ _ _ _ _ _ I hx q=>raiseX I hx q) (pa_cC pe_str pa_nil))) pss_nil)),?_⟩
  (try rw [cxK2]);(try rw [cxK1])
  refine ⟨_,rfl,_,_,rfl,rfl,_,rfl,?_⟩
  refine ite2 (fun h0=>iteT ?_) (fun h0=>?_)
  ·have h1:k<1:=of_decide_eq_true h0
   exact ⟨(by show 1<=sizeLine;omega),x fun z=>by omega⟩
  ·have h1:¬ k<1:=fun z=>h0 (decide_eq_true z)
   refine ⟨_,rfl,_,rfl,(by show 6<=sizeLine;omega),_,_,rfl,rfl,_,rfl,?_⟩
   refine ite2 (fun h2=>?_) (fun h2=>?_)
   ·have h3:(6:Int)<k:=of_decide_eq_true h2
    exact ⟨(by show 1<=sizeLine;omega),x fun z=>by omega⟩
   ·have h3:¬ (6:Int)<k:=fun z=>h2 (decide_eq_true z)
    exact q ⟨by omega,by omega⟩
def spLenX (ad:Adr):Sp:=fun vs H Q E=>∃ n k:Int,vs=[.int n,.int k]∧((1<=k∧k<=6)->(1<=n∧n<=24)->Q .non H)∧(¬ (1<=k∧k<=6)->E (.ref ad.BadKinds) none H)∧((1<=k∧k<=6)->¬ (1<=n∧n<=24)->E (.ref ad.BadWord) none H)
theorem ok_looked_length {f:Addr}{fd:FuncData}(F:Fun K "looked_length" "looked_length" s_looked_length f fd)(tt:Txt K mg ad)(C_looked_kinds:Cal P w K mg base (CX1 P w) "looked_kinds" 1 ["kinds"] (spKindsX ad)) :
  FnOk P w K mg base (CX1 P w) 2 f fd ["length", "kinds"] (spLenX ad):=by
 refine F.okX sc_looked_length (fun vs H Q E h=>?_) (fun cdv A outer s H vs Q E hr h=>?_)
 ·obtain ⟨n,k,rfl,_⟩:=h
  rfl
 ·obtain ⟨n,k,rfl,q,x1,x2⟩:=h
  have hs:sizeLine=16777216:=sizeLine_eq
  refine ⟨_,(pss_cons (ps_expr (pe_cal C_looked_kinds hr passX (pa_cN (pv 1) pa_nil)))
   (pss_one (ps_if (PW.pt (pw_or (pt_cmpR op_lt (pv 0) pe_int (nomark _)) (pw_or1 (pt_cmpR op_gt (pv 0) (pe_glob (by rfl) tt.g_LONGEST tt.r_LONGEST) (nomark _))))) (pss_one (ps_raise (E:=fun cls H'=>E cls none H') tt.x_BadWord rfl (fun _ _ _ _ _ _ _ I hx q=>raiseX I hx q) (pa_cC pe_str pa_nil))) pss_nil))),?_⟩
  (try rw [cxK2]);(try rw [cxK1])
  refine ⟨_,rfl,k,rfl,fun hk=>?_,x1⟩
  refine ⟨_,rfl,_,_,rfl,rfl,_,rfl,?_⟩
  refine ite2 (fun h0=>iteT ?_) (fun h0=>?_)
  ·have h1:n<1:=of_decide_eq_true h0
   exact ⟨(by show 1<=sizeLine;omega),x2 hk fun z=>by omega⟩
  ·have h1:¬ n<1:=fun z=>h0 (decide_eq_true z)
   refine ⟨_,rfl,_,_,rfl,rfl,_,rfl,?_⟩
   refine ite2 (fun h2=>?_) (fun h2=>?_)
   ·have h3:(24:Int)<n:=of_decide_eq_true h2
    exact ⟨(by show 1<=sizeLine;omega),x2 hk fun z=>by omega⟩
   ·have h3:¬ (24:Int)<n:=fun z=>h2 (decide_eq_true z)
    exact q hk ⟨by omega,by omega⟩
def spLettersX (ad:Adr):Sp:=fun vs H Q E=>∃ k:Int,vs=[.int k]∧(∀ kn:Nat,k=(kn:Nat)->(1<=kn∧kn<=6)->Q (T (([97,98,99,100,101,102]:List Nat).take kn)) H)∧(¬ (1<=k∧k<=6)->E (.ref ad.BadKinds) none H)
theorem ok_letters {f:Addr}{fd:FuncData}(F:Fun K "letters" "letters" s_letters f fd)(tt:Txt K mg ad)(C_looked_kinds:Cal P w K mg base (CX1 P w) "looked_kinds" 1 ["kinds"] (spKindsX ad)):FnOk P w K mg base (CX1 P w) 2 f fd ["kinds"] (spLettersX ad):=by
 refine F.okX sc_letters (fun vs H Q E h=>?_) (fun cdv A outer s H vs Q E hr h=>?_)
 ·obtain ⟨k,rfl,_⟩:=h
  rfl
 ·obtain ⟨k,rfl,q,x⟩:=h
  have hs:sizeLine=16777216:=sizeLine_eq
  refine ⟨_,(pss_cons (ps_expr (pe_cal C_looked_kinds hr passX (pa_cN (pv 0) pa_nil)))
   (pss_one (ps_ret (pe_slice sl_T (pe_glob (by rfl) tt.g_LETTERS tt.r_LETTERS) po_none (po_some (pv 0)))))),?_⟩
  (try rw [cxK2]);(try rw [cxK1])
  refine ⟨_,rfl,k,rfl,fun hk=>?_,x⟩
  obtain ⟨kn,rfl⟩:∃ kn:Nat,k=(kn:Nat):=⟨k.toNat,by omega⟩
  refine ⟨_,rfl,_,rfl,_,rfl,(by show 6<=sizeLine;omega),?_⟩
  rw [cutL_to (by show kn<=6;omega)]
  exact q kn rfl ⟨by omega,by omega⟩
def Good (w:List Nat)(kn:Nat):Prop:=(1<=w.length∧w.length<=24)∧∀ c∈w,97<=c∧c<97+kn
def spLookedX (ad:Adr):Sp:=fun vs H Q E=>∃ (w:List Nat) (k:Int),vs=[T w,.int k]∧w.length<=100000∧(¬ (1<=k∧k<=6)->E (.ref ad.BadKinds) none H) ∧
 ∀ kn:Nat,k=(kn:Nat)->(1<=kn∧kn<=6)->(Good w kn->Q .non H)∧(¬ Good w kn->E (.ref ad.BadWord) none H)
theorem ok_looked {f:Addr}{fd:FuncData}(F:Fun K "looked" "looked" s_looked f fd)(tt:Txt K mg ad)(C_looked_length:Cal P w K mg base (CX1 P w) "looked_length" 2 ["length", "kinds"] (spLenX ad))
  (C_letters:Cal P w K mg base (CX1 P w) "letters" 2 ["kinds"] (spLettersX ad)):FnOk P w K mg base (CX1 P w) 3 f fd ["word", "kinds"] (spLookedX ad):=by
 refine F.okX sc_looked (fun vs H Q E h=>?_) (fun cdv A outer s H vs Q E hr h=>?_)
 ·obtain ⟨w,k,rfl,_⟩:=h
  rfl
 ·obtain ⟨w,k,rfl,hw,x1,q⟩:=h
  have hs:sizeLine=16777216:=sizeLine_eq
  refine ⟨_,(pss_cons (ps_expr (pe_cal C_looked_length hr passX (pa_cK (pe_callB call_len_T (by rfl) tt.b_len PySem.boot_len (pa_cN (pv 0) pa_nil)) (pa_cN (pv 1) pa_nil))))
   (pss_cons (ps_set (i:=2) sc_looked.nd rfl (Or.inl rfl) (pe_cal C_letters hr passX (pa_cN (pv 1) pa_nil)))
   (pss_one (ps_for PassesOwn.leaving rfl (pi_str (pv 0)) (pg_name (i:=3) sc_looked.nd rfl (Or.inl rfl)) (pss_one (ps_if (pt_cmpR op_notin_sT (pv 3) (pv 2) (by with_unfolding_all rfl)) (pss_one (ps_raise (E:=fun cls H'=>E cls none H') tt.x_BadWord rfl (fun _ _ _ _ _ _ _ I hx q=>raiseX I hx q) (pa_cC pe_str pa_nil))) pss_nil)))))),?_⟩
  (try rw [cxK2]);(try rw [cxK1])
  refine ⟨_,rfl,_,rfl,(by omega),_,rfl,_,k,rfl,fun hk hn=>?_,x1,fun hk hn=>?_⟩
  rotate_left
  ·obtain ⟨kn,rfl⟩:∃ kn:Nat,k=(kn:Nat):=⟨k.toNat,by omega⟩
   exact (q kn rfl ⟨by omega,by omega⟩).2 fun z=>hn ⟨by have:=z.1;omega,by have:=z.1;omega⟩
  obtain ⟨kn,rfl⟩:∃ kn:Nat,k=(kn:Nat):=⟨k.toNat,by omega⟩
  obtain ⟨q1,q2⟩:=q kn rfl ⟨by omega,by omega⟩
  refine ⟨_,rfl,_,rfl,fun kn' ek hk'=>?_,fun z=>absurd hk z⟩
  obtain rfl:kn=kn':=by omega
  refine ⟨_,rfl,_,rfl,?_⟩
  refine for_text (l:=w) (fun i σ H2=>H=H2∧(∀ c∈w.take i,97<=c∧c<97+kn)∧∃ v,σ=[some (T w),some (.int (kn:Nat)),some (T (([97,98,99,100,101,102]:List Nat).take kn)),v]) ⟨rfl,fun c hc=>(by simp at hc),none,rfl⟩ ?_ ?_
  ·rintro i c σ H2 hi ⟨rfl,hall,v,rfl⟩
   refine ⟨_,rfl,_,rfl,_,rfl,_,rfl,_,rfl,?_⟩
   refine ite2 (fun h0=>?_) (fun h0=>?_)
   ·have h1:¬ c∈([97,98,99,100,101,102]:List Nat).take kn:=fun z=>by
     rw [decide_eq_true z] at h0
     cases h0
    refine ⟨(by show 1<=sizeLine;omega),q2 fun z=>h1 ?_⟩
    exact (abc_mem (by omega)).mpr (z.2 c (List.mem_of_getElem? hi))
   ·have h1:c∈([97,98,99,100,101,102]:List Nat).take kn:=by
     apply Classical.byContradiction
     intro z
     rw [decide_eq_false z] at h0
     exact h0 rfl
    refine ⟨rfl,fun d hd=>?_,_,rfl⟩
    have hil:=(List.getElem?_eq_some_iff.mp hi).1
    rw [List.take_add_one,hi] at hd
    rcases List.mem_append.mp hd with z | z
    ·exact hall d z
    ·have:d=c:=by simpa using z
     subst this
     exact (abc_mem (by omega)).mp h1
  ·rintro σ H2 ⟨rfl,hall,v,rfl⟩
   rw [List.take_length] at hall
   exact q1 ⟨⟨by omega,by omega⟩,hall⟩
def FewN (k:Nat)(ls:List (List Nat)):Prop:=∃ ps:List (List Nat),ps.length<=k∧∀ w∈ls,w.take (w.length-1)∈ps∧w.drop 1∈ps
def Few (ls:List (List Nat)):Prop:=FewN 61 ls
theorem FewN.len {k:Nat}{ls:List (List Nat)}(h:2*ls.length<=k):FewN k ls:=⟨ls.map (fun w=>w.take (w.length-1))++ls.map (fun w=>w.drop 1),by rw [List.length_append,List.length_map,List.length_map];omega,fun w hw=>⟨List.mem_append.mpr (.inl (List.mem_map.mpr ⟨w,hw,rfl⟩)),List.mem_append.mpr (.inr (List.mem_map.mpr ⟨w,hw,rfl⟩))⟩⟩
theorem uniq_len {ls:List (List Nat)}(h:ls.Nodup):(uniq ls).length=ls.length:=((List.perm_ext_iff_of_nodup (uniq_nodup ls) h).mpr fun x=>uniq_mem ls x).length_eq
theorem sa_put {H:Hp}{p x C dx:Addr}{fs:List (Str×V)}{xs:List V}{o:HO}(h:SqA K H p xs)(hx:H x=some (.ins C dx fs)):SqA K (upd H x o) p xs:=by
 have k:∀ {o'},H p=some o'->(∀ C d f,o'≠.ins C d f)->upd H x o p=some o':=fun {o'} e n=>by rw [upd_ne (fun z=>by rw [z,hx] at e;exact n _ _ _ (Option.some.inj e).symm)];exact e
 rcases h with ((h | ⟨q,h⟩) | h) | ((h | ⟨q,h⟩) | h)
 ·exact .inl (.inl (.inl (k h (fun _ _ _ z=>by cases z))))
 ·exact .inl (.inl (.inr ⟨q,k h (fun _ _ _ z=>by cases z)⟩))
 ·exact .inl (.inr h)
 ·exact .inr (.inl (.inl (k h (fun _ _ _ z=>by cases z))))
 ·exact .inr (.inl (.inr ⟨q,k h (fun _ _ _ z=>by cases z)⟩))
 ·exact .inr (.inr h)
def WebOk (ls:List (List Nat))(n:Nat):Prop:=ls≠[]∧ls.length<=60∧((1<=n∧n<=8)∧Few ls)∧(∀ x∈ls,x.length=n∧∀ c∈x,97<=c∧c<103)∧ls.Nodup
def spWebL (K:PySem.W.Frag):Sp:=fun vs H Q _=>∃ (p:Addr) (ls:List (List Nat)) (n:Nat),vs=[.ref p]∧SqA K H p (ls.map T)∧WebOk ls n∧∀ H',Same H H'->Q .non H'
theorem ok_looked_web {f:Addr}{fd:FuncData}(F:Fun K "looked_web" "looked_web" s_looked_web f fd)(tt:Txt K mg ad)(C_looked:Cal P w K mg base (CX1 P w) "looked" 3 ["word", "kinds"] (spLookedX ad)) :
  FnOk P w K mg base (CX1 P w) 4 f fd ["words"] (spWebL K):=by
 refine F.okX sc_looked_web (fun vs H Q E h=>?_) (fun cdv A outer s H vs Q E hr h=>?_)
 ·obtain ⟨p,ls,n,rfl,_⟩:=h
  rfl
 ·obtain ⟨p,ls,n,rfl,hS,⟨hne,h64,hn,hx,hnd⟩,q⟩:=h
  have hs:sizeLine=16777216:=sizeLine_eq
  have hl0:0<ls.length:=List.length_pos_iff.mpr hne
  obtain ⟨x0,hx0⟩:∃ x0,ls[0]?=some x0:=⟨_,List.getElem?_eq_getElem hl0⟩
  have hx0l:=(hx x0 (List.mem_of_getElem? hx0)).1
  refine ⟨_,(pss_cons (ps_if (pt_cmpR op_gt (pe_callB call_len_seq (by rfl) tt.b_len PySem.boot_len (pa_cons (pv 0) pa_nil)) (pe_glob (by rfl) tt.g_MOST_OF_A_WEB tt.r_MOST_OF_A_WEB) (nomark _)) (pss_one (ps_raise (E:=fun cls H'=>E cls none H') tt.x_TooMany rfl (fun _ _ _ _ _ _ _ I hx q=>raiseX I hx q) (pa_cons pe_str pa_nil))) pss_nil)
   (pss_cons (ps_if (pt_cmpR op_eq_I (pe_callB call_len_seq (by rfl) tt.b_len PySem.boot_len (pa_cons (pv 0) pa_nil)) pe_int (nomark _)) (pss_one (ps_raise (E:=fun cls H'=>E cls none H') tt.x_BadWord rfl (fun _ _ _ _ _ _ _ I hx q=>raiseX I hx q) (pa_cons pe_str pa_nil))) pss_nil)
   (pss_cons (ps_for PassesOwn.leaving rfl (pi_seqK K rfl (pv 0)) (pg_name (i:=1) sc_looked_web.nd rfl (Or.inl rfl)) (pss_cons (ps_expr (pe_cal C_looked hr passX (pa_cons (pv 1) (pa_cons (pe_callB call_len_T (by rfl) tt.b_len PySem.boot_len (pa_cons (pe_glob (by rfl) tt.g_LETTERS tt.r_LETTERS) pa_nil)) pa_nil))))
   (pss_cons (ps_if (pt_cmpR op_gt (pe_callB call_len_T (by rfl) tt.b_len PySem.boot_len (pa_cons (pv 1) pa_nil)) (pe_glob (by rfl) tt.g_LONGEST_OF_A_WEB tt.r_LONGEST_OF_A_WEB) (nomark _)) (pss_one (ps_raise (E:=fun cls H'=>E cls none H') tt.x_BadWord rfl (fun _ _ _ _ _ _ _ I hx q=>raiseX I hx q) (pa_cons pe_str pa_nil))) pss_nil)
   (pss_one (ps_if (pt_cmpR op_ne_I (pe_callB call_len_T (by rfl) tt.b_len PySem.boot_len (pa_cons (pv 1) pa_nil)) (pe_callB call_len_T (by rfl) tt.b_len PySem.boot_len (pa_cons (pe_ix ix_A (pv 0) pe_int (fun _ _=>rfl)) pa_nil)) (nomark _)) (pss_one (ps_raise (E:=fun cls H'=>E cls none H') tt.x_BadWord rfl (fun _ _ _ _ _ _ _ I hx q=>raiseX I hx q) (pa_cons pe_str pa_nil))) pss_nil)))))
   (pss_one (ps_if (pt_cmpR op_ne_I (pe_callB call_lenS (by rfl) tt.b_len PySem.boot_len (pa_cons (pe_callTy (call_setA rfl) (by rfl) tt.b_set (by decide +kernel) (pa_cons (pv 0) pa_nil)) pa_nil)) (pe_callB call_len_seq (by rfl) tt.b_len PySem.boot_len (pa_cons (pv 0) pa_nil)) (nomark _)) (pss_one (ps_raise (E:=fun cls H'=>E cls none H') tt.x_BadWord rfl (fun _ _ _ _ _ _ _ I hx q=>raiseX I hx q) (pa_cons pe_str pa_nil))) pss_nil))))),?_⟩
  (try rw [cxK2]);(try rw [cxK1])
  refine ⟨_,rfl,p,_,rfl,hS,_,_,rfl,rfl,_,rfl,?_⟩
  rw [List.length_map]
  refine ite2 (fun h0=>absurd (of_decide_eq_true h0) (by omega)) (fun _=>?_)
  refine ⟨_,rfl,p,_,rfl,hS,_,rfl,_,rfl,_,rfl,?_⟩
  rw [List.length_map]
  refine ite2 (fun h0=>absurd (of_decide_eq_true h0) (by omega)) (fun _=>?_)
  refine ⟨_,rfl,p,ls.map T,_,rfl,hS,Same.refl _,fun J rd=>?_⟩
  refine for_reads rd (fun i σ H2=>H2=H∧∃ v,σ=[some (.ref p),v]) ⟨rfl,none,rfl⟩ (fun i σ H2 _ h=>by rw [h.1];exact Same.refl _) ?_ ?_
  ·rintro i y σ H2 hi ⟨rfl,v,rfl⟩
   obtain ⟨x,hxi,rfl⟩:∃ x,ls[i]?=some x∧y=T x:=by
    rw [List.getElem?_map] at hi
    obtain ⟨x,h1,h2⟩:=Option.map_eq_some_iff.mp hi
    exact ⟨x,h1,h2.symm⟩
   obtain ⟨hxl,hxc⟩:=hx x (List.mem_of_getElem? hxi)
   have hg:∀ kn:Nat,(6:Int)=(kn:Nat)->Good x kn:=fun kn e=>⟨⟨by omega,by omega⟩,fun c hc=>by have:=hxc c hc;omega⟩
   refine ⟨_,rfl,_,rfl,(by show 6<=sizeLine;omega),x,6,rfl,(by omega),fun z=>absurd ⟨by decide,by decide⟩ z,fun kn ek hk=>⟨fun _=>?_,fun z=>absurd (hg kn ek) z⟩⟩
   refine ⟨_,rfl,_,rfl,(by omega),_,_,rfl,rfl,_,rfl,?_⟩
   refine ite2 (fun h0=>absurd (of_decide_eq_true h0) (by omega)) (fun _=>?_)
   refine ⟨_,rfl,_,rfl,(by omega),_,rfl,p,_,_,_,rfl,rfl,hS,atI_nat (j:=0) (by rw [List.getElem?_map,hx0];rfl),_,rfl,(by omega),_,rfl,_,rfl,_,rfl,?_⟩
   refine iteNS (by rw [hxl,hx0l]) ?_
   exact ⟨rfl,_,rfl⟩
  ·rintro σ H2 ⟨rfl,v,rfl⟩
   refine ⟨_,rfl,p,ls,rfl,hS,(by omega),fun D hD=>?_⟩
   have sD:Same H2 (upd H2 D (SetT P w D (uniq ls))):=fun b o e=>by rw [upd_ne (ne_of_none e hD)];exact e
   refine ⟨D,_,rfl,upd_same,_,rfl,p,_,rfl,hS.on sD,_,rfl,_,rfl,_,rfl,?_⟩
   refine iteNS (by rw [List.length_map,uniq_len hnd]) ?_
   exact q _ sD
def flds (tp:Addr)(n:Int):List (Str×V):=putF "length" (.int n) (putF "words" (.ref tp) [])
def spWebI (K:PySem.W.Frag)(C:Addr):Sp:=fun vs H Q _=>∃ (x dx p:Addr) (ls:List (List Nat)) (n:Nat),vs=[.ref x,.ref p]∧H x=some (.ins C dx [])∧SqA K H p (ls.map T)∧WebOk ls n ∧
 ∀ (tp:Addr) (ms:List (List Nat)) (H':Hp),ms.Perm ls->ms.Pairwise (fun a b=>¬ b<a)->(∀ b o,H b=some o->b≠x->H' b=some o)->H' x=some (.ins C dx (flds tp (n:Nat)))->H' tp=some (.tup (ms.map T))->Q .non H'
theorem ok_Web_init {f:Addr}{fd:FuncData}(F:Fun K "__init__" "Web.__init__" s_Web_init f fd)(tt:Txt K mg ad)(C_looked_web:Cal P w K mg base (CX1 P w) "looked_web" 4 ["words"] (spWebL K)) :
  FnOk P w K mg base (CX1 P w) 5 f fd ["self", "words"] (spWebI K ad.Web):=by
 refine F.okX sc_Web_init (fun vs H Q E h=>?_) (fun cdv A outer s H vs Q E hr h=>?_)
 ·obtain ⟨x,dx,p,ls,n,rfl,_⟩:=h
  rfl
 ·obtain ⟨x,dx,p,ls,n,rfl,hx,hS,hok,q⟩:=h
  have hs:sizeLine=16777216:=sizeLine_eq
  obtain ⟨hne,h64,hn,hxs,hnd⟩:=id hok
  have hl0:0<ls.length:=List.length_pos_iff.mpr hne
  obtain ⟨x0,hx0⟩:∃ x0,ls[0]?=some x0:=⟨_,List.getElem?_eq_getElem hl0⟩
  have hx0l:=(hxs x0 (List.mem_of_getElem? hx0)).1
  refine ⟨_,(pss_cons (ps_expr (pe_cal C_looked_web hr passX (pa_cons (pv 1) pa_nil)))
   (pss_cons (ps_fld (pv 0) (pe_callTy call_tuple_of (by rfl) tt.b_tuple (by decide +kernel) (pa_cons (pe_callB call_sortedSA (by rfl) tt.b_sorted PyProof.Rows.boot_sorted (pa_cons (pv 1) pa_nil)) pa_nil)) rfl)
   (pss_one (ps_fld (pv 0) (pe_callB call_len_T (by rfl) tt.b_len PySem.boot_len (pa_cons (pe_ix ix_A (pv 1) pe_int (fun _ _=>rfl)) pa_nil)) rfl)))),?_⟩
  (try rw [cxK2]);(try rw [cxK1])
  refine ⟨_,rfl,p,ls,n,rfl,hS,hok,fun H1 s1=>?_⟩
  refine ⟨_,rfl,p,ls,rfl,hS.on s1,(by omega),fun ms D hD hperm hpw=>?_⟩
  have s2:Same H1 (upd H1 D (.lst (ms.map T))):=fun b o e=>by rw [upd_ne (ne_of_none e hD)];exact e
  refine ⟨D,_,rfl,.inl ⟨SqL.of upd_same,fun tp htp=>?_⟩⟩
  have s3:Same (upd H1 D (.lst (ms.map T))) (upd (upd H1 D (.lst (ms.map T))) tp (.tup (ms.map T))):=fun b o e=>by rw [upd_ne (ne_of_none e htp)];exact e
  generalize hH3:upd (upd H1 D (.lst (ms.map T))) tp (.tup (ms.map T))=H3 at s3
  have htp3:H3 tp=some (.tup (ms.map T)):=by rw [<- hH3];exact upd_same
  have s13:Same H H3:=s1.trans (s2.trans s3)
  have hx3:=s13 x _ hx
  have hxt:tp≠x:=fun z=>by subst z;rw [htp3] at hx3;cases hx3
  refine ⟨_,rfl,x,ad.Web,dx,[],rfl,hx3,tt.cl_Web,tt.na_Web_words,(by show 0<1000;decide),?_⟩
  have hS4:SqA K (upd H3 x (.ins ad.Web dx (putF "words" (.ref tp) []))) p (ls.map T):=sa_put (hS.on s13) hx3
  refine ⟨_,rfl,p,_,_,_,rfl,rfl,hS4,atI_nat (j:=0) (by rw [List.getElem?_map,hx0];rfl),_,rfl,(by omega),_,rfl,x,ad.Web,dx,_,rfl,upd_same,tt.cl_Web,tt.na_Web_length,(by show 1<1000;decide),?_⟩
  refine q tp ms _ hperm hpw (fun b o e hb=>?_) ?_ ?_
  ·rw [upd_ne hb,upd_ne hb]
   exact s13 b o e
  ·rw [upd_same,hx0l]
   rfl
  ·rw [upd_ne hxt,upd_ne hxt]
   exact htp3
def WebAt (C:Addr)(H:Hp)(x tp:Addr)(n:Nat)(ms:List (List Nat)):Prop:=(∃ dx,H x=some (.ins C dx (flds tp (n:Nat))))∧H tp=some (.tup (ms.map T))
theorem WebAt.on {C:Addr}{H H':Hp}{x tp:Addr}{n:Nat}{ms:List (List Nat)}(h:WebAt C H x tp n ms)(s:Same H H'):WebAt C H' x tp n ms:=let ⟨⟨dx,e⟩,t⟩:=h;⟨⟨dx,s _ _ e⟩,s _ _ t⟩
theorem inV_T {t:List Nat}:∀ {ls:List (List Nat)},inV (T t) (ls.map T)=decide (t∈ls)
 | []=>by simp [inV]
 | l::ls=>by
  have ih:=@inV_T t ls
  have e:inV (T t) ((l::ls).map T)=(eqV (T l) (T t)||inV (T t) (ls.map T)):=rfl
  have e2:eqV (T l) (T t)=decide (t=l):=by
   show (tx l==tx t)=decide (t=l)
   rw [Bool.eq_iff_iff,beq_iff_eq,decide_eq_true_iff]
   exact ⟨fun h=>(tx_inj h).symm,fun h=>by rw [h]⟩
  rw [e,ih,e2,Bool.eq_iff_iff,Bool.or_eq_true,decide_eq_true_iff,decide_eq_true_iff,decide_eq_true_iff,List.mem_cons]
def spTotal:Sp:=fun vs H Q _=>∃ n k:Nat,vs=[.int (n:Nat),.int (k:Nat)]∧(n<=1000∧k<=1000)∧Q (.int ((k ^ n:Nat):Int)) H
theorem ok_word_total {f:Addr}{fd:FuncData}(F:Fun K "word_total" "word_total" s_word_total f fd)(tt:Txt K mg ad):FnOk P w K mg base (CX1 P w) 1 f fd ["length", "kinds"] spTotal:=by
 refine F.okN sc_word_total (fun vs H Q E h=>?_) (fun cdv A outer s H vs Q E hr h=>?_)
 ·obtain ⟨n,k,rfl,_⟩:=h
  rfl
 ·obtain ⟨n,k,rfl,hn,q⟩:=h
  refine ⟨_,(pss_cons (ps_set (i:=2) sc_word_total.nd rfl (Or.inl rfl) pe_int)
   (pss_cons (ps_for PassesOwn.never rfl (pi_range1 (by rfl) tt.b_range (pa_cN (pv 0) pa_nil)) (pg_name (i:=3) sc_word_total.nd rfl (Or.inl rfl)) (pss_one (ps_set (i:=2) sc_word_total.nd rfl (Or.inl rfl) (pe_op op_mul (pv 2) (pv 1)))))
   (pss_one (ps_ret (pv 2))))),?_⟩
  (try rw [cxK2]);(try rw [cxK1])
  refine ⟨_,rfl,_,rfl,by omega,by omega,?_⟩
  rw [Int.toNat_natCast]
  refine for_range (fun i σ H2=>H2=H∧∃ v,σ=[some (.int (n:Nat)),some (.int (k:Nat)),some (.int ((k ^ i:Nat):Int)),v]) ⟨rfl,none,rfl⟩ ?_ ?_
  ·rintro i σ H2 hi ⟨rfl,v,rfl⟩
   refine ⟨_,rfl,_,rfl,_,_,rfl,rfl,.inr ⟨by omega,by omega⟩,?_⟩
   refine ⟨rfl,some (.int (0+(i:Int))),?_⟩
   rw [Nat.pow_succ,Int.natCast_mul]
   rfl
  ·rintro σ H2 ⟨rfl,v,rfl⟩
   exact ⟨_,rfl,q⟩
def spSpell:Sp:=fun vs H Q _=>∃ N n k:Nat,vs=[.int (N:Nat),.int (n:Nat),.int (k:Nat)]∧(n<=1000∧1<=k∧k<=6)∧∀ H',Same H H'->Q (T (Wd.spell k n N)) H'
theorem ok_spelled {f:Addr}{fd:FuncData}(F:Fun K "spelled" "spelled" s_spelled f fd)(tt:Txt K mg ad):FnOk P w K mg base (CX1 P w) 1 f fd ["number", "length", "kinds"] spSpell:=by
 refine F.okN sc_spelled (fun vs H Q E h=>?_) (fun cdv A outer s H vs Q E hr h=>?_)
 ·obtain ⟨N,n,k,rfl,_⟩:=h
  rfl
 ·obtain ⟨N,n,k,rfl,hn,q⟩:=h
  have hs:sizeLine=16777216:=sizeLine_eq
  refine ⟨_,(pss_cons (ps_set (i:=3) sc_spelled.nd rfl (Or.inl rfl) (pe_lst pa_nil))
   (pss_cons (ps_set (i:=4) sc_spelled.nd rfl (Or.inl rfl) (pv 0))
   (pss_cons (ps_for PassesOwn.never rfl (pi_range1 (by rfl) tt.b_range (pa_cN (pv 1) pa_nil)) (pg_name (i:=5) sc_spelled.nd rfl (Or.inl rfl)) (pss_cons (ps_expr (pe_bm PySem.F.plainAttrs_list PySem.F.slot_list_append PySem.F.type_list_append mt_append (pv 3) (pa_cS (pe_ix ix_T (pe_glob (by rfl) tt.g_LETTERS tt.r_LETTERS) (pe_op op_mod (pv 4) (pv 2)) (fun _ _=>rfl)) pa_nil)))
   (pss_one (ps_set (i:=4) sc_spelled.nd rfl (Or.inl rfl) (pe_op op_fdiv (pv 4) (pv 2))))))
   (pss_one (ps_ret (pe_joinrev rfl (by rfl) tt.b_reversed (pv 3) (by decide +kernel))))))),?_⟩
  (try rw [cxK2]);(try rw [cxK1])
  refine ⟨(by show 0<=sizeLine;omega),fun D hD=>?_⟩
  refine ⟨_,rfl,?_⟩
  refine ⟨_,rfl,_,rfl,by omega,by omega,?_⟩
  rw [Int.toNat_natCast]
  refine for_range (fun i σ H2=>Same H H2∧H2 D=some (.lst (((List.range i).map fun j=>[97+N/k ^ j % k]).map T))∧∃ v,σ=[some (.int (N:Nat)),some (.int (n:Nat)),some (.int (k:Nat)),some (.ref D),some (.int ((N/k ^ i:Nat):Int)),v])
   ⟨(fun b o e=>by rw [upd_ne (ne_of_none e hD)];exact e),upd_same,none,by rw [Nat.pow_zero,Nat.div_one];rfl⟩ ?_ ?_
  ·rintro i σ H2 hi ⟨s2,hd,v,rfl⟩
   have hm:=Nat.mod_lt (N/k ^ i) (show 0<k by omega)
   have hat:atI [97,98,99,100,101,102] (((N/k ^ i:Nat):Int) % ((k:Nat):Int))=some (97+N/k ^ i % k):=by
    rw [<- Int.natCast_emod]
    exact atI_nat (abc6 (by omega))
   refine ⟨_,rfl,.inl ⟨rfl,_,SqL.of hd⟩,_,rfl,_,rfl,_,_,rfl,rfl,(by show (0:Int)<((k:Nat):Int);omega),_,rfl,_,rfl,(by show 6<=sizeLine;omega),_,hat,D,_,_,rfl,rfl,hd,(by rw [List.length_map,List.length_map,List.length_range];omega),?_⟩
   refine ⟨_,rfl,_,rfl,_,_,rfl,rfl,⟨by omega,by omega⟩,?_⟩
   refine ⟨(fun b o e=>by rw [upd_ne (ne_of_none e hD)];exact s2 b o e),?_,some (.int (0+(i:Int))),?_⟩
   ·rw [List.range_succ,List.map_append,List.map_append]
    exact upd_same
   ·rw [Nat.pow_succ,<- Nat.div_div_eq_div_mul,Int.natCast_ediv]
    rfl
  ·rintro σ H2 ⟨s2,hd,v,rfl⟩
   refine ⟨_,rfl,D,_,rfl,SqL.of hd,?_,?_⟩
   ·rw [ones_rev,List.length_map,List.length_range]
    omega
   ·rw [<- List.map_reverse,ones_rev,List.map_reverse,Wd.spell_rev]
    exact q H2 s2
def spTurned:Sp:=fun vs H Q _=>∃ (w:List Nat) (b:Int),vs=[T w,.int b]∧w.length<=10000∧Q (T (Wd.rot (b % (w.length:Int)).toNat w)) H
theorem ok_turned {f:Addr}{fd:FuncData}(F:Fun K "turned" "turned" s_turned f fd)(tt:Txt K mg ad):FnOk P w K mg base (CX1 P w) 1 f fd ["text", "by"] spTurned:=by
 refine F.okN sc_turned (fun vs H Q E h=>?_) (fun cdv A outer s H vs Q E hr h=>?_)
 ·obtain ⟨w,b,rfl,_⟩:=h
  rfl
 ·obtain ⟨w,b,rfl,hw,q⟩:=h
  have hs:sizeLine=16777216:=sizeLine_eq
  refine ⟨_,(pss_cons (ps_if (pt_cmpR op_eq_T (pv 0) (pe_strT [] (by decide +kernel)) (nomark _)) (pss_one (ps_ret (pv 0))) pss_nil)
   (pss_cons (ps_set (i:=2) sc_turned.nd rfl (Or.inl rfl) (pe_op op_mod (pv 1) (pe_callB call_len_T (by rfl) tt.b_len PySem.boot_len (pa_cN (pv 0) pa_nil))))
   (pss_one (ps_ret (pe_op op_add_T (pe_slice sl_T (pv 0) (po_some (pv 2)) po_none) (pe_slice sl_T (pv 0) po_none (po_some (pv 2)))))))),?_⟩
  (try rw [cxK2]);(try rw [cxK1])
  refine ⟨_,rfl,_,rfl,_,rfl,_,rfl,?_⟩
  refine ite2 (fun h0=>?_) (fun h0=>?_)
  ·have e:w=[]:=of_decide_eq_true h0
   subst e
   refine ⟨_,rfl,?_⟩
   have e2:Wd.rot (b % (([]:List Nat).length:Int)).toNat []=[]:=by simp [Wd.rot]
   rw [e2] at q
   exact q
  ·have hne:w≠[]:=fun z=>h0 (decide_eq_true z)
   have hp:0<w.length:=List.length_pos_iff.mpr hne
   have b0:=Int.emod_nonneg b (show (w.length:Int)≠0 by omega)
   have b1:=Int.emod_lt_of_pos b (show (0:Int)<(w.length:Int) by omega)
   refine ⟨_,rfl,_,rfl,_,rfl,(by omega),_,_,rfl,rfl,(by show (0:Int)<((w.length:Nat):Int);omega),?_⟩
   obtain ⟨m,hm⟩:=Int.eq_ofNat_of_zero_le b0
   have hm':b % (w.length:Int)=(m:Int):=hm
   rw [hm',Int.toNat_natCast] at q
   rw [hm'] at b1
   refine ⟨_,rfl,_,rfl,_,rfl,_,rfl,(by omega),_,rfl,_,rfl,_,rfl,_,rfl,(by omega),_,rfl,_,rfl,?_,?_⟩
   ·have c1:=cutL_length_le w (some (b % (w.length:Int))) none
    have c2:=cutL_length_le w none (some (b % (w.length:Int)))
    omega
   ·have e:cutL w (some (b % (w.length:Int))) none++cutL w none (some (b % (w.length:Int)))=Wd.rot m w:=by
     rw [hm',cutL_from (by omega),cutL_to (by omega)]
     rfl
    rw [e]
    exact q
def spTurnBy:Sp:=fun vs H Q _=>∃ (w:List Nat),vs=[T w]∧w.length<=10000∧Q (.int ((Wd.turnBy w:Nat):Int)) H
theorem ok_turn_by {f:Addr}{fd:FuncData}(F:Fun K "turn_by" "turn_by" s_turn_by f fd)(tt:Txt K mg ad)(C_turned:Cal P w K mg base (CX1 P w) "turned" 1 ["text", "by"] spTurned):FnOk P w K mg base (CX1 P w) 2 f fd ["word"] spTurnBy:=by
 refine F.okN sc_turn_by (fun vs H Q E h=>?_) (fun cdv A outer s H vs Q E hr h=>?_)
 ·obtain ⟨w,rfl,_⟩:=h
  rfl
 ·obtain ⟨w,rfl,hw,q⟩:=h
  have hs:sizeLine=16777216:=sizeLine_eq
  refine ⟨_,(pss_cons (ps_set (i:=1) sc_turn_by.nd rfl (Or.inl rfl) pe_int)
   (pss_cons (ps_for PassesOwn.never rfl (pi_range2 (by rfl) tt.b_range (pa_cC pe_int (pa_cK (pe_callB call_len_T (by rfl) tt.b_len PySem.boot_len (pa_cN (pv 0) pa_nil)) pa_nil))) (pg_name (i:=2) sc_turn_by.nd rfl (Or.inl rfl)) (pss_one (ps_if (pt_cmpR op_lt_T (pe_cal C_turned hr pass1 (pa_cN (pv 0) (pa_cN (pv 2) pa_nil))) (pe_cal C_turned hr pass1 (pa_cN (pv 0) (pa_cN (pv 1) pa_nil))) (nomark _)) (pss_one (ps_set (i:=1) sc_turn_by.nd rfl (Or.inl rfl) (pv 2))) pss_nil)))
   (pss_one (ps_ret (pv 1))))),?_⟩
  (try rw [cxK2]);(try rw [cxK1])
  refine ⟨_,rfl,_,rfl,(by omega),_,_,rfl,⟨by decide,by decide,by omega,by omega⟩,?_⟩
  refine for_range (fun i σ H2=>H2=H∧∃ v,σ=[some (T w),some (.int ((Wd.bestTo w i:Nat):Int)),v]) ⟨rfl,none,rfl⟩ ?_ ?_
  ·rintro i σ H2 hi ⟨rfl,v,rfl⟩
   have hb:=Wd.best_le w i
   have hlt:i+1<w.length:=by omega
   refine ⟨_,rfl,_,rfl,w,1+(i:Int),rfl,hw,?_⟩
   refine ⟨_,rfl,_,rfl,w,((Wd.bestTo w i:Nat):Int),rfl,hw,?_⟩
   have e1:((1+(i:Int)) % (w.length:Int)).toNat=i+1:=by rw [Int.emod_eq_of_lt (by omega) (by omega)];omega
   have e2:(((Wd.bestTo w i:Nat):Int) % (w.length:Int)).toNat=Wd.bestTo w i:=by rw [Int.emod_eq_of_lt (by omega) (by omega)];omega
   rw [e1,e2]
   refine ⟨_,rfl,_,rfl,_,rfl,?_⟩
   refine ite2 (fun h0=>?_) (fun h0=>?_)
   ·have h1:Wd.rot (i+1) w<Wd.rot (Wd.bestTo w i) w:=of_decide_eq_true h0
    refine ⟨_,rfl,rfl,some (.int (1+(i:Int))),?_⟩
    rw [Wd.bestTo,if_pos h1,show ((i+1:Nat):Int)=1+(i:Int) by omega]
    rfl
   ·have h1:¬ Wd.rot (i+1) w<Wd.rot (Wd.bestTo w i) w:=fun z=>h0 (decide_eq_true z)
    refine ⟨rfl,some (.int (1+(i:Int))),?_⟩
    rw [Wd.bestTo,if_neg h1]
    rfl
  ·rintro σ H2 ⟨rfl,v,rfl⟩
   refine ⟨_,rfl,?_⟩
   have e:((w.length:Int)-1).toNat=w.length-1:=by omega
   rw [e]
   exact q
def spLeastTurn:Sp:=fun vs H Q _=>∃ (w:List Nat),vs=[T w]∧(0<w.length∧w.length<=10000)∧Q (T (Wd.least w)) H
theorem ok_least_turn {f:Addr}{fd:FuncData}(F:Fun K "least_turn" "least_turn" s_least_turn f fd)(tt:Txt K mg ad)(C_turned:Cal P w K mg base (CX1 P w) "turned" 1 ["text", "by"] spTurned)(C_turn_by:Cal P w K mg base (CX1 P w) "turn_by" 2 ["word"] spTurnBy):FnOk P w K mg base (CX1 P w) 3 f fd ["word"] spLeastTurn:=by
 refine F.okN sc_least_turn (fun vs H Q E h=>?_) (fun cdv A outer s H vs Q E hr h=>?_)
 ·obtain ⟨w,rfl,_⟩:=h
  rfl
 ·obtain ⟨w,rfl,hw,q⟩:=h
  refine ⟨_,(pss_one (ps_ret (pe_cal C_turned hr pass1 (pa_cN (pv 0) (pa_cK (pe_cal C_turn_by hr pass1 (pa_cN (pv 0) pa_nil)) pa_nil))))),?_⟩
  (try rw [cxK2]);(try rw [cxK1])
  have hb:=Wd.turnBy_lt hw.1
  refine ⟨_,rfl,_,rfl,w,rfl,hw.2,w,((Wd.turnBy w:Nat):Int),rfl,hw.2,?_⟩
  have e2:(((Wd.turnBy w:Nat):Int) % (w.length:Int)).toNat=Wd.turnBy w:=by rw [Int.emod_eq_of_lt (by omega) (by omega)];omega
  rw [e2,<- Wd.least_eq]
  exact q
def spIsLeast:Sp:=fun vs H Q _=>∃ (w:List Nat),vs=[T w]∧w.length<=10000∧Q (.bl (decide (w=Wd.least w))) H
theorem ok_is_least {f:Addr}{fd:FuncData}(F:Fun K "is_least" "is_least" s_is_least f fd)(tt:Txt K mg ad)(C_turn_by:Cal P w K mg base (CX1 P w) "turn_by" 2 ["word"] spTurnBy):FnOk P w K mg base (CX1 P w) 3 f fd ["word"] spIsLeast:=by
 refine F.okN sc_is_least (fun vs H Q E h=>?_) (fun cdv A outer s H vs Q E hr h=>?_)
 ·obtain ⟨w,rfl,_⟩:=h
  rfl
 ·obtain ⟨w,rfl,hw,q⟩:=h
  refine ⟨_,(pss_one (ps_ret (pe_cmpR op_eq_I (pe_cal C_turn_by hr pass1 (pa_cN (pv 0) pa_nil)) pe_int (nomark _)))),?_⟩
  (try rw [cxK2]);(try rw [cxK1])
  refine ⟨_,rfl,w,rfl,hw,_,rfl,_,rfl,?_⟩
  have e:decide (((Wd.turnBy w:Nat):Int)=0)=decide (w=Wd.least w):=by
   rw [Bool.eq_iff_iff,decide_eq_true_iff,decide_eq_true_iff,<- Wd.isLeast_iff]
   omega
  rw [e]
  exact q
theorem div_cast (a b:Nat):((a:Nat):Int)/((b:Nat):Int)=((a/b:Nat):Int):=(Int.natCast_ediv a b).symm
def spTimes:Sp:=fun vs H Q _=>∃ (w:List Nat),vs=[T w]∧(0<w.length∧w.length<=10000)∧∀ p,Wd.RootLen w p->Q (.int ((w.length/p:Nat):Int)) H
theorem ok_times_of {f:Addr}{fd:FuncData}(F:Fun K "times_of" "times_of" s_times_of f fd)(tt:Txt K mg ad):FnOk P w K mg base (CX1 P w) 1 f fd ["word"] spTimes:=by
 refine F.okN sc_times_of (fun vs H Q E h=>?_) (fun cdv A outer s H vs Q E hr h=>?_)
 ·obtain ⟨w,rfl,_⟩:=h
  rfl
 ·obtain ⟨w,rfl,hw,q⟩:=h
  have hs:sizeLine=16777216:=sizeLine_eq
  refine ⟨_,(pss_cons (ps_for PassesOwn.never rfl (pi_range2 (by rfl) tt.b_range (pa_cC pe_int (pa_cK (pe_callB call_len_T (by rfl) tt.b_len PySem.boot_len (pa_cN (pv 0) pa_nil)) pa_nil))) (pg_name (i:=1) sc_times_of.nd rfl (Or.inl rfl)) (pss_cons (ps_set (i:=2) sc_times_of.nd rfl (Or.inl rfl) (pe_op op_fdiv (pe_callB call_len_T (by rfl) tt.b_len PySem.boot_len (pa_cN (pv 0) pa_nil)) (pv 1)))
   (pss_one (ps_if (pt_cmpR op_eq_T (pe_op op_mul_T (pe_slice sl_T (pv 0) po_none (po_some (pv 1))) (pv 2)) (pv 0) (nomark _)) (pss_one (ps_ret (pv 2))) pss_nil))))
   (pss_one (ps_ret pe_int))),?_⟩
  (try rw [cxK2]);(try rw [cxK1])
  refine ⟨_,rfl,_,rfl,(by omega),_,_,rfl,⟨by decide,by decide,by omega,by omega⟩,?_⟩
  refine for_range (fun i σ H2=>H2=H∧(∀ q,0<q->q<=i->Wd.rep (w.length/q) (w.take q)≠w)∧∃ v v',σ=[some (T w),v,v']) ⟨rfl,fun q h0 h1=>by omega,none,none,rfl⟩ ?_ ?_
  ·rintro i σ H2 hi ⟨rfl,hno,v,v',rfl⟩
   have hlt:i+1<w.length:=by omega
   have e1:1+(i:Int)=((i+1:Nat):Int):=by omega
   have hq:w.length/(i+1)<=w.length:=Nat.div_le_self _ _
   have hm:w.length/(i+1)*(i+1)<=w.length:=Nat.div_mul_le_self _ _
   have ct:cutL w none (some (1+(i:Int)))=w.take (i+1):=by rw [e1];exact cutL_to (by omega)
   have hl:(w.take (i+1)).length=i+1:=by rw [List.length_take];omega
   refine ⟨_,rfl,_,rfl,(by omega),_,rfl,_,_,rfl,rfl,⟨by omega,by omega⟩,?_⟩
   have e2:(w.length:Int)/(1+(i:Int))=((w.length/(i+1):Nat):Int):=by rw [e1,div_cast]
   dsimp only
   rw [e2]
   refine ⟨_,rfl,_,rfl,_,rfl,_,rfl,(by omega),_,rfl,_,rfl,w.length/(i+1),rfl,⟨by omega,(by rw [ct,hl];omega)⟩,_,rfl,_,rfl,_,rfl,_,rfl,?_⟩
   rw [ct]
   refine ite2 (fun h0=>?_) (fun h0=>?_)
   ·have h1:Wd.rep (w.length/(i+1)) (w.take (i+1))=w:=of_decide_eq_true h0
    exact ⟨_,rfl,q (i+1) ⟨by omega,by omega,h1,fun p p0 p1=>hno p p0 (by omega)⟩⟩
   ·have h1:Wd.rep (w.length/(i+1)) (w.take (i+1))≠w:=fun z=>h0 (decide_eq_true z)
    refine ⟨rfl,fun p p0 p1=>?_,_,_,rfl⟩
    by_cases hp:p=i+1
    ·rw [hp]
     exact h1
    ·exact hno p p0 (by omega)
  ·rintro σ H2 ⟨rfl,hno,v,v',rfl⟩
   have e:Wd.rep (w.length/w.length) (w.take w.length)=w:=by rw [Nat.div_self hw.1,List.take_length,Wd.rep_one]
   have z:=q w.length ⟨hw.1,Nat.le_refl _,e,fun p p0 p1=>hno p p0 (by omega)⟩
   rw [Nat.div_self hw.1] at z
   exact z
def spRoot:Sp:=fun vs H Q _=>∃ (w:List Nat),vs=[T w]∧(0<w.length∧w.length<=10000)∧∀ p,Wd.RootLen w p->Q (T (w.take p)) H
theorem ok_root {f:Addr}{fd:FuncData}(F:Fun K "root" "root" s_root f fd)(tt:Txt K mg ad)(C_times_of:Cal P w K mg base (CX1 P w) "times_of" 1 ["word"] spTimes):FnOk P w K mg base (CX1 P w) 2 f fd ["word"] spRoot:=by
 refine F.okN sc_root (fun vs H Q E h=>?_) (fun cdv A outer s H vs Q E hr h=>?_)
 ·obtain ⟨w,rfl,_⟩:=h
  rfl
 ·obtain ⟨w,rfl,hw,q⟩:=h
  have hs:sizeLine=16777216:=sizeLine_eq
  refine ⟨_,(pss_one (ps_ret (pe_slice sl_T (pv 0) po_none (po_some (pe_op op_fdiv (pe_callB call_len_T (by rfl) tt.b_len PySem.boot_len (pa_cN (pv 0) pa_nil)) (pe_cal C_times_of hr pass1 (pa_cN (pv 0) pa_nil))))))),?_⟩
  (try rw [cxK2]);(try rw [cxK1])
  refine ⟨_,rfl,_,rfl,_,rfl,(by omega),_,rfl,w,rfl,hw,fun p hp=>?_⟩
  have hd:p∣w.length:=Nat.dvd_of_mod_eq_zero hp.rp.2.1
  have h1:0<w.length/p:=Nat.div_pos hp.le hp.pos
  have h2:w.length/p<=w.length:=Nat.div_le_self _ _
  have h3:w.length/(w.length/p)=p:=Nat.div_div_self hd (by omega)
  refine ⟨_,_,rfl,rfl,⟨by omega,by omega⟩,_,rfl,_,rfl,(by omega),?_⟩
  rw [div_cast,h3,cutL_to hp.le]
  exact q p hp
theorem abc_top {k:Nat}(h1:1<=k)(h2:k<=6):atI (([97,98,99,100,101,102]:List Nat).take k) (-1)=some (96+k):=by
 have key:∀ m:Nat,m<6->atI (([97,98,99,100,101,102]:List Nat).take (m+1)) (-1)=some (96+(m+1)):=by decide
 obtain ⟨m,rfl⟩:∃ m,k=m+1:=⟨k-1,by omega⟩
 exact key m (by omega)
def spFilled:Sp:=fun vs H Q _=>∃ (p:List Nat) (n k:Nat),vs=[T p,.int (n:Nat),.int (k:Nat)]∧((1<=k∧k<=6)∧p.length<=n∧n<=10000)∧Q (T (Wd.fill k n p)) H
theorem ok_filled {f:Addr}{fd:FuncData}(F:Fun K "filled" "filled" s_filled f fd)(tt:Txt K mg ad)(C_letters:Cal P w K mg base (CX1 P w) "letters" 2 ["kinds"] (spLettersX ad)):FnOk P w K mg base (CX1 P w) 3 f fd ["text", "length", "kinds"] spFilled:=by
 refine F.okN sc_filled (fun vs H Q E h=>?_) (fun cdv A outer s H vs Q E hr h=>?_)
 ·obtain ⟨p,n,k,rfl,_⟩:=h
  rfl
 ·obtain ⟨p,n,k,rfl,⟨hk,hp,hn⟩,q⟩:=h
  have hs:sizeLine=16777216:=sizeLine_eq
  refine ⟨_,(pss_one (ps_ret (pe_op op_add_T (pv 0) (pe_op op_mul_T (pe_ix ix_T (pe_cal C_letters hr pass1 (pa_cN (pv 2) pa_nil)) (pe_un un_neg pe_int) (fun _ _=>rfl)) (pe_op op_sub (pv 1) (pe_callB call_len_T (by rfl) tt.b_len PySem.boot_len (pa_cN (pv 0) pa_nil))))))),?_⟩
  (try rw [cxK2]);(try rw [cxK1])
  refine ⟨_,rfl,_,rfl,_,rfl,fun kn ek hk2=>?_,fun z=>absurd ⟨by omega,by omega⟩ z⟩
  obtain rfl:k=kn:=by omega
  refine ⟨_,rfl,_,rfl,_,rfl,(by rw [List.length_take];omega),96+k,abc_top hk.1 hk.2,_,rfl,_,rfl,_,rfl,(by omega),_,_,rfl,rfl,_,rfl,n-p.length,congrArg V.int (by omega),⟨by omega,(by show (n-p.length)*1<=sizeLine;omega)⟩,_,rfl,_,rfl,(by rw [Wd.rep_len];show p.length+(n-p.length)*1<=sizeLine;omega),?_⟩
  rw [Wd.rep_letter]
  exact q
def spIsBeg:Sp:=fun vs H Q _=>∃ (p:List Nat) (n k:Nat),vs=[T p,.int (n:Nat),.int (k:Nat)]∧((1<=k∧k<=6)∧p.length<=10000∧n<=10000)∧∀ b:Bool,(b=true↔Wd.IsB k n p)->Q (.bl b) H
theorem ok_is_beginning {f:Addr}{fd:FuncData}(F:Fun K "is_beginning" "is_beginning" s_is_beginning f fd)(tt:Txt K mg ad)(C_is_least:Cal P w K mg base (CX1 P w) "is_least" 3 ["word"] spIsLeast)
  (C_filled:Cal P w K mg base (CX1 P w) "filled" 3 ["text", "length", "kinds"] spFilled):FnOk P w K mg base (CX1 P w) 4 f fd ["text", "length", "kinds"] spIsBeg:=by
 refine F.okN sc_is_beginning (fun vs H Q E h=>?_) (fun cdv A outer s H vs Q E hr h=>?_)
 ·obtain ⟨p,n,k,rfl,_⟩:=h
  rfl
 ·obtain ⟨p,n,k,rfl,⟨hk,hp,hn⟩,q⟩:=h
  have hs:sizeLine=16777216:=sizeLine_eq
  refine ⟨_,(pss_one (ps_ret (pe_and (pe_cmpR op_le (pe_callB call_len_T (by rfl) tt.b_len PySem.boot_len (pa_cN (pv 0) pa_nil)) (pv 1) (nomark _)) (pe_one (pe_cal C_is_least hr pass1 (pa_cK (pe_cal C_filled hr pass1 (pa_cN (pv 0) (pa_cN (pv 1) (pa_cN (pv 2) pa_nil)))) pa_nil)))))),?_⟩
  (try rw [cxK2]);(try rw [cxK1])
  refine ⟨_,rfl,_,rfl,(by omega),_,rfl,_,_,rfl,rfl,_,rfl,?_⟩
  refine ite2 (fun h0=>?_) (fun h0=>?_)
  ·have h1:p.length<=n:=by have:=of_decide_eq_true h0;omega
   refine ⟨_,rfl,_,rfl,_,rfl,p,n,k,rfl,⟨hk,h1,by omega⟩,_,rfl,(by rw [Wd.fill_len h1];omega),q _ ?_⟩
   rw [decide_eq_true_iff]
   exact ⟨fun z=>⟨h1,z⟩,fun z=>z.2⟩
  ·have h1:¬ p.length<=n:=fun z=>h0 (decide_eq_true (by omega))
   exact q false ⟨fun z=>(by cases z),fun z=>absurd z.1 h1⟩
theorem first_letter {k:Nat}(hk:1<=k∧k<=6)(p:Nat->Bool)(h:p (96+k)=true):∃ c r,(([97,98,99,100,101,102]:List Nat).take k).filter p=c::r∧(97<=c∧c<97+k)∧p c=true∧∀ d,97<=d->d<c->p d=false:=by
 have hm:96+k∈(([97,98,99,100,101,102]:List Nat).take k).filter p:=List.mem_filter.mpr ⟨(abc_mem hk.2).mpr ⟨by omega,by omega⟩,h⟩
 have hso:(([97,98,99,100,101,102]:List Nat).take k).Pairwise (· < ·):=List.Pairwise.sublist (List.take_sublist _ _) (by decide)
 have hsf:=hso.filter p
 cases hq:(([97,98,99,100,101,102]:List Nat).take k).filter p with
 | nil=>rw [hq] at hm;cases hm
 | cons c r =>
  have hc:c∈(([97,98,99,100,101,102]:List Nat).take k).filter p:=by rw [hq];exact List.mem_cons_self
  obtain ⟨h1,h2⟩:=List.mem_filter.mp hc
  have h3:=(abc_mem hk.2).mp h1
  refine ⟨c,r,rfl,h3,h2,fun d hd hlt=>?_⟩
  cases hp:p d with
  | false=>rfl
  | true =>
   have h4:d∈c::r:=by rw [<- hq];exact List.mem_filter.mpr ⟨(abc_mem hk.2).mpr ⟨hd,by omega⟩,hp⟩
   rw [hq] at hsf
   rcases List.mem_cons.mp h4 with h5 | h5
   ·omega
   ·have:=(List.pairwise_cons.mp hsf).1 d h5
    omega
def invFrom (k n:Nat)(p:List Nat)(H:Hp)(m:Nat)(σ:St)(H2:Hp):Prop:=∃ (r:List Nat) (v:Option V),m=n-r.length∧Same H H2∧Wd.LF k n p r∧σ=[some (T p),some (.int (n:Nat)),some (.int (k:Nat)),some (T r),v]
def spFrom:Sp:=fun vs H Q _=>∃ (p:List Nat) (n k:Nat),vs=[T p,.int (n:Nat),.int (k:Nat)]∧((1<=k∧k<=6)∧n<=1000∧Wd.IsB k n p∧Wd.Okk k p)∧∀ r H',Wd.LB k n p r->Same H H'->Q (T r) H'
theorem ok_least_from {f:Addr}{fd:FuncData}(F:Fun K "least_from" "least_from" s_least_from f fd)(tt:Txt K mg ad)(C_letters:Cal P w K mg base (CX1 P w) "letters" 2 ["kinds"] (spLettersX ad))
  (C_is_beginning:Cal P w K mg base (CX1 P w) "is_beginning" 4 ["text", "length", "kinds"] spIsBeg):FnOk P w K mg base (CX1 P w) 5 f fd ["beginning", "length", "kinds"] spFrom:=by
 refine F.okN sc_least_from (fun vs H Q E h=>?_) (fun cdv A outer s H vs Q E hr h=>?_)
 ·obtain ⟨p,n,k,rfl,_⟩:=h
  rfl
 ·obtain ⟨p,n,k,rfl,⟨hk,hn,hb,ho⟩,q⟩:=h
  have hs:sizeLine=16777216:=sizeLine_eq
  refine ⟨_,(pss_cons (ps_set (i:=3) sc_least_from.nd rfl (Or.inr rfl) (pv 0))
   (pss_cons (ps_while PassesOwn.never (pt_cmpR op_lt (pe_callB call_len_T (by rfl) tt.b_len PySem.boot_len (pa_cN (pv 3) pa_nil)) (pv 1) (nomark _)) (pss_cons (ps_setCompf (i:=4) cs_least_from_0 rfl (pi_str (pe_cal C_letters hr pass1 (pa_cN (pv 2) pa_nil))) (fun cl C s' H' fp=>(pt_val (pe_cal C_is_beginning hr pass1 (pa_cB (pe_op op_add_T (pv 4) (pv 0)) (pa_cN (pv 2) (pa_cN (pv 3) pa_nil)))))) (fun cl C s' H' fp=>(pv 0)) sc_least_from.nd rfl rfl)
   (pss_one (ps_set (i:=3) sc_least_from.nd rfl (Or.inr rfl) (pe_op op_add_T (pv 3) (pe_ix ix_list (pv 4) pe_int (fun _ _=>rfl)))))))
   (pss_one (ps_ret (pv 3))))),?_⟩
  (try rw [cxK2]);(try rw [cxK1])
  refine ⟨_,rfl,?_⟩
  refine ⟨invFrom k n p H,⟨_,p,none,rfl,Same.refl _,Wd.LF.start hb ho,rfl⟩,?_⟩
  rintro m σ H2 ⟨r,v,rfl,s2,hf,rfl⟩
  have hrl:=hf.isb.1
  refine ⟨_,rfl,_,rfl,(by omega),_,rfl,_,_,rfl,rfl,_,rfl,?_⟩
  refine ite2 (fun h0=>?_) (fun h0=>?_)
  ·have h1:r.length<n:=by have:=of_decide_eq_true h0;omega
   refine ⟨fun σ' H'=>∃ m',m'<n-r.length∧invFrom k n p H m' σ' H',fun σ' H' z=>z,?_⟩
   refine ⟨_,rfl,_,rfl,fun kn ek hk2=>?_,fun z=>absurd ⟨by omega,by omega⟩ z⟩
   obtain rfl:k=kn:=by omega
   refine ⟨_,rfl,?_⟩
   refine compf_text (fun c=>decide (Wd.IsB k n (r++[c]))) (by rw [List.length_take];omega) (fun i c H' hi s' N hN=>?_) (fun x H' N hN=>⟨_,rfl,hN⟩) fun D H3 hD s3 hd3=>?_
   ·refine ⟨_,rfl,_,rfl,_,rfl,_,rfl,(by show r.length+1<=sizeLine;omega),_,rfl,_,rfl,r++[c],n,k,rfl,⟨hk,(by rw [List.length_append];show r.length+1<=10000;omega),by omega⟩,fun b hb=>⟨b,rfl,?_⟩⟩
    have e:b=decide (Wd.IsB k n (r++[c])):=by rw [Bool.eq_iff_iff,decide_eq_true_iff];exact hb
    rw [e]
    exact hN H' (Same.refl _)
   ·obtain ⟨c,rest,hq,hc,hpc,hno⟩:=first_letter hk (fun c=>decide (Wd.IsB k n (r++[c]))) (decide_eq_true (hf.isb.snoc h1))
    rw [hq] at hd3
    refine ⟨_,rfl,_,rfl,D,_,_,T [c],rfl,rfl,SqL.of hd3,atI_nat (j:=0) rfl,_,rfl,_,rfl,(by show r.length+1<=sizeLine;omega),?_⟩
    refine ⟨n-(r++[c]).length,?_,r++[c],some (.ref D),rfl,s2.trans s3,hf.step (by omega) h1 hc (of_decide_eq_true hpc) (fun d hd hlt=>of_decide_eq_false (hno d hd hlt)),rfl⟩
    rw [List.length_append]
    show n-(r.length+1)<n-r.length
    omega
  ·have h1:¬ r.length<n:=fun z=>h0 (decide_eq_true (by omega))
   exact ⟨_,rfl,q r H2 (hf.done (by omega)) s2⟩
def ResB (k n:Nat)(p:List Nat)(x:V):Prop:=(x = .non∧¬ Wd.IsB k n p)∨∃ r,x=T r∧Wd.LB k n p r
def spLBX (ad:Adr):Sp:=fun vs H Q E=>∃ (p:List Nat) (n k:Int),vs=[T p,.int n,.int k]∧p.length<=100000∧(¬ (1<=k∧k<=6)->E (.ref ad.BadKinds) none H)∧((1<=k∧k<=6)->¬ (1<=n∧n<=24)->E (.ref ad.BadWord) none H) ∧
 ∀ kn nn:Nat,k=(kn:Nat)->n=(nn:Nat)->(1<=kn∧kn<=6)->(1<=nn∧nn<=24)->(p=[]∨Good p kn->∀ x H',ResB kn nn p x->Same H H'->Q x H')∧(p≠[]->¬ Good p kn->E (.ref ad.BadWord) none H)
theorem ok_least_beginning {f:Addr}{fd:FuncData}(F:Fun K "least_beginning" "least_beginning" s_least_beginning f fd)(tt:Txt K mg ad)(C_looked_length:Cal P w K mg base (CX1 P w) "looked_length" 2 ["length", "kinds"] (spLenX ad))
  (C_looked:Cal P w K mg base (CX1 P w) "looked" 3 ["word", "kinds"] (spLookedX ad)) (C_is_beginning:Cal P w K mg base (CX1 P w) "is_beginning" 4 ["text", "length", "kinds"] spIsBeg)
  (C_least_from:Cal P w K mg base (CX1 P w) "least_from" 5 ["beginning", "length", "kinds"] spFrom):FnOk P w K mg base (CX1 P w) 6 f fd ["text", "length", "kinds"] (spLBX ad):=by
 refine F.okX sc_least_beginning (fun vs H Q E h=>?_) (fun cdv A outer s H vs Q E hr h=>?_)
 ·obtain ⟨p,n,k,rfl,_⟩:=h
  rfl
 ·obtain ⟨p,n,k,rfl,hp,x1,x2,q⟩:=h
  have hs:sizeLine=16777216:=sizeLine_eq
  refine ⟨_,(pss_cons (ps_expr (pe_cal C_looked_length hr passX (pa_cN (pv 1) (pa_cN (pv 2) pa_nil))))
   (pss_cons (ps_if (pt_cmpR op_ne_T (pv 0) (pe_strT [] (by decide +kernel)) (nomark _)) (pss_one (ps_expr (pe_cal C_looked hr passX (pa_cN (pv 0) (pa_cN (pv 2) pa_nil))))) pss_nil)
   (pss_cons (ps_if (pt_not (pt_val (pe_cal C_is_beginning hr pass1 (pa_cN (pv 0) (pa_cN (pv 1) (pa_cN (pv 2) pa_nil)))))) (pss_one (ps_ret pe_non)) pss_nil)
   (pss_one (ps_ret (pe_cal C_least_from hr pass1 (pa_cN (pv 0) (pa_cN (pv 1) (pa_cN (pv 2) pa_nil))))))))),?_⟩
  (try rw [cxK2]);(try rw [cxK1])
  refine ⟨_,rfl,_,rfl,n,k,rfl,fun hk hn=>?_,x1,x2⟩
  obtain ⟨kn,rfl⟩:∃ kn:Nat,k=(kn:Nat):=⟨k.toNat,by omega⟩
  obtain ⟨nn,rfl⟩:∃ nn:Nat,n=(nn:Nat):=⟨n.toNat,by omega⟩
  obtain ⟨q1,q2⟩:=q kn nn rfl rfl ⟨by omega,by omega⟩ ⟨by omega,by omega⟩
  refine ⟨_,rfl,_,rfl,_,rfl,_,rfl,?_⟩
  refine ite2 (fun h0=>?a) (fun h0=>?b)
  case' a =>
   have hne:p≠[]:=fun z=>by rw [z] at h0;exact absurd h0 (by decide)
   refine ⟨_,rfl,_,rfl,p,_,rfl,hp,fun z=>absurd hk z,fun kn' ek hk'=>⟨fun hg=>?_,fun hg=>?_⟩⟩
   rotate_left
   ·obtain rfl:kn=kn':=by omega
    exact q2 hne hg
   obtain rfl:kn=kn':=by omega
   have hg2:p=[]∨Good p kn:=.inr hg
   have hpl:p.length<=24:=hg.1.2
   have hpo:Wd.Okk kn p:=hg.2
  case' b =>
   have hne:p=[]:=Classical.byContradiction fun z=>h0 (by rw [decide_eq_false z];rfl)
   have hg2:p=[]∨Good p kn:=.inl hne
   have hpl:p.length<=24:=by rw [hne];exact Nat.zero_le _
   have hpo:Wd.Okk kn p:=by rw [hne];exact fun c hc=>(by cases hc)
  all_goals
   refine ⟨_,rfl,_,rfl,_,rfl,p,nn,kn,rfl,⟨⟨by omega,by omega⟩,by omega,by omega⟩,fun b hb=>⟨b,rfl,?_⟩⟩
   cases b with
   | false=>exact iteT (q1 hg2 .non H (.inl ⟨rfl,fun z=>by have:=hb.mpr z;cases this⟩) (Same.refl _))
   | true=>exact iteF ⟨_,rfl,_,rfl,_,rfl,p,nn,kn,rfl,⟨⟨by omega,by omega⟩,by omega,hb.mp rfl,hpo⟩,fun r H' hr s'=>q1 hg2 (T r) H' (.inr ⟨r,rfl,hr⟩) s'⟩
def ResN (k:Nat)(w:List Nat)(x:V):Prop:=(x = .non∧∀ v,Wd.LW k w.length v->¬ w<v)∨∃ r,x=T r∧Wd.NX k w r
theorem one_lt {c d:Nat}:([c]:List Nat)<[d]↔c<d:=by
 rw [List.cons_lt_cons_iff]
 constructor
 ·rintro (h | ⟨_,h⟩)
  ·exact h
  ·exact absurd h (by simp)
 ·exact .inl
def spNextX (ad:Adr):Sp:=fun vs H Q E=>∃ (w:List Nat) (k:Int),vs=[T w,.int k]∧w.length<=100000∧(¬ (1<=k∧k<=6)->E (.ref ad.BadKinds) none H) ∧
 ∀ kn:Nat,k=(kn:Nat)->(1<=kn∧kn<=6)->(Good w kn->∀ x H',ResN kn w x->Same H H'->Q x H')∧(¬ Good w kn->E (.ref ad.BadWord) none H)
theorem ok_next_least {f:Addr}{fd:FuncData}(F:Fun K "next_least" "next_least" s_next_least f fd)(tt:Txt K mg ad)(C_looked:Cal P w K mg base (CX1 P w) "looked" 3 ["word", "kinds"] (spLookedX ad))
  (C_letters:Cal P w K mg base (CX1 P w) "letters" 2 ["kinds"] (spLettersX ad)) (C_is_beginning:Cal P w K mg base (CX1 P w) "is_beginning" 4 ["text", "length", "kinds"] spIsBeg)
  (C_least_from:Cal P w K mg base (CX1 P w) "least_from" 5 ["beginning", "length", "kinds"] spFrom):FnOk P w K mg base (CX1 P w) 6 f fd ["word", "kinds"] (spNextX ad):=by
 refine F.okX sc_next_least (fun vs H Q E h=>?_) (fun cdv A outer s H vs Q E hr h=>?_)
 ·obtain ⟨w,k,rfl,_⟩:=h
  rfl
 ·obtain ⟨w,k,rfl,hw,x1,q⟩:=h
  have hs:sizeLine=16777216:=sizeLine_eq
  refine ⟨_,(pss_cons (ps_expr (pe_cal C_looked hr passX (pa_cN (pv 0) (pa_cN (pv 1) pa_nil))))
   (pss_cons (ps_for PassesOwn.leaving rfl (pi_range3 (by rfl) tt.b_range (pa_cB (pe_op op_sub (pe_callB call_len_T (by rfl) tt.b_len PySem.boot_len (pa_cN (pv 0) pa_nil)) pe_int) (pa_cU (pe_un un_neg pe_int) (pa_cU (pe_un un_neg pe_int) pa_nil)))) (pg_name (i:=2) sc_next_least.nd rfl (Or.inl rfl)) (pss_one (ps_for PassesOwn.leaving rfl (pi_str (pe_cal C_letters hr passX (pa_cN (pv 1) pa_nil))) (pg_name (i:=3) sc_next_least.nd rfl (Or.inl rfl)) (pss_cons (ps_set (i:=4) sc_next_least.nd rfl (Or.inl rfl) (pe_op op_add_T (pe_slice sl_T (pv 0) po_none (po_some (pv 2))) (pv 3)))
   (pss_one (ps_if (PW.pt (pw_and (pt_cmpR op_gt_T (pv 3) (pe_ix ix_T (pv 0) (pv 2) (fun _ _=>rfl)) (nomark _)) (pw_and1 (pt_val (pe_cal C_is_beginning hr pass1 (pa_cN (pv 4) (pa_cK (pe_callB call_len_T (by rfl) tt.b_len PySem.boot_len (pa_cN (pv 0) pa_nil)) (pa_cN (pv 1) pa_nil)))))))) (pss_one (ps_ret (pe_cal C_least_from hr pass1 (pa_cN (pv 4) (pa_cK (pe_callB call_len_T (by rfl) tt.b_len PySem.boot_len (pa_cN (pv 0) pa_nil)) (pa_cN (pv 1) pa_nil)))))) pss_nil))))))
   (pss_one (ps_ret pe_non)))),?_⟩
  (try rw [cxK2]);(try rw [cxK1])
  refine ⟨_,rfl,_,rfl,w,k,rfl,hw,x1,fun kn ek hk=>?_⟩
  subst ek
  obtain ⟨q1,q2⟩:=q kn rfl hk
  refine ⟨fun hg=>?_,q2⟩
  have hwl:=hg.1
  have hwo:Wd.Okk kn w:=hg.2
  refine ⟨_,rfl,_,rfl,(by omega),_,_,rfl,rfl,_,rfl,_,rfl,_,_,rfl,⟨by omega,by omega,by omega,by omega⟩,?_⟩
  rw [show ((w.length:Nat):Int)-1 - -1=((w.length:Nat):Int) by omega,Int.toNat_natCast]
  refine for_down (fun i σ H2=>Same H H2∧Wd.Nn kn w (w.length-i)∧∃ v1 v2 v3,σ=[some (T w),some (.int (kn:Nat)),v1,v2,v3]) ⟨Same.refl _,Wd.Nn.start kn w,none,none,none,rfl⟩ ?_ ?_
  ·rintro i σ H2 hi ⟨s2,hnn,v1,v2,v3,rfl⟩
   obtain ⟨m,hm⟩:∃ m,w.length-i=m+1:=⟨w.length-i-1,by omega⟩
   rw [hm] at hnn
   have hml:m<w.length:=by omega
   have epl:((w.length:Nat):Int)-1-(i:Int)=((m:Nat):Int):=by omega
   have hgm:=Wd.okk_getD hwo hml
   have hat:atI w ((m:Nat):Int)=some (w.getD m 0):=atI_nat (Wd.gD hml)
   have htl:(w.take m).length=m:=by rw [List.length_take];omega
   rw [epl]
   refine ⟨_,rfl,_,rfl,fun kn' ek hk2=>?_,fun z=>absurd ⟨by omega,by omega⟩ z⟩
   obtain rfl:kn=kn':=by omega
   refine ⟨_,rfl,?_⟩
   refine for_text (l:=([97,98,99,100,101,102]:List Nat).take kn) (fun j σ H3=>Same H2 H3∧(∀ d,97<=d->d<97+j->w.getD m 0<d->¬ Wd.IsB kn w.length (w.take m++[d]))∧∃ v2 v3,σ=[some (T w),some (.int (kn:Nat)),some (.int ((m:Nat):Int)),v2,v3]) ⟨Same.refl _,fun d h1 h2=>by omega,_,_,rfl⟩ ?_ ?_
   ·rintro j c σ H3 hj ⟨s3,hno,v2,v3,rfl⟩
    have hjl:=(List.getElem?_eq_some_iff.mp hj).1
    rw [List.length_take] at hjl
    have hj6:j<kn:=by have:([97,98,99,100,101,102]:List Nat).length=6:=rfl;omega
    obtain rfl:c=97+j:=by
     rw [List.getElem?_take_of_lt hj6,abc6 (by omega)] at hj
     exact (Option.some.inj hj).symm
    refine ⟨_,rfl,_,rfl,_,rfl,_,rfl,(by omega),_,rfl,_,rfl,_,rfl,?_,?_⟩
    ·rw [cutL_take,htl]
     show m+1<=sizeLine
     omega
    rw [cutL_take]
    refine ⟨_,rfl,_,rfl,_,rfl,_,rfl,_,rfl,(by omega),_,hat,_,rfl,_,rfl,_,rfl,?_⟩
    refine ite2 (fun h0=>?_) (fun h0=>?_)
    ·have h1:w.getD m 0<97+j:=one_lt.mp (of_decide_eq_true h0)
     refine ⟨_,rfl,_,rfl,_,rfl,(by omega),_,rfl,w.take m++[97+j],w.length,kn,rfl,⟨hk,(by rw [List.length_append,htl];show m+1<=10000;omega),by omega⟩,fun b hb=>⟨b,rfl,?_⟩⟩
     cases b with
     | true =>
      refine iteT ?_
      have hb2:=hb.mp rfl
      refine ⟨_,rfl,_,rfl,_,rfl,(by omega),_,rfl,w.take m++[97+j],w.length,kn,rfl,⟨hk,by omega,hb2,?_⟩,fun r H' hr s'=>?_⟩
      ·exact Wd.okk_app.mpr ⟨fun x hx=>hwo x (List.mem_of_mem_take hx),fun x hx=>by rw [List.mem_singleton] at hx;omega⟩
      ·exact q1 hg (T r) H' (.inr ⟨r,rfl,hnn.found (by omega) hml h1 (fun d hd hlt hwd=>hno d hd hlt hwd) hr⟩) ((s2.trans s3).trans s')
     | false =>
      refine iteF ⟨s3,fun d hd hlt hwd=>?_,_,_,rfl⟩
      by_cases e:d=97+j
      ·subst e
       exact fun z=>by have:=hb.mpr z;cases this
      ·exact hno d hd (by omega) hwd
    ·have h1:¬ w.getD m 0<97+j:=fun z=>h0 (decide_eq_true (one_lt.mpr z))
     refine iteF ⟨s3,fun d hd hlt hwd=>?_,_,_,rfl⟩
     by_cases e:d=97+j
     ·subst e
      exact absurd hwd h1
     ·exact hno d hd (by omega) hwd
   ·rintro σ H3 ⟨s3,hno,v2,v3,rfl⟩
    rw [List.length_take] at hno
    have h6:([97,98,99,100,101,102]:List Nat).length=6:=rfl
    refine ⟨s2.trans s3,?_,_,_,_,rfl⟩
    rw [show w.length-(i+1)=m by omega]
    exact hnn.step (by omega) hml fun d hd hlt hwd=>hno d hd (by omega) hwd
  ·rintro σ H2 ⟨s2,hnn,v1,v2,v3,rfl⟩
   rw [Nat.sub_self] at hnn
   exact q1 hg .non H2 (.inl ⟨rfl,hnn.none⟩) s2
def invLast (k:Nat)(w:List Nat)(H:Hp)(m:Nat)(σ:St)(H2:Hp):Prop:=H2=H∧∃ (l:List Nat) (v:Option V),m<=w.length∧l.length=w.length∧(Wd.Lst l->Wd.LL k w l)∧(¬ Wd.Lst l->Wd.Jn k w m)∧σ=[some (T w),some (.int (k:Nat)),some (T l),some (.int (m:Nat)),v]
def spLastX (ad:Adr):Sp:=fun vs H Q E=>∃ (w:List Nat) (k:Int),vs=[T w,.int k]∧w.length<=100000∧(¬ (1<=k∧k<=6)->E (.ref ad.BadKinds) none H) ∧
 ∀ kn:Nat,k=(kn:Nat)->(1<=kn∧kn<=6)->(Good w kn->∀ r,Wd.LL kn w r->Q (T r) H)∧(¬ Good w kn->E (.ref ad.BadWord) none H)
theorem ok_last_least {f:Addr}{fd:FuncData}(F:Fun K "last_least" "last_least" s_last_least f fd)(tt:Txt K mg ad)(C_looked:Cal P w K mg base (CX1 P w) "looked" 3 ["word", "kinds"] (spLookedX ad))
  (C_is_least:Cal P w K mg base (CX1 P w) "is_least" 3 ["word"] spIsLeast) (C_filled:Cal P w K mg base (CX1 P w) "filled" 3 ["text", "length", "kinds"] spFilled):FnOk P w K mg base (CX1 P w) 4 f fd ["word", "kinds"] (spLastX ad):=by
 refine F.okX sc_last_least (fun vs H Q E h=>?_) (fun cdv A outer s H vs Q E hr h=>?_)
 ·obtain ⟨w,k,rfl,_⟩:=h
  rfl
 ·obtain ⟨w,k,rfl,hw,x1,q⟩:=h
  have hs:sizeLine=16777216:=sizeLine_eq
  refine ⟨_,(pss_cons (ps_expr (pe_cal C_looked hr passX (pa_cN (pv 0) (pa_cN (pv 1) pa_nil))))
   (pss_cons (ps_set (i:=2) sc_last_least.nd rfl (Or.inl rfl) (pv 0))
   (pss_cons (ps_set (i:=3) sc_last_least.nd rfl (Or.inl rfl) (pe_callB call_len_T (by rfl) tt.b_len PySem.boot_len (pa_cN (pv 0) pa_nil)))
   (pss_cons (ps_while PassesOwn.leaving (pt_not (pt_val (pe_cal C_is_least hr pass1 (pa_cN (pv 2) pa_nil)))) (pss_cons (ps_set (i:=3) sc_last_least.nd rfl (Or.inl rfl) (pe_op op_sub (pv 3) pe_int))
   (pss_cons (ps_set (i:=4) sc_last_least.nd rfl (Or.inl rfl) (pe_op op_sub (pe_bm PySem.F.plainAttrs_str PySem.F.slot_str_index PySem.F.type_str_index mt_index6 (pe_glob (by rfl) tt.g_LETTERS tt.r_LETTERS) (pa_cS (pe_ix ix_T (pv 0) (pv 3) (fun _ _=>rfl)) pa_nil)) pe_int))
   (pss_one (ps_if (pt_cmpR op_ge (pv 4) pe_int (nomark _)) (pss_one (ps_set (i:=2) sc_last_least.nd rfl (Or.inl rfl) (pe_cal C_filled hr pass1 (pa_cB (pe_op op_add_T (pe_slice sl_T (pv 0) po_none (po_some (pv 3))) (pe_ix ix_T (pe_glob (by rfl) tt.g_LETTERS tt.r_LETTERS) (pv 4) (fun _ _=>rfl))) (pa_cK (pe_callB call_len_T (by rfl) tt.b_len PySem.boot_len (pa_cN (pv 0) pa_nil)) (pa_cN (pv 1) pa_nil)))))) pss_nil)))))
   (pss_one (ps_ret (pv 2))))))),?_⟩
  (try rw [cxK2]);(try rw [cxK1])
  refine ⟨_,rfl,_,rfl,w,k,rfl,hw,x1,fun kn ek hk=>?_⟩
  subst ek
  obtain ⟨q1,q2⟩:=q kn rfl hk
  refine ⟨fun hg=>?_,q2⟩
  have hwl:=hg.1
  have hwo:Wd.Okk kn w:=hg.2
  refine ⟨_,rfl,_,rfl,_,rfl,(by omega),?_⟩
  refine ⟨invLast kn w H,⟨w.length,rfl,w,none,Nat.le_refl _,rfl,fun h=>Wd.LL.self hwo h,fun h=>Wd.Jn.start h,rfl⟩,?_⟩
  rintro m σ H2 ⟨rfl,l,v,hm,hl,hyes,hno,rfl⟩
  refine ⟨_,rfl,l,rfl,by omega,_,rfl,?_⟩
  by_cases hlst:Wd.Lst l
  ·rw [decide_eq_true (show l=Wd.least l from hlst)]
   exact iteF ⟨_,rfl,q1 hg l (hyes hlst)⟩
  ·rw [decide_eq_false (show ¬ l=Wd.least l from hlst)]
   refine iteT ?_
   have hj:=hno hlst
   obtain ⟨j,rfl⟩:∃ j,m=j+1:=by
    cases m with
    | zero=>exact absurd hj (Wd.Jn.zero (by omega) hwo)
    | succ j=>exact ⟨j,rfl⟩
   have hjl:j<w.length:=by omega
   have hgj:=Wd.okk_getD hwo hjl
   have htl:(w.take j).length=j:=by rw [List.length_take];omega
   have hat:atI w (((j+1:Nat):Int)-1)=some (w.getD j 0):=by
    rw [show ((j+1:Nat):Int)-1=((j:Nat):Int) by omega]
    exact atI_nat (Wd.gD hjl)
   refine ⟨fun σ' H'=>∃ m',m'<j+1∧invLast kn w H2 m' σ' H',fun σ' H' z=>z,?_⟩
   refine ⟨_,rfl,_,_,rfl,rfl,?_⟩
   refine ⟨rfl,_,rfl,_,rfl,_,rfl,_,rfl,(by omega),_,hat,rfl,_,rfl,⟨by omega,by omega⟩,_,_,rfl,rfl,?_⟩
   refine ⟨_,rfl,_,_,rfl,rfl,_,rfl,?_⟩
   refine ite2 (fun h0=>?_) (fun h0=>?_)
   ·have h1:(0:Int)<=((w.getD j 0-97:Nat):Int)-1:=of_decide_eq_true h0
    have hat2:atI [97,98,99,100,101,102] (((w.getD j 0-97:Nat):Int)-1)=some (w.getD j 0-1):=by
     rw [show ((w.getD j 0-97:Nat):Int)-1=((w.getD j 0-98:Nat):Int) by omega,show w.getD j 0-1=97+(w.getD j 0-98) by omega]
     exact atI_nat (abc6 (by omega))
    have hcut:cutL w none (some (((j+1:Nat):Int)-1))=w.take j:=by
     rw [show ((j+1:Nat):Int)-1=((j:Nat):Int) by omega]
     exact cutL_take w j
    refine ⟨_,rfl,_,rfl,_,rfl,_,rfl,(by omega),_,rfl,_,rfl,_,rfl,(by show 6<=sizeLine;omega),_,hat2,_,rfl,_,rfl,?_,_,rfl,_,rfl,(by omega),_,rfl,w.take j++[w.getD j 0-1],w.length,kn,?_,⟨hk,?_,by omega⟩,?_⟩
    ·rw [hcut,htl]
     show j+1<=sizeLine
     omega
    ·rw [hcut]
     rfl
    ·rw [List.length_append,htl]
     show j+1<=w.length
     omega
    ·refine ⟨j,by omega,rfl,Wd.fill kn w.length (w.take j++[w.getD j 0-1]),some (.int (((w.getD j 0-97:Nat):Int)-1)),by omega,Wd.fill_len (by rw [List.length_append,htl];show j+1<=w.length;omega),fun z=>hj.found (by omega) hwo hjl (by omega) z,fun z=>hj.down (by omega) hwo hjl z,?_⟩
     rw [show ((j:Nat):Int)=((j+1:Nat):Int)-1 by omega]
     rfl
   ·have h1:¬ (0:Int)<=((w.getD j 0-97:Nat):Int)-1:=fun z=>h0 (decide_eq_true z)
    refine ⟨j,by omega,rfl,l,some (.int (((w.getD j 0-97:Nat):Int)-1)),by omega,hl,hyes,fun _=>hj.a hjl (by omega),?_⟩
    rw [show ((j:Nat):Int)=((j+1:Nat):Int)-1 by omega]
    rfl
def rV (k:Nat)(w:List Nat)(t:Nat):V:=.int (((Wd.pw k w t).length:Nat):Int)
def gV (k:Nat)(w:List Nat)(p:Nat):V:=.int ((96+k-w.getD p 0:Nat):Int)
theorem sum_cast (l:List Nat):(l.map fun (n:Nat)=>((n:Nat):Int)).sum=((l.sum:Nat):Int):=by
 induction l with
 | nil=>rfl
 | cons a l ih=>rw [List.map_cons,List.sum_cons,List.sum_cons,ih,Int.natCast_add]
theorem range_at {f:Nat->V}{n i:Nat}(h:i<n):((List.range n).map f)[i]?=some (f i):=by rw [List.getElem?_map,List.getElem?_range h];rfl
def spRests:Sp:=fun vs H Q _=>∃ (g:Addr) (k:Nat) (w:List Nat),vs=[.ref g]∧H g=some (.lst ((List.range w.length).map (gV k w)))∧(k<=6∧1<=w.length∧w.length<=24)∧∀ D H',H D=none->Same H H'->H' D=some (.lst ((List.range w.length).map (rV k w)))->Q (.ref D) H'
theorem ok_rests {f:Addr}{fd:FuncData}(F:Fun K "rests" "rests" s_rests f fd)(tt:Txt K mg ad):FnOk P w K mg base (CX1 P w) 1 f fd ["greater"] spRests:=by
 refine F.okN sc_rests (fun vs H Q E h=>?_) (fun cdv A outer s H vs Q E hr h=>?_)
 ·obtain ⟨g,k,w,rfl,_⟩:=h
  rfl
 ·obtain ⟨g,k,w,rfl,hS,⟨hk,h1,h24⟩,q⟩:=h
  have hs:sizeLine=16777216:=sizeLine_eq
  have hgl:((List.range w.length).map (gV k w)).length=w.length:=by rw [List.length_map,List.length_range]
  refine ⟨_,(pss_cons (ps_set (i:=1) sc_rests.nd rfl (Or.inr rfl) (pe_lst (pa_cC pe_int pa_nil)))
   (pss_cons (ps_for PassesOwn.never rfl (pi_range2 (by rfl) tt.b_range (pa_cC pe_int (pa_cK (pe_callB call_len_seq (by rfl) tt.b_len PySem.boot_len (pa_cN (pv 0) pa_nil)) pa_nil))) (pg_name (i:=2) sc_rests.nd rfl (Or.inr rfl)) (pss_one (ps_expr (pe_bm PySem.F.plainAttrs_list PySem.F.slot_list_append PySem.F.type_list_append mt_append (pv 1) (pa_cK (pe_callB (call_sumX rfl) (by rfl) tt.b_sum PyProof.Rows.boot_sum (pa_cons (pe_comp cs_rests_0 rfl (pi_range1 (by rfl) tt.b_range (pa_cN (pv 2) pa_nil)) (fun cl C s' H' fp=>(pe_op op_mul (pe_ix (ix_list_K K rfl) (pv 1) (pv 0) (fun _ _=>rfl)) (pe_ix (ix_list_K K rfl) (pv 2) (pe_op op_sub (pe_op op_sub (pv 3) pe_int) (pv 0)) (fun _ _=>rfl))))) pa_nil)) pa_nil)))))
   (pss_one (ps_ret (pv 1))))),?_⟩
  (try rw [cxK2]);(try rw [cxK1])
  refine ⟨(by show 1<=sizeLine;omega),fun D hD=>?_⟩
  have t1:=same_upd (o:=.lst [.int 1]) hD
  refine ⟨_,rfl,g,_,rfl,.inl (SqL.of (t1 g _ hS)),_,_,rfl,⟨by decide,by decide,by rw [hgl];omega,by rw [hgl];omega⟩,?_⟩
  rw [hgl]
  refine for_range (fun i σ G=>Same H G∧G D=some (.lst ((List.range (i+1)).map (rV k w)))∧∃ v:Option V,σ=[some (.ref g),some (.ref D),v])
   ⟨t1,(by rw [upd_same];show some (HO.lst [.int 1])=some (HO.lst [rV k w 0]);rw [rV,Wd.pw_zero];rfl),none,rfl⟩ ?_ ?_
  ·rintro i σ G hi ⟨s2,d2,v,rfl⟩
   have hi2:i+1<w.length:=by omega
   refine ⟨_,rfl,.inl ⟨rfl,_,SqL.of d2⟩,_,rfl,_,rfl,by omega,by omega,?_⟩
   have en:(1+(i:Int)).toNat=i+1:=by omega
   rw [en]
   refine comp_range (lo:=0) (n:=i+1) (fun p=>.int (((96+k-w.getD p 0)*(Wd.pw k w (i-p)).length:Nat):Int)) (by omega) (fun p G3 hp s3 N hN=>?_) fun D3 G3 hD3 s3 hd3=>?_
   ·have e1:atI ((List.range w.length).map (gV k w)) (0+(p:Int))=some (gV k w p):=by rw [Int.zero_add];exact atI_nat (range_at (by omega))
    have e2:atI ((List.range (i+1)).map (rV k w)) (1+(i:Int)-1-(0+(p:Int)))=some (rV k w (i-p)):=by
     rw [show 1+(i:Int)-1-(0+(p:Int))=((i-p:Nat):Int) by omega]
     exact atI_nat (range_at (by omega))
    have g3:=hN G3 (Same.refl _)
    rw [Int.natCast_mul] at g3
    exact ⟨_,rfl,_,rfl,g,_,_,_,rfl,rfl,SqL.of (s3 g _ (s2 g _ hS)),e1,_,rfl,_,rfl,_,_,rfl,rfl,_,rfl,_,_,rfl,rfl,D,_,_,_,rfl,rfl,SqL.of (s3 D _ d2),e2,_,_,rfl,rfl,.inl ⟨by omega,by omega⟩,g3⟩
   have hd3':G3 D3=some (.lst ((((List.range (i+1)).map fun p=>(96+k-w.getD p 0)*(Wd.pw k w (i-p)).length).map fun (n:Nat)=>((n:Nat):Int)).map V.int)):=by
    rw [hd3,List.map_map,List.map_map]
    rfl
   refine ⟨D3,_,rfl,SqL.of hd3',?_⟩
   rw [sum_cast,<- Wd.pw_len]
   refine ⟨D,_,_,rfl,rfl,s3 D _ d2,(by rw [List.length_map,List.length_range];omega),?_⟩
   refine ⟨fun b o e=>?_,?_,_,rfl⟩
   ·rw [upd_ne (ne_of_none e hD)]
    exact s3 b o (s2 b o e)
   ·rw [upd_same,List.range_succ (n:=i+1),List.map_append]
    rfl
  ·rintro σ G ⟨s2,d2,v,rfl⟩
   have e:(((w.length:Nat):Int)-1).toNat+1=w.length:=by omega
   rw [e] at d2
   exact ⟨_,rfl,q D G hD s2 d2⟩
def spAbove:Sp:=fun vs H Q _=>∃ (w:List Nat) (k:Nat),vs=[T w,.int (k:Nat)]∧((1<=k∧k<=6)∧(1<=w.length∧w.length<=24)∧Wd.Okk k w)∧∀ H',Same H H'->Q (.int (((Wd.gl k w).length:Nat):Int)) H'
theorem ok_count_above {f:Addr}{fd:FuncData}(F:Fun K "count_above" "count_above" s_count_above f fd)(tt:Txt K mg ad)(C_rests:Cal P w K mg base (CX1 P w) "rests" 1 ["greater"] spRests):FnOk P w K mg base (CX1 P w) 2 f fd ["word", "kinds"] spAbove:=by
 refine F.okN sc_count_above (fun vs H Q E h=>?_) (fun cdv A outer s H vs Q E hr h=>?_)
 ·obtain ⟨w,k,rfl,_⟩:=h
  rfl
 ·obtain ⟨w,k,rfl,⟨hk,hw,ho⟩,q⟩:=h
  have hs:sizeLine=16777216:=sizeLine_eq
  refine ⟨_,(pss_cons (ps_set (i:=2) sc_count_above.nd rfl (Or.inr rfl) (pe_comp cs_count_above_0 rfl (pi_str (pv 0)) (fun cl C s' H' fp=>(pe_op op_sub (pe_op op_sub (pv 2) pe_int) (pe_bmK K rfl PySem.F.plainAttrs_str PySem.F.slot_str_index PySem.F.type_str_index mt_index6 (pe_glob (by rfl) tt.g_LETTERS tt.r_LETTERS) (pa_cN (pv 0) pa_nil))))))
   (pss_cons (ps_set (i:=3) sc_count_above.nd rfl (Or.inr rfl) (pe_cal C_rests hr pass1 (pa_cN (pv 2) pa_nil)))
   (pss_cons (ps_set (i:=4) sc_count_above.nd rfl (Or.inr rfl) (pe_op op_sub (pe_callB call_len_T (by rfl) tt.b_len PySem.boot_len (pa_cN (pv 0) pa_nil)) pe_int))
   (pss_one (ps_ret (pe_callB (call_sumX rfl) (by rfl) tt.b_sum PyProof.Rows.boot_sum (pa_cons (pe_comp cs_count_above_1 rfl (pi_range1 (by rfl) tt.b_range (pa_cK (pe_callB call_len_T (by rfl) tt.b_len PySem.boot_len (pa_cN (pv 0) pa_nil)) pa_nil)) (fun cl C s' H' fp=>(pe_op op_mul (pe_op op_mul (pe_op op_add (pv 0) pe_int) (pe_ix (ix_list_K K rfl) (pv 3) (pv 0) (fun _ _=>rfl))) (pe_ix (ix_list_K K rfl) (pv 4) (pe_op op_sub (pv 5) (pv 0)) (fun _ _=>rfl))))) pa_nil))))))),?_⟩
  (try rw [cxK2]);(try rw [cxK1])
  refine ⟨_,rfl,w,rfl,?_⟩
  refine comp_text (l:=w) (fun c=>V.int ((96+k-c:Nat):Int)) (by omega) (fun i c H2 hc s2 N hN=>?_) fun D H2 hD s2 hd2=>?_
  ·have hcb:=ho c (List.mem_of_getElem? hc)
   have g:=hN H2 (Same.refl _)
   rw [show ((96+k-c:Nat):Int)=((k:Nat):Int)-1-((c-97:Nat):Int) by omega] at g
   exact ⟨_,rfl,_,_,rfl,rfl,rfl,_,rfl,rfl,c,rfl,⟨by omega,by omega⟩,_,_,rfl,rfl,g⟩
  have hd2':H2 D=some (.lst ((List.range w.length).map (gV k w))):=by
   rw [hd2]
   refine congrArg (fun l=>some (HO.lst l)) (List.ext_getElem? fun i=>?_)
   by_cases hi:i<w.length
   ·rw [range_at hi,List.getElem?_map,Wd.gD hi]
    rfl
   ·rw [List.getElem?_eq_none (by rw [List.length_map];omega),List.getElem?_eq_none (by rw [List.length_map,List.length_range];omega)]
  refine ⟨_,rfl,D,k,w,rfl,hd2',⟨hk.2,hw.1,hw.2⟩,fun D3 H3 hD3 s3 hd3=>?_⟩
  refine ⟨_,rfl,_,rfl,(by omega),_,_,rfl,rfl,?_⟩
  refine ⟨_,rfl,_,rfl,(by omega),_,rfl,by omega,by omega,?_⟩
  rw [Int.toNat_natCast]
  refine comp_range (lo:=0) (n:=w.length) (fun p=>.int (((p+1)*(96+k-w.getD p 0)*(Wd.pw k w (w.length-1-p)).length:Nat):Int)) (by omega) (fun p H4 hp s4 N hN=>?_) fun D4 H4 hD4 s4 hd4=>?_
  ·have e1:atI ((List.range w.length).map (gV k w)) (0+(p:Int))=some (gV k w p):=by rw [Int.zero_add];exact atI_nat (range_at (by omega))
   have e2:atI ((List.range w.length).map (rV k w)) (((w.length:Nat):Int)-1-(0+(p:Int)))=some (rV k w (w.length-1-p)):=by
    rw [show ((w.length:Nat):Int)-1-(0+(p:Int))=((w.length-1-p:Nat):Int) by omega]
    exact atI_nat (range_at (by omega))
   have g:=hN H4 (Same.refl _)
   rw [Int.natCast_mul,Int.natCast_mul,show ((p+1:Nat):Int)=0+(p:Int)+1 by omega] at g
   have hx:(0+(p:Int)+1)*((96+k-w.getD p 0:Nat):Int)=(((p+1)*(96+k-w.getD p 0):Nat):Int):=by rw [Int.natCast_mul,show ((p+1:Nat):Int)=0+(p:Int)+1 by omega]
   have hb:(p+1)*(96+k-w.getD p 0)<=24*102:=Nat.mul_le_mul (by omega) (by omega)
   refine ⟨_,rfl,_,_,rfl,rfl,_,rfl,_,rfl,D,_,_,_,rfl,rfl,SqL.of (s4 D _ (s3 D _ hd2')),e1,_,_,rfl,rfl,.inl ⟨by omega,by omega⟩,_,rfl,_,rfl,_,rfl,_,_,rfl,rfl,D3,_,_,_,rfl,rfl,SqL.of (s4 D3 _ hd3),e2,_,_,rfl,rfl,.inl ⟨?_,?_⟩,g⟩
   ·rw [hx];omega
   ·rw [hx];omega
  have hd4':H4 D4=some (.lst ((((List.range w.length).map fun p=>(p+1)*(96+k-w.getD p 0)*(Wd.pw k w (w.length-1-p)).length).map fun (n:Nat)=>((n:Nat):Int)).map V.int)):=by
   rw [hd4,List.map_map,List.map_map]
   rfl
  refine ⟨D4,_,rfl,SqL.of hd4',?_⟩
  rw [sum_cast,<- Wd.gl_len]
  exact q H4 (s2.trans (s3.trans s4))
def spUpX (ad:Adr):Sp:=fun vs H Q E=>∃ (w:List Nat) (k:Int),vs=[T w,.int k]∧w.length<=100000∧(¬ (1<=k∧k<=6)->E (.ref ad.BadKinds) none H) ∧
 ∀ kn:Nat,k=(kn:Nat)->(1<=kn∧kn<=6)->(Good w kn->∀ H',Same H H'->Q (.int ((Wd.upN kn w:Nat):Int)) H')∧(¬ Good w kn->E (.ref ad.BadWord) none H)
theorem ok_up_to {f:Addr}{fd:FuncData}(F:Fun K "up_to" "up_to" s_up_to f fd)(tt:Txt K mg ad)(C_looked:Cal P w K mg base (CX1 P w) "looked" 3 ["word", "kinds"] (spLookedX ad))(C_word_total:Cal P w K mg base (CX1 P w) "word_total" 1 ["length", "kinds"] spTotal)
  (C_count_above:Cal P w K mg base (CX1 P w) "count_above" 2 ["word", "kinds"] spAbove) (C_last_least:Cal P w K mg base (CX1 P w) "last_least" 4 ["word", "kinds"] (spLastX ad)):FnOk P w K mg base (CX1 P w) 5 f fd ["word", "kinds"] (spUpX ad):=by
 refine F.okX sc_up_to (fun vs H Q E h=>?_) (fun cdv A outer s H vs Q E hr h=>?_)
 ·obtain ⟨w,k,rfl,_⟩:=h
  rfl
 ·obtain ⟨w,k,rfl,hw,x1,q⟩:=h
  have hs:sizeLine=16777216:=sizeLine_eq
  refine ⟨_,(pss_cons (ps_expr (pe_cal C_looked hr passX (pa_cN (pv 0) (pa_cN (pv 1) pa_nil))))
   (pss_one (ps_ret (pe_op op_sub (pe_cal C_word_total hr pass1 (pa_cK (pe_callB call_len_T (by rfl) tt.b_len PySem.boot_len (pa_cN (pv 0) pa_nil)) (pa_cN (pv 1) pa_nil))) (pe_cal C_count_above hr pass1 (pa_cK (pe_cal C_last_least hr passX (pa_cN (pv 0) (pa_cN (pv 1) pa_nil))) (pa_cN (pv 1) pa_nil))))))),?_⟩
  (try rw [cxK2]);(try rw [cxK1])
  refine ⟨_,rfl,_,rfl,w,k,rfl,hw,x1,fun kn ek hk=>?_⟩
  subst ek
  obtain ⟨q1,q2⟩:=q kn rfl hk
  refine ⟨fun hg=>?_,q2⟩
  have hwl:=hg.1
  have hwo:Wd.Okk kn w:=hg.2
  refine ⟨_,rfl,_,rfl,(by omega),_,rfl,w.length,kn,rfl,⟨by omega,by omega⟩,?_⟩
  refine ⟨_,rfl,_,rfl,w,_,rfl,hw,fun z=>absurd ⟨by omega,by omega⟩ z,fun kn' ek hk'=>?_⟩
  obtain rfl:kn=kn':=by omega
  refine ⟨fun _ l hl=>?_,fun z=>absurd hg z⟩
  have hll:=hl.lw.len
  refine ⟨_,rfl,l,kn,rfl,⟨hk,⟨by omega,by omega⟩,hl.lw.ok⟩,fun H2 s2=>⟨_,_,rfl,rfl,?_⟩⟩
  have:=Wd.up_len (by omega) (by omega) hl
  have g:=q1 hg H2 s2
  rw [show ((Wd.upN kn w:Nat):Int)=((kn ^ w.length:Nat):Int)-(((Wd.gl kn l).length:Nat):Int) by omega] at g
  exact g
def spCnt (cnt:Nat->List Nat->Nat)(ad:Adr):Sp:=fun vs H Q E=>∃ (w:List Nat) (k:Int),vs=[T w,.int k]∧w.length<=100000∧(¬ (1<=k∧k<=6)->E (.ref ad.BadKinds) none H) ∧
 ∀ kn:Nat,k=(kn:Nat)->(1<=kn∧kn<=6)->(Good w kn->∀ H',Same H H'->Q (.int ((cnt kn w:Nat):Int)) H')∧(¬ Good w kn->E (.ref ad.BadWord) none H)
def FirstAt (cnt:Nat->List Nat->Nat)(kn nn:Nat)(N:Int)(m:Nat):Prop:=m<kn ^ nn∧N<((cnt kn (Wd.spell kn nn m):Nat):Int)∧(m=0∨((cnt kn (Wd.spell kn nn (m-1)):Nat):Int)<=N)
def spFWA (P:Program)(w:World)(K:PySem.W.Frag)(mg:Str->Option Value)(base:Heap)(ad:Adr):Sp:=fun vs H Q E=>∃ (n k N:Int) (f:Addr) (j:Nat) (cnt:Nat->List Nat->Nat),vs=[.int n,.int k,.int N,.ref f]∧CalF P w K mg base (CX1 P w) f j ["word", "kinds"] (spCnt cnt ad)∧j<=7∧(¬ (1<=k∧k<=6)->E (.ref ad.BadKinds) none H)∧((1<=k∧k<=6)->¬ (1<=n∧n<=24)->E (.ref ad.BadWord) none H) ∧
 ∀ kn nn:Nat,k=(kn:Nat)->n=(nn:Nat)->(1<=kn∧kn<=6)->(1<=nn∧nn<=24)->(¬ (0<=N∧N<((cnt kn (Wd.spell kn nn (kn ^ nn-1)):Nat):Int))->∀ H',Same H H'->E (.ref ad.NoSuch) none H')∧((0<=N∧N<((cnt kn (Wd.spell kn nn (kn ^ nn-1)):Nat):Int))->∀ m H',FirstAt cnt kn nn N m->Same H H'->Q (T (Wd.spell kn nn m)) H')
theorem spell_good {kn nn m:Nat}(hk:1<=kn∧kn<=6)(hn:1<=nn∧nn<=24):Good (Wd.spell kn nn m) kn:=⟨by rw [Wd.spell_len];exact hn,Wd.spell_mem (by omega) _ _⟩
def invFWA (f:Addr)(cnt:Nat->List Nat->Nat)(kn nn:Nat)(N:Int)(H:Hp)(m:Nat)(σ:St)(H2:Hp):Prop:=∃ (a b:Nat) (v:Option V),m=b-a∧a<=b∧b<kn ^ nn∧N<((cnt kn (Wd.spell kn nn b):Nat):Int)∧(a=0∨((cnt kn (Wd.spell kn nn (a-1)):Nat):Int)<=N)∧Same H H2∧σ=[some (.int (nn:Nat)),some (.int (kn:Nat)),some (.int N),some (.ref f),some (.int (a:Nat)),some (.int (b:Nat)),v]
theorem ok_first_word_above {f0:Addr}{fd:FuncData}(F:Fun K "first_word_above" "first_word_above" s_first_word_above f0 fd)(tt:Txt K mg ad)(C_looked_length:Cal P w K mg base (CX1 P w) "looked_length" 2 ["length", "kinds"] (spLenX ad))
  (C_word_total:Cal P w K mg base (CX1 P w) "word_total" 1 ["length", "kinds"] spTotal) (C_spelled:Cal P w K mg base (CX1 P w) "spelled" 1 ["number", "length", "kinds"] spSpell):FnOk P w K mg base (CX1 P w) 8 f0 fd ["length", "kinds", "number", "counted_up_to"] (spFWA P w K mg base ad):=by
 refine F.okX sc_first_word_above (fun vs H Q E h=>?_) (fun cdv A outer s H vs Q E hr h=>?_)
 ·obtain ⟨n,k,N,f,j,cnt,rfl,_⟩:=h
  rfl
 ·obtain ⟨n,k,N,f,j,cnt,rfl,hcf,hj,x1,x2,q⟩:=h
  have hs:sizeLine=16777216:=sizeLine_eq
  refine ⟨_,(pss_cons (ps_expr (pe_cal C_looked_length hr passX (pa_cN (pv 0) (pa_cN (pv 1) pa_nil))))
   (pss_cons (ps_set (i:=4) sc_first_word_above.nd rfl (Or.inl rfl) pe_int)
   (pss_cons (ps_set (i:=5) sc_first_word_above.nd rfl (Or.inl rfl) (pe_op op_sub (pe_cal C_word_total hr pass1 (pa_cN (pv 0) (pa_cN (pv 1) pa_nil))) pe_int))
   (pss_cons (ps_if (PW.pt (pw_or (pt_cmpR op_lt (pv 2) pe_int (nomark _)) (pw_or1 (pt_cmpR op_ge (pv 2) (pe_calL hcf hr passX (pv 3) (pa_cK (pe_cal C_spelled hr pass1 (pa_cN (pv 5) (pa_cN (pv 0) (pa_cN (pv 1) pa_nil)))) (pa_cN (pv 1) pa_nil)) hj) (nomark _))))) (pss_one (ps_raise (E:=fun cls H'=>E cls none H') tt.x_NoSuch rfl (fun _ _ _ _ _ _ _ I hx q=>raiseX I hx q) (pa_cC pe_str pa_nil))) pss_nil)
   (pss_cons (ps_while PassesOwn.leaving (pt_cmpR op_lt (pv 4) (pv 5) (nomark _)) (pss_cons (ps_set (i:=6) sc_first_word_above.nd rfl (Or.inl rfl) (pe_op op_fdiv (pe_op op_add (pv 4) (pv 5)) pe_int))
   (pss_one (ps_if (pt_cmpR op_gt (pe_calL hcf hr passX (pv 3) (pa_cK (pe_cal C_spelled hr pass1 (pa_cN (pv 6) (pa_cN (pv 0) (pa_cN (pv 1) pa_nil)))) (pa_cN (pv 1) pa_nil)) hj) (pv 2) (nomark _)) (pss_one (ps_set (i:=5) sc_first_word_above.nd rfl (Or.inl rfl) (pv 6))) (pss_one (ps_set (i:=4) sc_first_word_above.nd rfl (Or.inl rfl) (pe_op op_add (pv 6) pe_int)))))))
   (pss_one (ps_ret (pe_cal C_spelled hr pass1 (pa_cN (pv 4) (pa_cN (pv 0) (pa_cN (pv 1) pa_nil))))))))))),?_⟩
  (try rw [cxK2]);(try rw [cxK1])
  refine ⟨_,rfl,_,rfl,n,k,rfl,fun hk hn=>?_,x1,x2⟩
  obtain ⟨kn,rfl⟩:∃ kn:Nat,k=(kn:Nat):=⟨k.toNat,by omega⟩
  obtain ⟨nn,rfl⟩:∃ nn:Nat,n=(nn:Nat):=⟨n.toNat,by omega⟩
  have hk':1<=kn∧kn<=6:=⟨by omega,by omega⟩
  have hn':1<=nn∧nn<=24:=⟨by omega,by omega⟩
  obtain ⟨q1,q2⟩:=q kn nn rfl rfl hk' hn'
  have hp0:0<kn ^ nn:=Nat.pow_pos (by omega)
  refine ⟨_,rfl,_,rfl,nn,kn,rfl,⟨by omega,by omega⟩,_,_,rfl,rfl,?_⟩
  dsimp only
  rw [show ((kn ^ nn:Nat):Int)-1=((kn ^ nn-1:Nat):Int) by omega]
  refine ⟨_,rfl,_,_,rfl,rfl,_,rfl,?_⟩
  refine ite2 (fun h0=>iteT ?_) (fun h0=>?_)
  ·have h1:N<0:=of_decide_eq_true h0
   exact ⟨(by show 1<=sizeLine;omega),q1 (fun z=>by omega) H (Same.refl _)⟩
  have h1:¬ N<0:=fun z=>h0 (decide_eq_true z)
  refine ⟨_,rfl,_,rfl,rfl,_,rfl,_,rfl,_,rfl,kn ^ nn-1,nn,kn,rfl,⟨by omega,by omega,by omega⟩,fun H1 s1=>⟨_,rfl,_,_,rfl,(by rw [Wd.spell_len];omega),fun z=>absurd (by omega) z,fun kn' ek hk3=>?_⟩⟩
  obtain rfl:kn=kn':=by omega
  refine ⟨fun _ H2 s2=>?_,fun z=>absurd (spell_good hk' hn') z⟩
  refine ⟨_,_,rfl,rfl,_,rfl,?_⟩
  refine ite2 (fun h2=>?_) (fun h2=>?_)
  ·have h3:=of_decide_eq_true h2
   exact ⟨(by show 1<=sizeLine;omega),q1 (fun z=>by omega) H2 (s1.trans s2)⟩
  have h3:N<((cnt kn (Wd.spell kn nn (kn ^ nn-1)):Nat):Int):=Int.lt_of_not_ge fun z=>h2 (decide_eq_true z)
  refine ⟨invFWA f cnt kn nn N H,⟨_,0,kn ^ nn-1,none,rfl,by omega,by omega,h3,.inl rfl,s1.trans s2,rfl⟩,?_⟩
  rintro m σ G ⟨a,b,v,rfl,hab,hb,hNb,ha,sG,rfl⟩
  refine ⟨_,rfl,_,rfl,_,_,rfl,rfl,_,rfl,?_⟩
  refine ite2 (fun h4=>?_) (fun h4=>?_)
  ·have hlt:a<b:=by have:=of_decide_eq_true h4;omega
   refine ⟨fun σ' H'=>∃ m',m'<b-a∧invFWA f cnt kn nn N H m' σ' H',fun σ' H' z=>z,?_⟩
   refine ⟨_,rfl,_,rfl,_,_,rfl,rfl,_,_,rfl,rfl,⟨by decide,by decide⟩,?_⟩
   dsimp only
   obtain ⟨c,hc,hc1,hc2⟩:∃ c:Nat,(((a:Nat):Int)+((b:Nat):Int))/2=((c:Nat):Int)∧a<=c∧c<b:=⟨(a+b)/2,by omega,by omega,by omega⟩
   rw [hc]
   refine ⟨_,rfl,rfl,_,rfl,_,rfl,_,rfl,c,nn,kn,rfl,⟨by omega,by omega,by omega⟩,fun G1 s3=>⟨_,rfl,_,_,rfl,(by rw [Wd.spell_len];omega),fun z=>absurd (by omega) z,fun kn' ek hk3=>?_⟩⟩
   obtain rfl:kn=kn':=by omega
   refine ⟨fun _ G2 s4=>?_,fun z=>absurd (spell_good hk' hn') z⟩
   have s5:=sG.trans (s3.trans s4)
   refine ⟨_,rfl,_,_,rfl,rfl,_,rfl,?_⟩
   refine ite2 (fun h5=>?_) (fun h5=>?_)
   ·have h6:=of_decide_eq_true h5
    exact ⟨_,rfl,c-a,by omega,a,c,_,rfl,hc1,by omega,h6,ha,s5,rfl⟩
   ·have h6:¬ N<((cnt kn (Wd.spell kn nn c):Nat):Int):=fun z=>h5 (decide_eq_true z)
    refine ⟨_,rfl,_,_,rfl,rfl,b-(c+1),by omega,c+1,b,some (.int ((c:Nat):Int)),rfl,hc2,hb,hNb,.inr (by rw [Nat.add_sub_cancel];omega),s5,?_⟩
    rw [Int.natCast_add]
    rfl
  ·have hge:a=b:=by
    have:¬ ((a:Nat):Int)<((b:Nat):Int):=fun z=>h4 (decide_eq_true z)
    omega
   subst hge
   exact ⟨_,rfl,_,rfl,_,rfl,a,nn,kn,rfl,⟨by omega,by omega,by omega⟩,fun G1 s3=>q2 ⟨by omega,h3⟩ a G1 ⟨hb,hNb,ha⟩ (sG.trans s3)⟩
def FirstOk (w:List Nat)(kn:Nat):Prop:=Good w kn∧Wd.Lst w
theorem FirstOk.lw {w:List Nat}{kn:Nat}(h:FirstOk w kn):Wd.LW kn w.length w:=⟨rfl,h.1.2,h.2⟩
def spLFirst (ad:Adr):Sp:=fun vs H Q E=>∃ (w:List Nat) (k:Int),vs=[T w,.int k]∧w.length<=10000∧(¬ (1<=k∧k<=6)->E (.ref ad.BadKinds) none H) ∧
 ∀ kn:Nat,k=(kn:Nat)->(1<=kn∧kn<=6)->(FirstOk w kn->Q .non H)∧(¬ FirstOk w kn->E (.ref ad.BadWord) none H)
theorem ok_looked_first {f:Addr}{fd:FuncData}(F:Fun K "looked_first" "looked_first" s_looked_first f fd)(tt:Txt K mg ad)(C_looked:Cal P w K mg base (CX1 P w) "looked" 3 ["word", "kinds"] (spLookedX ad))(C_is_least:Cal P w K mg base (CX1 P w) "is_least" 3 ["word"] spIsLeast):FnOk P w K mg base (CX1 P w) 4 f fd ["first", "kinds"] (spLFirst ad):=by
 refine F.okX sc_looked_first (fun vs H Q E h=>?_) (fun cdv A outer s H vs Q E hr h=>?_)
 ·obtain ⟨w,k,rfl,_⟩:=h
  rfl
 ·obtain ⟨w,k,rfl,hw,x1,q⟩:=h
  have hs:sizeLine=16777216:=sizeLine_eq
  refine ⟨_,(pss_cons (ps_expr (pe_cal C_looked hr passX (pa_cN (pv 0) (pa_cN (pv 1) pa_nil))))
   (pss_one (ps_if (pt_not (pt_val (pe_cal C_is_least hr pass1 (pa_cN (pv 0) pa_nil)))) (pss_one (ps_raise (E:=fun cls H'=>E cls none H') tt.x_BadWord rfl (fun _ _ _ _ _ _ _ I hx q=>raiseX I hx q) (pa_cC pe_str pa_nil))) pss_nil))),?_⟩
  (try rw [cxK2]);(try rw [cxK1])
  refine ⟨_,rfl,_,rfl,w,k,rfl,(by omega),x1,fun kn ek hk=>?_⟩
  obtain ⟨q1,q2⟩:=q kn ek hk
  refine ⟨fun hg=>?_,fun hg=>q2 fun z=>hg z.1⟩
  refine ⟨_,rfl,w,rfl,hw,_,rfl,?_⟩
  by_cases hl:Wd.Lst w
  ·rw [decide_eq_true (show w=Wd.least w from hl)]
   exact iteF (q1 ⟨hg,hl⟩)
  ·rw [decide_eq_false (show ¬ w=Wd.least w from hl)]
   exact iteT ⟨(by show 1<=sizeLine;omega),q2 fun z=>hl z.2⟩
def spCB:Sp:=fun vs H Q _=>∃ (w:List Nat) (kn:Nat),vs=[T w,.int (kn:Nat)]∧((1<=kn∧kn<=6)∧FirstOk w kn)∧∀ H',Same H H'->Q (.int ((Wd.cb kn w:Nat):Int)) H'
theorem ok_count_below {f:Addr}{fd:FuncData}(F:Fun K "count_below" "count_below" s_count_below f fd)(tt:Txt K mg ad)(C_up_to:Cal P w K mg base (CX1 P w) "up_to" 5 ["word", "kinds"] (spUpX ad))(C_root:Cal P w K mg base (CX1 P w) "root" 2 ["word"] spRoot):FnOk P w K mg base (CX1 P w) 6 f fd ["least", "kinds"] spCB:=by
 refine F.okX sc_count_below (fun vs H Q E h=>?_) (fun cdv A outer s H vs Q E hr h=>?_)
 ·obtain ⟨w,kn,rfl,_⟩:=h
  rfl
 ·obtain ⟨w,kn,rfl,⟨hk,hf⟩,q⟩:=h
  have hs:sizeLine=16777216:=sizeLine_eq
  have hwl:=hf.1.1
  refine ⟨_,(pss_one (ps_ret (pe_op op_sub (pe_cal C_up_to hr passX (pa_cN (pv 0) (pa_cN (pv 1) pa_nil))) (pe_callB call_len_T (by rfl) tt.b_len PySem.boot_len (pa_cK (pe_cal C_root hr pass1 (pa_cN (pv 0) pa_nil)) pa_nil))))),?_⟩
  (try rw [cxK2]);(try rw [cxK1])
  refine ⟨_,rfl,_,rfl,w,_,rfl,(by omega),fun z=>absurd (by omega) z,fun kn' ek hk'=>?_⟩
  obtain rfl:kn=kn':=by omega
  refine ⟨fun _ H1 s1=>?_,fun z=>absurd hf.1 z⟩
  refine ⟨_,rfl,w,rfl,⟨by omega,by omega⟩,fun p hp=>?_⟩
  have hpl:=hp.le
  have htl:(w.take p).length=p:=by rw [List.length_take];omega
  refine ⟨_,rfl,(by omega),_,_,rfl,rfl,?_⟩
  have h1:=Wd.up_cb (show 0<kn by omega) (by omega) hf.lw
  rw [Wd.rootL_eq hp] at h1
  have g:=q H1 s1
  rw [show ((Wd.cb kn w:Nat):Int)=((Wd.upN kn w:Nat):Int)-(((w.take p).length:Nat):Int) by rw [htl];omega] at g
  exact g
def spRSize (ad:Adr):Sp:=fun vs H Q E=>∃ (w:List Nat) (k:Int),vs=[T w,.int k]∧w.length<=10000∧(¬ (1<=k∧k<=6)->E (.ref ad.BadKinds) none H) ∧
 ∀ kn:Nat,k=(kn:Nat)->(1<=kn∧kn<=6)->(FirstOk w kn->∀ H',Same H H'->Q (.int (((Wd.ringF kn w).length:Nat):Int)) H')∧(¬ FirstOk w kn->E (.ref ad.BadWord) none H)
theorem ok_ring_size {f:Addr}{fd:FuncData}(F:Fun K "ring_size" "ring_size" s_ring_size f fd)(tt:Txt K mg ad)(C_looked_first:Cal P w K mg base (CX1 P w) "looked_first" 4 ["first", "kinds"] (spLFirst ad))(C_word_total:Cal P w K mg base (CX1 P w) "word_total" 1 ["length", "kinds"] spTotal)(C_count_below:Cal P w K mg base (CX1 P w) "count_below" 6 ["least", "kinds"] spCB):FnOk P w K mg base (CX1 P w) 7 f fd ["first", "kinds"] (spRSize ad):=by
 refine F.okX sc_ring_size (fun vs H Q E h=>?_) (fun cdv A outer s H vs Q E hr h=>?_)
 ·obtain ⟨w,k,rfl,_⟩:=h
  rfl
 ·obtain ⟨w,k,rfl,hw,x1,q⟩:=h
  have hs:sizeLine=16777216:=sizeLine_eq
  refine ⟨_,(pss_cons (ps_expr (pe_cal C_looked_first hr passX (pa_cN (pv 0) (pa_cN (pv 1) pa_nil))))
   (pss_one (ps_ret (pe_op op_sub (pe_cal C_word_total hr pass1 (pa_cK (pe_callB call_len_T (by rfl) tt.b_len PySem.boot_len (pa_cN (pv 0) pa_nil)) (pa_cN (pv 1) pa_nil))) (pe_cal C_count_below hr passX (pa_cN (pv 0) (pa_cN (pv 1) pa_nil))))))),?_⟩
  (try rw [cxK2]);(try rw [cxK1])
  refine ⟨_,rfl,_,rfl,w,k,rfl,hw,x1,fun kn ek hk=>?_⟩
  subst ek
  obtain ⟨q1,q2⟩:=q kn rfl hk
  refine ⟨fun hf=>?_,q2⟩
  have hwl:=hf.1.1
  refine ⟨_,rfl,_,rfl,(by omega),_,rfl,w.length,kn,rfl,⟨by omega,by omega⟩,?_⟩
  refine ⟨_,rfl,_,rfl,w,kn,rfl,⟨hk,hf⟩,fun H1 s1=>⟨_,_,rfl,rfl,?_⟩⟩
  have h1:=(Wd.ringF_len (show 0<kn by omega) (by omega) hf.lw).1
  have g:=q1 hf H1 s1
  rw [show (((Wd.ringF kn w).length:Nat):Int)=((kn ^ w.length:Nat):Int)-((Wd.cb kn w:Nat):Int) by omega] at g
  exact g
def LastR (k:Nat)(f:List Nat)(p many:Nat)(t:List Nat):Prop:=t=[]∨∃ (t0:Nat) (u:List Nat),t.length=t0+Wd.rootL u∧t0<many∧(p+t0) % (Wd.ringF k f).length=Wd.cb k u-Wd.cb k f∧Wd.cb k u-Wd.cb k f+Wd.rootL u<=(Wd.ringF k f).length
def spPut:Sp:=fun vs H Q _=>∃ (f l:List Nat) (kn many:Nat),vs=[T f,.int (kn:Nat),T l,.int (many:Nat)]∧((1<=kn∧kn<=6)∧FirstOk f kn∧Wd.LW kn f.length l∧¬ l<f∧many<=100000) ∧
 ∀ (t:List Nat) H',many<=t.length->t.length<=many+24->t=Wd.ringAt (Wd.ringF kn f) t.length (Wd.cb kn l-Wd.cb kn f)->Wd.cb kn f<=Wd.cb kn l->LastR kn f (Wd.cb kn l-Wd.cb kn f) many t->Same H H'->Q (T t) H'
def invPut (f l:List Nat)(kn many:Nat)(H:Hp)(m:Nat)(σ:St)(H2:Hp):Prop:=∃ (pre ls:List (List Nat)) (t u:List Nat) (v:Option V),Wd.LO kn f.length=pre++f::ls∧m=many-t.length∧t.length<=many+24∧Wd.Walk (Wd.ringOf (f::ls)) f kn (f::ls) (Wd.cb kn l-Wd.cb kn f) t u∧LastR kn f (Wd.cb kn l-Wd.cb kn f) many t∧Same H H2∧σ=[some (T f),some (.int (kn:Nat)),some (T l),some (.int (many:Nat)),some (T t),some (T u),v]
theorem ok_put_together {f:Addr}{fd:FuncData}(F:Fun K "put_together" "put_together" s_put_together f fd)(tt:Txt K mg ad)(C_root:Cal P w K mg base (CX1 P w) "root" 2 ["word"] spRoot)(C_next_least:Cal P w K mg base (CX1 P w) "next_least" 6 ["word", "kinds"] (spNextX ad)):FnOk P w K mg base (CX1 P w) 7 f fd ["first", "kinds", "least", "many"] spPut:=by
 refine F.okN sc_put_together (fun vs H Q E h=>?_) (fun cdv A outer s H vs Q E hr h=>?_)
 ·obtain ⟨f,l,kn,many,rfl,_⟩:=h
  rfl
 ·obtain ⟨f,l,kn,many,rfl,⟨hk,hf,hl,hge,hmany⟩,q⟩:=h
  have hs:sizeLine=16777216:=sizeLine_eq
  have hfl:=hf.1.1
  have hk0:0<kn:=by omega
  have hn0:0<f.length:=by omega
  obtain ⟨pre,ls,he,hR⟩:=Wd.ringF_is hk0 hf.lw
  obtain ⟨a,b,hab⟩:=Wd.split_at hk0 he hl hge
  have hlen:=Wd.ring_len hk0 hn0 a pre b l f (by rw [he,hab]) (by rw [<- hab];rfl)
  have hpos:=Wd.ring_pos hk0 hn0 he
  have hlin:l∈f::ls:=by rw [hab];simp
  refine ⟨_,(pss_cons (ps_set (i:=4) sc_put_together.nd rfl (Or.inl rfl) (pe_strT [] (by decide +kernel)))
   (pss_cons (ps_set (i:=5) sc_put_together.nd rfl (Or.inl rfl) (pv 2))
   (pss_cons (ps_while PassesOwn.never (pt_cmpR op_lt (pe_callB call_len_T (by rfl) tt.b_len PySem.boot_len (pa_cN (pv 4) pa_nil)) (pv 3) (nomark _)) (pss_cons (ps_set (i:=4) sc_put_together.nd rfl (Or.inl rfl) (pe_op op_add_T (pv 4) (pe_cal C_root hr pass1 (pa_cN (pv 5) pa_nil))))
   (pss_cons (ps_set (i:=6) sc_put_together.nd rfl (Or.inl rfl) (pe_cal C_next_least hr pass1 (pa_cN (pv 5) (pa_cN (pv 1) pa_nil))))
   (pss_one (ps_set (i:=5) sc_put_together.nd rfl (Or.inl rfl) (pe_ifExp (pt_cmp (pc_isN (pv 6))) (pv 0) (pv 6)))))))
   (pss_one (ps_ret (pv 4)))))),?_⟩
  (try rw [cxK2]);(try rw [cxK1])
  refine ⟨_,rfl,?_⟩
  refine ⟨invPut f l kn many H,⟨_,pre,ls,[],l,none,he,rfl,by show 0<=many+24;omega,⟨hlin,rfl,?_,by omega⟩,.inl rfl,Same.refl _,rfl⟩,?_⟩
  ·show (Wd.cb kn l-Wd.cb kn f+0) % _=_
   refine Nat.mod_eq_of_lt ?_
   have hlp:=(Wd.rootL_is (w:=l) (by rw [hl.len];exact hn0)).pos
   rw [hab,Wd.ringOf_app,List.length_append,Wd.ringOf_cons,List.length_append,Wd.rootW_len (by rw [hl.len];exact hn0)]
   omega
  rintro m σ H2 ⟨pre',ls',t,u,v,he',rfl,htl,hw,hlast,s2,rfl⟩
  have hls:f::ls'=f::ls:=by
   have hnd:=Wd.LO_nodup (k:=kn) (n:=f.length) hk0
   have hsp:=he'.symm.trans he
   rw [he'] at hnd
   have h1:=(List.append_eq_append_iff.mp hsp)
   rcases h1 with ⟨a',e1,e2⟩ | ⟨a',e1,e2⟩
   ·cases a' with
    | nil=>exact e2
    | cons x a' =>
     have hx:x=f:=(List.cons.inj e2).1.symm
     have hm:f∈ls':=by rw [(List.cons.inj e2).2];simp
     exact absurd hm (List.nodup_cons.mp (List.nodup_append.mp hnd).2.1).1
   ·cases a' with
    | nil=>exact e2.symm
    | cons x a' =>
     have hx:x=f:=(List.cons.inj e2).1.symm
     have hm:f∈pre':=by rw [e1,hx];simp
     exact absurd rfl ((List.nodup_append.mp hnd).2.2 f hm f (by simp))
  rw [hls] at hw
  have hu:Wd.LW kn f.length u:=(Wd.mem_LO hk0).mp (by rw [he];exact List.mem_append_right _ hw.mem)
  have hul:=hu.len
  refine ⟨_,rfl,_,rfl,(by omega),_,rfl,_,_,rfl,rfl,_,rfl,?_⟩
  refine ite2 (fun h0=>?_) (fun h0=>?_)
  ·have hlt:t.length<many:=by have:=of_decide_eq_true h0;omega
   obtain ⟨w1,w2,w3⟩:=hw.step hk0 hn0 he
   refine ⟨fun σ' H'=>∃ m',m'<many-t.length∧invPut f l kn many H m' σ' H',fun σ' H' z=>z,?_⟩
   refine ⟨_,rfl,_,rfl,u,rfl,⟨by omega,by omega⟩,fun p hp=>?_⟩
   have hpe:=Wd.rootL_eq hp
   have htk:u.take p=Wd.rootW u:=by rw [<- hpe];rfl
   have hpp:=hp.pos
   have hple:=hp.le
   rw [htk]
   have hrl:=Wd.rootW_len (w:=u) (by omega)
   refine ⟨_,rfl,_,rfl,(by rw [hrl];omega),?_⟩
   refine ⟨_,rfl,_,rfl,u,_,rfl,(by omega),fun z=>absurd ⟨by omega,by omega⟩ z,fun kn' ek hk'=>?_⟩
   obtain rfl:kn=kn':=by omega
   have hgu:Good u kn:=⟨⟨by omega,by omega⟩,hu.ok⟩
   refine ⟨fun _ x H3 hx s3=>?_,fun z=>absurd hgu z⟩
   have hnew:LastR kn f (Wd.cb kn l-Wd.cb kn f) many (t++Wd.rootW u):=.inr ⟨t.length,u,by rw [List.length_append,hrl],hlt,by rw [hR];exact hw.at_,by rw [hR];exact w2⟩
   have hmes:many-(t++Wd.rootW u).length<many-t.length:=by rw [List.length_append,hrl];omega
   have hbd:(t++Wd.rootW u).length<=many+24:=by rw [List.length_append,hrl];omega
   refine ⟨_,rfl,_,rfl,?_⟩
   rcases hx with ⟨rfl,hno⟩ | ⟨r,rfl,hr⟩
   ·refine itP (decide_eq_true rfl) ?_
    refine ⟨_,rfl,_,hmes,pre,ls,t++Wd.rootW u,f,_,he,rfl,hbd,hw.next hk0 hn0 he (.inr ⟨rfl,fun x hx=>hno x (by rw [hul];exact hx)⟩),hnew,s2.trans s3,rfl⟩
   ·refine itN (fun z=>absurd (of_decide_eq_true z) (fun z=>nomatch z)) ?_
    refine ⟨_,rfl,_,hmes,pre,ls,t++Wd.rootW u,r,_,he,rfl,hbd,hw.next hk0 hn0 he (.inl hr),hnew,s2.trans s3,rfl⟩
  ·have hge2:many<=t.length:=by
    have:¬ ((t.length:Nat):Int)<((many:Nat):Int):=fun z=>h0 (decide_eq_true z)
    omega
   exact ⟨_,rfl,q t H2 hge2 htl (by rw [hR];exact hw.rd) (by omega) hlast s2⟩
def spPiece (ad:Adr):Sp:=fun vs H Q E=>∃ (w:List Nat) (k pl mn:Int),vs=[T w,.int k,.int pl,.int mn]∧w.length<=10000∧(¬ (1<=k∧k<=6)->E (.ref ad.BadKinds) none H) ∧
 ∀ kn:Nat,k=(kn:Nat)->(1<=kn∧kn<=6)->(¬ FirstOk w kn->E (.ref ad.BadWord) none H)∧(FirstOk w kn->(200<mn->∀ H',Same H H'->E (.ref ad.TooMany) none H')∧(mn<0->∀ H',Same H H'->E (.ref ad.NoSuch) none H') ∧
  ∀ (many i:Nat),mn=(many:Nat)->many<=200->pl % (((Wd.ringF kn w).length:Nat):Int)=(i:Int)->∀ H',Same H H'->Q (T (Wd.ringAt (Wd.ringF kn w) many i)) H')
theorem ok_piece_at {f:Addr}{fd:FuncData}(F:Fun K "piece_at" "piece_at" s_piece_at f fd)(tt:Txt K mg ad)(C_ring_size:Cal P w K mg base (CX1 P w) "ring_size" 7 ["first", "kinds"] (spRSize ad))(C_count_below:Cal P w K mg base (CX1 P w) "count_below" 6 ["least", "kinds"] spCB)(C_first_word_above:Cal P w K mg base (CX1 P w) "first_word_above" 8 ["length", "kinds", "number", "counted_up_to"] (spFWA P w K mg base ad))
  (C_up_to:Cal P w K mg base (CX1 P w) "up_to" 5 ["word", "kinds"] (spUpX ad)) (C_put_together:Cal P w K mg base (CX1 P w) "put_together" 7 ["first", "kinds", "least", "many"] spPut):FnOk P w K mg base (CX1 P w) 9 f fd ["first", "kinds", "place", "many"] (spPiece ad):=by
 refine F.okX sc_piece_at (fun vs H Q E h=>?_) (fun cdv A outer s H vs Q E hr h=>?_)
 ·obtain ⟨w,k,pl,mn,rfl,_⟩:=h
  rfl
 ·obtain ⟨w,k,pl,mn,rfl,hw,x1,q⟩:=h
  have hs:sizeLine=16777216:=sizeLine_eq
  obtain ⟨fu,hmg,hcf⟩:=C_up_to.val
  refine ⟨_,(pss_cons (ps_set (i:=4) sc_piece_at.nd rfl (Or.inl rfl) (pe_cal C_ring_size hr passX (pa_cN (pv 0) (pa_cN (pv 1) pa_nil))))
   (pss_cons (ps_if (pt_cmpR op_gt (pv 3) (pe_glob (by rfl) tt.g_MOST_OF_A_PIECE tt.r_MOST_OF_A_PIECE) (nomark _)) (pss_one (ps_raise (E:=fun cls H'=>E cls none H') tt.x_TooMany rfl (fun _ _ _ _ _ _ _ I hx q=>raiseX I hx q) (pa_cC pe_str pa_nil))) pss_nil)
   (pss_cons (ps_if (pt_cmpR op_lt (pv 3) pe_int (nomark _)) (pss_one (ps_raise (E:=fun cls H'=>E cls none H') tt.x_NoSuch rfl (fun _ _ _ _ _ _ _ I hx q=>raiseX I hx q) (pa_cC pe_str pa_nil))) pss_nil)
   (pss_cons (ps_set (i:=5) sc_piece_at.nd rfl (Or.inl rfl) (pe_op op_add (pe_cal C_count_below hr passX (pa_cN (pv 0) (pa_cN (pv 1) pa_nil))) (pe_op op_mod (pv 2) (pv 4))))
   (pss_cons (ps_set (i:=6) sc_piece_at.nd rfl (Or.inl rfl) (pe_cal C_first_word_above hr passX (pa_cK (pe_callB call_len_T (by rfl) tt.b_len PySem.boot_len (pa_cN (pv 0) pa_nil)) (pa_cN (pv 1) (pa_cN (pv 5) (pa_cN (pe_glob (v:=.ref fu) (by rfl) hmg rfl) pa_nil))))))
   (pss_cons (ps_set (i:=7) sc_piece_at.nd rfl (Or.inl rfl) (pe_op op_sub (pv 5) (pe_cal C_count_below hr passX (pa_cN (pv 6) (pa_cN (pv 1) pa_nil)))))
   (pss_one (ps_ret (pe_slice sl_T (pe_cal C_put_together hr pass1 (pa_cN (pv 0) (pa_cN (pv 1) (pa_cN (pv 6) (pa_cB (pe_op op_add (pv 7) (pv 3)) pa_nil))))) (po_some (pv 7)) (po_some (pe_op op_add (pv 7) (pv 3)))))))))))),?_⟩
  (try rw [cxK2]);(try rw [cxK1])
  refine ⟨_,rfl,_,rfl,w,k,rfl,hw,x1,fun kn ek hk=>?_⟩
  subst ek
  obtain ⟨q1,q2⟩:=q kn rfl hk
  refine ⟨fun hf H1 s1=>?_,q1⟩
  obtain ⟨q2,q3,q4⟩:=q2 hf
  have hwl:=hf.1.1
  have hk0:0<kn:=by omega
  have hn0:0<w.length:=by omega
  obtain ⟨hRl,hR0⟩:=Wd.ringF_len hk0 hn0 hf.lw
  refine ⟨_,rfl,_,_,rfl,rfl,_,rfl,?_⟩
  refine ite2 (fun h0=>⟨(by show 1<=sizeLine;omega),q2 (of_decide_eq_true h0) H1 s1⟩) (fun h0=>?_)
  have h0:¬ 200<mn:=fun z=>h0 (decide_eq_true z)
  refine ⟨_,rfl,_,_,rfl,rfl,_,rfl,?_⟩
  refine ite2 (fun h1=>⟨(by show 1<=sizeLine;omega),q3 (of_decide_eq_true h1) H1 s1⟩) (fun h1=>?_)
  have h1:¬ mn<0:=fun z=>h1 (decide_eq_true z)
  obtain ⟨many,rfl⟩:∃ many:Nat,mn=(many:Nat):=⟨mn.toNat,by omega⟩
  obtain ⟨i,hi,hil⟩:∃ i:Nat,pl % (((Wd.ringF kn w).length:Nat):Int)=(i:Int)∧i<(Wd.ringF kn w).length:=by
   have g0:=Int.emod_nonneg pl (show (((Wd.ringF kn w).length:Nat):Int)≠0 by omega)
   have g1:=Int.emod_lt_of_pos pl (show (0:Int)<(((Wd.ringF kn w).length:Nat):Int) by omega)
   exact ⟨(pl % (((Wd.ringF kn w).length:Nat):Int)).toNat,by omega,by omega⟩
  obtain ⟨l,hl,hge,hcl,hc1,hc2⟩:=Wd.ringF_at hk0 hn0 hf.lw hil
  refine ⟨_,rfl,_,rfl,w,kn,rfl,⟨hk,hf⟩,fun H2 s2=>?_⟩
  refine ⟨_,rfl,_,rfl,_,_,rfl,rfl,(by show (0:Int)<(((Wd.ringF kn w).length:Nat):Int);omega),_,_,rfl,rfl,?_⟩
  dsimp only
  rw [hi]
  refine ⟨_,rfl,_,rfl,(by omega),_,rfl,_,rfl,_,_,((Wd.cb kn w:Nat):Int)+(i:Int),fu,5,Wd.upN,rfl,hcf,by decide,fun z=>absurd (by omega) z,fun _ z=>absurd (by omega) z,fun kn' nn ek en hk' hn'=>?_⟩
  obtain rfl:kn=kn':=by omega
  obtain rfl:w.length=nn:=by omega
  have htop:=Wd.up_top (k:=kn) (n:=w.length) hk0 hn0
  rw [Wd.spell_top hk0,htop]
  refine ⟨fun z=>absurd ⟨by omega,by omega⟩ z,fun _ m H3 hm s3=>?_⟩
  obtain ⟨m1,m2,m3⟩:=hm
  have hsl:=Wd.first_up (N:=Wd.cb kn w+i) hk0 hl m1 (by omega) (m3.imp id fun z=>by omega) hc1 hc2
  rw [hsl]
  have hll:=hl.len
  have hfl:FirstOk l kn:=⟨⟨⟨by omega,by omega⟩,hl.ok⟩,hl.lst⟩
  refine ⟨_,rfl,_,rfl,_,rfl,l,kn,rfl,⟨hk,hfl⟩,fun H4 s4=>⟨_,_,rfl,rfl,?_⟩⟩
  obtain ⟨st,hst⟩:∃ st:Nat,((Wd.cb kn w:Nat):Int)+(i:Int)-((Wd.cb kn l:Nat):Int)=(st:Int):=⟨Wd.cb kn w+i-Wd.cb kn l,by omega⟩
  have hst24:st<=24:=by
   have:=Wd.up_cb (l:=l) hk0 (by omega) (by rw [hll];exact hl)
   have:=(Wd.rootL_is (w:=l) (by omega)).le
   omega
  dsimp only
  rw [hst]
  refine ⟨_,rfl,_,rfl,_,rfl,_,rfl,_,rfl,_,_,rfl,rfl,w,l,kn,st+many,rfl,⟨hk,hf,hl,hge,by omega⟩,fun t H5 ht1 ht2 ht3 _ _ s5=>?_⟩
  refine ⟨_,rfl,_,rfl,_,rfl,_,rfl,_,_,rfl,rfl,_,rfl,t,rfl,(by omega),?_⟩
  rw [show ((st:Nat):Int)+((many:Nat):Int)=((st+many:Nat):Int) by omega,cutL_mid ht1 (by omega),Nat.add_sub_cancel_left,Wd.ringAt_part hR0 ht3 ht1,show Wd.cb kn l-Wd.cb kn w+st=i by omega]
  exact q4 many i rfl (by omega) hi H5 (s1.trans (s2.trans (s3.trans (s4.trans s5))))
def spBP:Sp:=fun vs H Q _=>∃ (f l:List Nat) (kn:Nat),vs=[T f,.int (kn:Nat),T l]∧((1<=kn∧kn<=6)∧FirstOk f kn∧FirstOk l kn)∧∀ H',Same H H'->Q (.int (((Wd.cb kn l:Nat):Int)-((Wd.cb kn f:Nat):Int))) H'
theorem ok_begin_place {f:Addr}{fd:FuncData}(F:Fun K "begin_place" "begin_place" s_begin_place f fd)(tt:Txt K mg ad)(C_count_below:Cal P w K mg base (CX1 P w) "count_below" 6 ["least", "kinds"] spCB):FnOk P w K mg base (CX1 P w) 7 f fd ["first", "kinds", "least"] spBP:=by
 refine F.okX sc_begin_place (fun vs H Q E h=>?_) (fun cdv A outer s H vs Q E hr h=>?_)
 ·obtain ⟨f,l,kn,rfl,_⟩:=h
  rfl
 ·obtain ⟨f,l,kn,rfl,⟨hk,hf,hl⟩,q⟩:=h
  refine ⟨_,(pss_one (ps_ret (pe_op op_sub (pe_cal C_count_below hr passX (pa_cN (pv 2) (pa_cN (pv 1) pa_nil))) (pe_cal C_count_below hr passX (pa_cN (pv 0) (pa_cN (pv 1) pa_nil)))))),?_⟩
  (try rw [cxK2]);(try rw [cxK1])
  exact ⟨_,rfl,_,rfl,l,kn,rfl,⟨hk,hl⟩,fun H1 s1=>⟨_,rfl,_,rfl,f,kn,rfl,⟨hk,hf⟩,fun H2 s2=>⟨_,_,rfl,rfl,q H2 (s1.trans s2)⟩⟩⟩
def spLFor (ad:Adr):Sp:=fun vs H Q E=>∃ (f w:List Nat) (k:Int),vs=[T f,.int k,T w]∧f.length<=10000∧w.length<=10000∧(¬ (1<=k∧k<=6)->E (.ref ad.BadKinds) none H) ∧
 ∀ kn:Nat,k=(kn:Nat)->(1<=kn∧kn<=6)->(¬ FirstOk f kn->E (.ref ad.BadWord) none H)∧(FirstOk f kn->(¬ (Good w kn∧w.length=f.length)->E (.ref ad.BadWord) none H)∧((Good w kn∧w.length=f.length)->(Wd.least w<f->E (.ref ad.NoSuch) none H)∧(¬ Wd.least w<f->Q .non H)))
theorem ok_looked_for {f:Addr}{fd:FuncData}(F:Fun K "looked_for" "looked_for" s_looked_for f fd)(tt:Txt K mg ad)(C_looked_first:Cal P w K mg base (CX1 P w) "looked_first" 4 ["first", "kinds"] (spLFirst ad))(C_looked:Cal P w K mg base (CX1 P w) "looked" 3 ["word", "kinds"] (spLookedX ad))(C_least_turn:Cal P w K mg base (CX1 P w) "least_turn" 3 ["word"] spLeastTurn):FnOk P w K mg base (CX1 P w) 5 f fd ["first", "kinds", "word"] (spLFor ad):=by
 refine F.okX sc_looked_for (fun vs H Q E h=>?_) (fun cdv A outer s H vs Q E hr h=>?_)
 ·obtain ⟨f,w,k,rfl,_⟩:=h
  rfl
 ·obtain ⟨f,w,k,rfl,hfl,hwl,x1,q⟩:=h
  have hs:sizeLine=16777216:=sizeLine_eq
  refine ⟨_,(pss_cons (ps_expr (pe_cal C_looked_first hr passX (pa_cN (pv 0) (pa_cN (pv 1) pa_nil))))
   (pss_cons (ps_expr (pe_cal C_looked hr passX (pa_cN (pv 2) (pa_cN (pv 1) pa_nil))))
   (pss_cons (ps_if (pt_cmpR op_ne_I (pe_callB call_len_T (by rfl) tt.b_len PySem.boot_len (pa_cN (pv 2) pa_nil)) (pe_callB call_len_T (by rfl) tt.b_len PySem.boot_len (pa_cN (pv 0) pa_nil)) (nomark _)) (pss_one (ps_raise (E:=fun cls H'=>E cls none H') tt.x_BadWord rfl (fun _ _ _ _ _ _ _ I hx q=>raiseX I hx q) (pa_cC pe_str pa_nil))) pss_nil)
   (pss_one (ps_if (pt_cmpR op_lt_T (pe_cal C_least_turn hr pass1 (pa_cN (pv 2) pa_nil)) (pv 0) (nomark _)) (pss_one (ps_raise (E:=fun cls H'=>E cls none H') tt.x_NoSuch rfl (fun _ _ _ _ _ _ _ I hx q=>raiseX I hx q) (pa_cC pe_str pa_nil))) pss_nil))))),?_⟩
  (try rw [cxK2]);(try rw [cxK1])
  refine ⟨_,rfl,_,rfl,f,k,rfl,hfl,x1,fun kn ek hk=>?_⟩
  obtain ⟨q1,q2⟩:=q kn ek hk
  refine ⟨fun hf=>?_,q1⟩
  obtain ⟨q3,q4⟩:=q2 hf
  refine ⟨_,rfl,_,rfl,w,k,rfl,(by omega),fun z=>absurd (by omega) z,fun kn' ek' hk'=>?_⟩
  obtain rfl:kn=kn':=by omega
  refine ⟨fun hg=>?_,fun hg=>q3 fun z=>hg z.1⟩
  have hgl:=hg.1
  refine ⟨_,rfl,_,rfl,(by omega),_,rfl,_,rfl,(by omega),_,rfl,_,rfl,_,rfl,?_⟩
  by_cases hl:w.length=f.length
  case neg =>
   refine itP (by rw [decide_eq_false (fun z=>hl (by omega))];rfl) ?_
   exact ⟨(by show 1<=sizeLine;omega),q3 fun z=>hl z.2⟩
  refine itN (by rw [decide_eq_true (by omega)];exact Bool.false_ne_true) ?_
  obtain ⟨q5,q6⟩:=q4 ⟨hg,hl⟩
  refine ⟨_,rfl,w,rfl,⟨by omega,by omega⟩,_,rfl,_,rfl,_,rfl,_,rfl,?_⟩
  refine ite2 (fun h=>⟨(by show 1<=sizeLine;omega),q5 (of_decide_eq_true h)⟩) (fun h=>q6 fun z=>h (decide_eq_true z))
def spPlace (ad:Adr):Sp:=fun vs H Q E=>∃ (f w:List Nat) (k:Int),vs=[T f,.int k,T w]∧f.length<=10000∧w.length<=10000∧(¬ (1<=k∧k<=6)->E (.ref ad.BadKinds) none H) ∧
 ∀ kn:Nat,k=(kn:Nat)->(1<=kn∧kn<=6)->(¬ FirstOk f kn->E (.ref ad.BadWord) none H)∧(FirstOk f kn->(¬ (Good w kn∧w.length=f.length)->E (.ref ad.BadWord) none H)∧((Good w kn∧w.length=f.length)->(Wd.least w<f->E (.ref ad.NoSuch) none H)∧(¬ Wd.least w<f->∀ (i:Nat) H',Wd.At (Wd.ringF kn f) f.length w i->Same H H'->Q (.int (i:Nat)) H')))
theorem ok_place_of {f:Addr}{fd:FuncData}(F:Fun K "place_of" "place_of" s_place_of f fd)(tt:Txt K mg ad)(C_looked_for:Cal P w K mg base (CX1 P w) "looked_for" 5 ["first", "kinds", "word"] (spLFor ad))(C_ring_size:Cal P w K mg base (CX1 P w) "ring_size" 7 ["first", "kinds"] (spRSize ad))(C_letters:Cal P w K mg base (CX1 P w) "letters" 2 ["kinds"] (spLettersX ad))(C_turn_by:Cal P w K mg base (CX1 P w) "turn_by" 2 ["word"] spTurnBy)
  (C_least_turn:Cal P w K mg base (CX1 P w) "least_turn" 3 ["word"] spLeastTurn) (C_begin_place:Cal P w K mg base (CX1 P w) "begin_place" 7 ["first", "kinds", "least"] spBP) (C_root:Cal P w K mg base (CX1 P w) "root" 2 ["word"] spRoot) (C_least_beginning:Cal P w K mg base (CX1 P w) "least_beginning" 6 ["text", "length", "kinds"] (spLBX ad)):FnOk P w K mg base (CX1 P w) 8 f fd ["first", "kinds", "word"] (spPlace ad):=by
 refine F.okX sc_place_of (fun vs H Q E h=>?_) (fun cdv A outer s H vs Q E hr h=>?_)
 ·obtain ⟨f,w,k,rfl,_⟩:=h
  rfl
 ·obtain ⟨f,w,k,rfl,hfl,hwl,x1,q⟩:=h
  have hs:sizeLine=16777216:=sizeLine_eq
  refine ⟨_,(pss_cons (ps_expr (pe_cal C_looked_for hr passX (pa_cN (pv 0) (pa_cN (pv 1) (pa_cN (pv 2) pa_nil)))))
   (pss_cons (ps_set (i:=3) sc_place_of.nd rfl (Or.inl rfl) (pe_cal C_ring_size hr passX (pa_cN (pv 0) (pa_cN (pv 1) pa_nil))))
   (pss_cons (ps_set (i:=4) sc_place_of.nd rfl (Or.inl rfl) (pe_ix ix_T (pe_cal C_letters hr passX (pa_cN (pv 1) pa_nil)) (pe_un un_neg pe_int) (fun _ _=>rfl)))
   (pss_cons (ps_if (pt_cmpR op_eq_T (pv 2) (pe_op op_mul_T (pv 4) (pe_callB call_len_T (by rfl) tt.b_len PySem.boot_len (pa_cN (pv 2) pa_nil))) (nomark _)) (pss_one (ps_ret (pe_op op_mod (pe_op op_sub (pv 3) (pe_callB call_len_T (by rfl) tt.b_len PySem.boot_len (pa_cN (pv 2) pa_nil))) (pv 3)))) pss_nil)
   (pss_cons (ps_set (i:=5) sc_place_of.nd rfl (Or.inl rfl) (pe_cal C_turn_by hr pass1 (pa_cN (pv 2) pa_nil)))
   (pss_cons (ps_if (pt_cmpR op_ne_T (pe_slice sl_T (pv 2) po_none (po_some (pv 5))) (pe_op op_mul_T (pv 4) (pv 5)) (nomark _)) (pss_cons (ps_set (i:=6) sc_place_of.nd rfl (Or.inl rfl) (pe_cal C_least_turn hr pass1 (pa_cN (pv 2) pa_nil)))
   (pss_one (ps_ret (pe_op op_sub (pe_op op_add (pe_cal C_begin_place hr passX (pa_cN (pv 0) (pa_cN (pv 1) (pa_cN (pv 6) pa_nil)))) (pe_callB call_len_T (by rfl) tt.b_len PySem.boot_len (pa_cK (pe_cal C_root hr pass1 (pa_cN (pv 6) pa_nil)) pa_nil))) (pv 5))))) pss_nil)
   (pss_cons (ps_set (i:=7) sc_place_of.nd rfl (Or.inl rfl) (pe_callB (call_max2T rfl) (by rfl) tt.b_max PyProof.Rows.boot_max (pa_cN (pv 0) (pa_cK (pe_cal C_least_beginning hr passX (pa_cS (pe_slice sl_T (pv 2) (po_some (pv 5)) po_none) (pa_cK (pe_callB call_len_T (by rfl) tt.b_len PySem.boot_len (pa_cN (pv 2) pa_nil)) (pa_cN (pv 1) pa_nil)))) pa_nil))))
   (pss_one (ps_ret (pe_op op_mod (pe_op op_sub (pe_cal C_begin_place hr passX (pa_cN (pv 0) (pa_cN (pv 1) (pa_cN (pv 7) pa_nil)))) (pv 5)) (pv 3))))))))))),?_⟩
  (try rw [cxK2]);(try rw [cxK1])
  refine ⟨_,rfl,_,rfl,_,rfl,f,w,k,rfl,hfl,hwl,x1,fun kn ek hk=>?_⟩
  subst ek
  obtain ⟨q1,q2⟩:=q kn rfl hk
  refine ⟨q1,fun hf=>?_⟩
  obtain ⟨q3,q4⟩:=q2 hf
  refine ⟨q3,fun hg=>?_⟩
  obtain ⟨q5,q6⟩:=q4 hg
  refine ⟨q5,fun hge=>?_⟩
  have q7:=q6 hge
  have hfl2:=hf.1.1
  have hgl:=hg.2
  have hk0:0<kn:=by omega
  have hn0:0<f.length:=by omega
  have hwo:w.length=f.length∧Wd.Okk kn w:=⟨hgl,hg.1.2⟩
  obtain ⟨pre,ls,he,hR⟩:=Wd.ringF_is hk0 hf.lw
  obtain ⟨_,hR0⟩:=Wd.ringF_len hk0 hn0 hf.lw
  have hby:=Wd.turnBy_lt (w:=w) (by omega)
  refine ⟨_,rfl,_,rfl,f,_,rfl,hfl,fun z=>absurd (by omega) z,fun kn' ek' hk'=>?_⟩
  obtain rfl:kn=kn':=by omega
  refine ⟨fun _ H1 s1=>?_,fun z=>absurd hf z⟩
  refine ⟨_,rfl,_,rfl,fun kn' ek' hk''=>?_,fun z=>absurd (by omega) z⟩
  obtain rfl:kn=kn':=by omega
  refine ⟨_,rfl,_,rfl,_,rfl,(by rw [List.length_take];omega),96+kn,abc_top hk.1 hk.2,?_⟩
  refine ⟨_,rfl,_,rfl,_,rfl,_,rfl,(by omega),_,rfl,w.length,rfl,⟨by omega,(by show w.length*1<=sizeLine;omega)⟩,_,rfl,_,rfl,_,rfl,?_⟩
  rw [Wd.rep_letter]
  by_cases htop:w=Wd.topW kn w.length
  ·refine itP (decide_eq_true htop) ?_
   obtain ⟨i,hi,hat⟩:=Wd.at_top hk0 hn0 he
   rw [<- hR] at hi hat
   refine ⟨_,rfl,_,rfl,_,rfl,(by omega),_,_,rfl,rfl,_,rfl,_,_,rfl,rfl,(by show (0:Int)<(((Wd.ringF kn f).length:Nat):Int);omega),?_⟩
   dsimp only
   rw [hgl,hi]
   exact q7 i H1 (by rw [htop,hgl];exact hat) s1
  refine itN (by rw [decide_eq_false (show ¬ w=List.replicate w.length (96+kn) from htop)];exact Bool.false_ne_true) ?_
  refine ⟨_,rfl,w,rfl,(by omega),?_⟩
  refine ⟨_,rfl,_,rfl,_,rfl,_,rfl,(by omega),_,rfl,_,rfl,_,rfl,Wd.turnBy w,rfl,⟨by omega,(by show Wd.turnBy w*1<=sizeLine;omega)⟩,_,rfl,_,rfl,_,rfl,?_⟩
  rw [cutL_take,Wd.rep_letter]
  have hlw:Wd.LW kn f.length (Wd.least w):=by rw [<- hgl];exact Wd.lw_least (by omega) hwo.2
  have hlwl:=hlw.len
  by_cases hx:w.take (Wd.turnBy w)=Wd.topW kn (Wd.turnBy w)
  case neg =>
   refine itP (by rw [decide_eq_false (show ¬ w.take (Wd.turnBy w)=List.replicate (Wd.turnBy w) (96+kn) from hx)];rfl) ?_
   obtain ⟨c1,c2,hat⟩:=Wd.at_in hk0 hn0 he hwo hge hx
   rw [<- hR] at hat
   refine ⟨_,rfl,w,rfl,⟨by omega,by omega⟩,?_⟩
   refine ⟨_,rfl,_,rfl,_,rfl,f,Wd.least w,kn,rfl,⟨hk,hf,⟨⟨⟨by omega,by omega⟩,hlw.ok⟩,hlw.lst⟩⟩,fun H2 s2=>?_⟩
   refine ⟨_,rfl,Wd.least w,rfl,⟨by omega,by omega⟩,fun p hp=>?_⟩
   have hpl:=hp.le
   have htl:((Wd.least w).take p).length=p:=by rw [List.length_take];omega
   have hpe:=Wd.rootL_eq hp
   refine ⟨_,rfl,(by omega),_,_,rfl,rfl,_,rfl,_,_,rfl,rfl,?_⟩
   have g:=q7 _ H2 hat (s1.trans s2)
   rw [show ((Wd.cb kn (Wd.least w)-Wd.cb kn f+Wd.rootL (Wd.least w)-Wd.turnBy w:Nat):Int)=((Wd.cb kn (Wd.least w):Nat):Int)-((Wd.cb kn f:Nat):Int)+((((Wd.least w).take p).length:Nat):Int)-((Wd.turnBy w:Nat):Int) by rw [htl];omega] at g
   exact g
  refine itN (by rw [decide_eq_true (show w.take (Wd.turnBy w)=List.replicate (Wd.turnBy w) (96+kn) from hx)];exact Bool.false_ne_true) ?_
  have htop2:w≠Wd.topW kn f.length:=fun z=>htop (by rw [hgl];exact z)
  have hdl:(w.drop (Wd.turnBy w)).length=f.length-Wd.turnBy w:=by rw [List.length_drop,hgl]
  have hgd:Good (w.drop (Wd.turnBy w)) kn:=⟨⟨by omega,by omega⟩,Wd.okk_drop hwo.2⟩
  refine ⟨_,rfl,_,rfl,_,rfl,_,rfl,_,rfl,(by omega),_,rfl,_,rfl,(by omega),_,rfl,?_⟩
  rw [cutL_from (by omega)]
  refine ⟨w.drop (Wd.turnBy w),_,_,rfl,(by omega),fun z=>absurd (by omega) z,fun _ z=>absurd (by omega) z,fun kn' nn ek' en _ _=>?_⟩
  obtain rfl:kn=kn':=by omega
  obtain rfl:f.length=nn:=by omega
  refine ⟨fun _ x H2 hx2 s2=>?_,fun _ z=>absurd hgd z⟩
  obtain ⟨bb,hbb⟩:=Wd.lb_ex (n:=f.length) (y:=w.drop (Wd.turnBy w)) (x:=w.take (Wd.turnBy w)) hk0 (by rw [<- (Wd.rot_parts w).2];exact hlw)
  rcases hx2 with ⟨rfl,hno⟩ | ⟨r,rfl,hr⟩
  ·obtain ⟨s0,e0⟩:=hbb.pre
   exact absurd (hbb.lw.isB hk0 e0) hno
  obtain rfl:bb=r:=hbb.uniq hr
  refine ⟨f,bb,rfl,?_⟩
  obtain ⟨i,hi,hat⟩:=Wd.at_begin hk0 hn0 he hwo hge hx htop2 hbb
  rw [<- hR] at hi hat
  have hbbl:=hbb.lw.len
  have hlat:FirstOk (if f<bb then bb else f) kn:=by
   by_cases c:f<bb
   ·rw [if_pos c];exact ⟨⟨⟨by omega,by omega⟩,hbb.lw.ok⟩,hbb.lw.lst⟩
   ·rw [if_neg c];exact hf
  refine ⟨_,rfl,_,rfl,_,rfl,f,_,kn,rfl,⟨hk,hf,hlat⟩,fun H3 s3=>?_⟩
  refine ⟨_,rfl,_,_,rfl,rfl,_,rfl,_,_,rfl,rfl,(by show (0:Int)<(((Wd.ringF kn f).length:Nat):Int);omega),?_⟩
  dsimp only
  rw [hi]
  exact q7 i H3 hat (s1.trans (s2.trans s3))
theorem cutV_from {ls:List (List Nat)}{k:Nat}(h:k<=ls.length):cutV (ls.map T) (some (k:Int)) none=(ls.drop k).map T:=by
 unfold cutV
 rw [HT.sIx_nat,HT.sIx_none,List.length_map,Nat.min_eq_left h,<- List.map_drop,<- List.map_take,List.take_of_length_le (by rw [List.length_drop];omega)]
theorem tAnd_is {t u:TT}{σ:St}{H:Hp}{Q:Bool->Hp->Prop}(a b:Bool)(hA:∀ N:Bool->Hp->Prop,N a H->t σ H N)(hB:a=true->∀ N:Bool->Hp->Prop,N b H->u σ H N)(h:Q (a&&b) H):tAnd t u σ H Q:=by
 refine hA _ ?_
 cases a with
 | true=>rw [if_pos rfl];exact hB rfl _ h
 | false=>rw [if_neg Bool.false_ne_true];exact h
theorem flat1 {ls:List (List Nat)}(f:List Nat->List Nat)(h:∀ x,(f x).length=1):((ls.map f).flatten).length=ls.length:=by
 induction ls with
 | nil=>rfl
 | cons a ls ih=>rw [List.map_cons,List.flatten_cons,List.length_append,h,ih,List.length_cons,Nat.add_comm]
theorem flat_T (ls:List (List Nat)):(ls.map T).all flatV=true:=List.all_eq_true.mpr fun x hx=>by
 obtain ⟨y,_,rfl⟩:=List.mem_map.mp hx
 rfl
theorem flat_le {ls:List (List Nat)}{n:Nat}(h:∀ x∈ls,x.length<=n):ls.flatten.length<=ls.length*n:=by
 induction ls with
 | nil=>exact Nat.zero_le _
 | cons a ls ih =>
  rw [List.flatten_cons,List.length_append,List.length_cons,Nat.succ_mul]
  have:=h a (List.mem_cons_self ..)
  have:=ih fun x hx=>h x (List.mem_cons_of_mem _ hx)
  omega
theorem mod_nat (z q:Int)(hq:0<q):∃ j:Nat,z % q=(j:Nat)∧(j:Int)<q:=⟨(z % q).toNat,(Int.toNat_of_nonneg (Int.emod_nonneg z (by omega))).symm,by rw [Int.toNat_of_nonneg (Int.emod_nonneg z (by omega))];exact Int.emod_lt_of_pos z hq⟩
theorem form_len (w:List Nat):(formOf w).length=1:=by
 unfold formOf
 split
 ·rfl
 ·split <;> rfl
def spMade:Sp:=fun vs H Q _=>∃ (w s:List Nat) (m:Nat),vs=[T w,T s,.int m]∧w.length<=100000∧∀ H',Same H H'->Q (.bl (madeOf s m w)) H'
theorem ok_is_made_of {f:Addr}{fd:FuncData}(F:Fun K "is_made_of" "is_made_of" s_is_made_of f fd)(tt:Txt K mg ad):FnOk P w K mg base (CX1 P w) 1 f fd ["word", "signs", "most"] spMade:=by
 refine F.okN sc_is_made_of (fun vs H Q E h=>?_) (fun cdv A outer s H vs Q E hr h=>?_)
 ·obtain ⟨w,s,m,rfl,_⟩:=h
  rfl
 ·obtain ⟨w,s',m,rfl,hw,q⟩:=h
  have hs:sizeLine=16777216:=sizeLine_eq
  refine ⟨_,(pss_one (ps_ret (pe_and (pe_cmpR op_gt (pe_callB call_len_T (by rfl) tt.b_len PySem.boot_len (pa_cons (pv 0) pa_nil)) pe_int (nomark _)) (pe_and (pe_cmpR op_le (pe_callB call_len_T (by rfl) tt.b_len PySem.boot_len (pa_cons (pv 0) pa_nil)) (pv 2) (nomark _)) (pe_one (pe_callB (call_allB rfl) (by rfl) tt.b_all PyProof.Rows.boot_all (pa_cons (pe_comp cs_is_made_of_0 rfl (pi_str (pv 0)) (fun cl C s' H' fp=>(pe_cmpR op_in_sT (pv 0) (pv 2) (by with_unfolding_all rfl)))) pa_nil))))))),?_⟩
  (try rw [cxK2]);(try rw [cxK1])
  have key:∀ H',Same H H'->Q (.bl (decide (0<w.length)&&(decide (w.length<=m)&&w.all fun c=>decide (c∈s')))) H':=q
  refine ⟨_,rfl,w,rfl,(by omega),_,_,rfl,rfl,_,rfl,?_⟩
  by_cases h0:0<w.length
  ·rw [if_pos (decide_eq_true (show (0:Int)<(w.length:Nat) by omega))]
   rw [decide_eq_true h0] at key
   refine ⟨_,rfl,w,rfl,(by omega),_,rfl,_,_,rfl,rfl,_,rfl,?_⟩
   by_cases h1:w.length<=m
   ·rw [if_pos (decide_eq_true (show ((w.length:Nat):Int)<=(m:Nat) by omega))]
    rw [decide_eq_true h1] at key
    refine ⟨_,rfl,w,rfl,?_⟩
    refine compG (fun v=>.bl (decide ((unT v).headD 0∈s'))) (reads_text (l:=w)) (by rw [List.length_map,List.length_map];omega) (fun v H1 hv s1 N hN=>?_) fun D H1 hD s1 hd=>?_
    ·rw [List.map_map] at hv
     obtain ⟨c,hc,rfl⟩:=List.mem_map.mp hv
     exact ⟨_,rfl,_,rfl,c,rfl,s',rfl,hN H1 (Same.refl _)⟩
    ·refine ⟨D,w.map fun c=>decide (c∈s'),rfl,SqL.of ?_,?_⟩
     ·rw [hd,List.map_map,List.map_map,List.map_map]
      rfl
     ·rw [List.all_map]
      exact key H1 s1
   ·rw [if_neg fun z=>h1 (by have:=of_decide_eq_true z;omega)]
    rw [decide_eq_false h1] at key
    exact key H (Same.refl _)
  ·rw [if_neg fun z=>h0 (by have:=of_decide_eq_true z;omega)]
   rw [decide_eq_false h0] at key
   exact key H (Same.refl _)
def spIsNum:Sp:=fun vs H Q _=>∃ w:List Nat,vs=[T w]∧w.length<=100000∧∀ H',Same H H'->Q (.bl (isNum w)) H'
theorem ok_is_number {f:Addr}{fd:FuncData}(F:Fun K "is_number" "is_number" s_is_number f fd)(tt:Txt K mg ad)(C_is_made_of:Cal P w K mg base (CX1 P w) "is_made_of" 1 ["word", "signs", "most"] spMade):FnOk P w K mg base (CX1 P w) 2 f fd ["word"] spIsNum:=by
 refine F.okX sc_is_number (fun vs H Q E h=>?_) (fun cdv A outer s H vs Q E hr h=>?_)
 ·obtain ⟨w,rfl,_⟩:=h
  rfl
 ·obtain ⟨w,rfl,hw,q⟩:=h
  have hs:sizeLine=16777216:=sizeLine_eq
  refine ⟨_,(pss_one (ps_ret (pe_and (pe_cal C_is_made_of hr pass1 (pa_cons (pv 0) (pa_cons (pe_glob (by rfl) tt.g_FIGURES tt.r_FIGURES) (pa_cons (pe_glob (by rfl) tt.g_MOST_FIGURES tt.r_MOST_FIGURES) pa_nil)))) (pe_one (pe_or (pe_cmpR op_eq_T (pv 0) (pe_strT [48] (by decide +kernel)) (nomark _)) (pe_one (pe_cmpR op_ne_T (pe_ix ix_T (pv 0) pe_int (fun _ _=>rfl)) (pe_strT [48] (by decide +kernel)) (nomark _)))))))),?_⟩
  (try rw [cxK2]);(try rw [cxK1])
  refine ⟨_,rfl,w,figs,60,rfl,hw,fun H1 s1=>⟨_,rfl,?_⟩⟩
  have key:=q H1 s1
  unfold isNum at key
  by_cases h0:madeOf figs 60 w=true
  ·rw [if_pos h0]
   rw [h0] at key
   refine ⟨_,rfl,w,rfl,_,rfl,_,rfl,?_⟩
   by_cases h1:w=[48]
   ·rw [if_pos (decide_eq_true h1)]
    rw [decide_eq_true h1] at key
    exact key
   ·rw [if_neg fun z=>h1 (of_decide_eq_true z)]
    rw [decide_eq_false h1] at key
    cases w with
    | nil=>cases h0
    | cons c w =>
     refine ⟨_,rfl,c::w,rfl,0,rfl,(by omega),c,atI_nat (j:=0) rfl,[c],rfl,[48],rfl,?_⟩
     rw [<- decide_not]
     exact key
  ·rw [if_neg h0]
   rw [Bool.eq_false_iff.mpr h0] at key
   exact key
def spIsTxt:Sp:=fun vs H Q _=>∃ w:List Nat,vs=[T w]∧w.length<=100000∧∀ H',Same H H'->Q (.bl (isTxt w)) H'
theorem ok_is_text {f:Addr}{fd:FuncData}(F:Fun K "is_text" "is_text" s_is_text f fd)(tt:Txt K mg ad)(C_is_made_of:Cal P w K mg base (CX1 P w) "is_made_of" 1 ["word", "signs", "most"] spMade):FnOk P w K mg base (CX1 P w) 2 f fd ["word"] spIsTxt:=by
 refine F.okX sc_is_text (fun vs H Q E h=>?_) (fun cdv A outer s H vs Q E hr h=>?_)
 ·obtain ⟨w,rfl,_⟩:=h
  rfl
 ·obtain ⟨w,rfl,hw,q⟩:=h
  refine ⟨_,(pss_one (ps_ret (pe_cal C_is_made_of hr pass1 (pa_cons (pv 0) (pa_cons (pe_glob (by rfl) tt.g_LETTERS tt.r_LETTERS) (pa_cons (pe_glob (by rfl) tt.g_MOST_LETTERS tt.r_MOST_LETTERS) pa_nil)))))),?_⟩
  (try rw [cxK2]);(try rw [cxK1])
  exact ⟨_,rfl,w,lets,200,rfl,hw,q⟩
def spForm:Sp:=fun vs H Q _=>∃ w:List Nat,vs=[T w]∧w.length<=100000∧∀ H',Same H H'->Q (T (formOf w)) H'
theorem ok_form_of {f:Addr}{fd:FuncData}(F:Fun K "form_of" "form_of" s_form_of f fd)(tt:Txt K mg ad)(C_is_number:Cal P w K mg base (CX1 P w) "is_number" 2 ["word"] spIsNum)(C_is_text:Cal P w K mg base (CX1 P w) "is_text" 2 ["word"] spIsTxt):FnOk P w K mg base (CX1 P w) 3 f fd ["word"] spForm:=by
 refine F.okX sc_form_of (fun vs H Q E h=>?_) (fun cdv A outer s H vs Q E hr h=>?_)
 ·obtain ⟨w,rfl,_⟩:=h
  rfl
 ·obtain ⟨w,rfl,hw,q⟩:=h
  refine ⟨_,(pss_cons (ps_if (pt_val (pe_cal C_is_number hr pass1 (pa_cons (pv 0) pa_nil))) (pss_one (ps_ret (pe_strT [110] (by decide +kernel)))) pss_nil)
   (pss_one (ps_ret (pe_ifExp (pt_val (pe_cal C_is_text hr pass1 (pa_cons (pv 0) pa_nil))) (pe_strT [116] (by decide +kernel)) (pe_strT [45] (by decide +kernel)))))),?_⟩
  (try rw [cxK2]);(try rw [cxK1])
  refine ⟨_,rfl,w,rfl,hw,fun H1 s1=>⟨_,rfl,?_⟩⟩
  have q':=q H1 s1
  unfold formOf at q'
  refine ite2 (fun h0=>?_) (fun h0=>?_)
  ·rw [if_pos h0] at q'
   exact q'
  ·rw [if_neg h0] at q'
   refine ⟨_,rfl,w,rfl,hw,fun H2 s2=>⟨_,rfl,?_⟩⟩
   have q2:=q H2 (s1.trans s2)
   unfold formOf at q2
   rw [if_neg h0] at q2
   refine ite2 (fun h1=>?_) (fun h1=>?_)
   ·rw [if_pos h1] at q2
    exact q2
   ·rw [if_neg h1] at q2
    exact q2
def spKind (K:PySem.W.Frag):Sp:=fun vs H Q _=>∃ (p:Addr) (r:List (List Nat)),vs=[.ref p]∧SqL K H p (r.map T)∧r≠[]∧r.length<=100000∧(∀ x∈r,x.length<=100000)∧∀ H',Same H H'->Q (match kindOf r with | some k=>T k | none=>.non) H'
theorem ok_kind_of {f:Addr}{fd:FuncData}(F:Fun K "kind_of" "kind_of" s_kind_of f fd)(tt:Txt K mg ad)(C_form_of:Cal P w K mg base (CX1 P w) "form_of" 3 ["word"] spForm):FnOk P w K mg base (CX1 P w) 4 f fd ["row"] (spKind K):=by
 refine F.okX sc_kind_of (fun vs H Q E h=>?_) (fun cdv A outer s H vs Q E hr h=>?_)
 ·obtain ⟨p,r,rfl,_⟩:=h
  rfl
 ·obtain ⟨p,r,rfl,hS,hne,hrl,hx,q⟩:=h
  have hs:sizeLine=16777216:=sizeLine_eq
  obtain ⟨h,rt,rfl⟩:∃ h rt,r=h::rt:=by cases r with | nil=>exact absurd rfl hne | cons a b=>exact ⟨a,b,rfl⟩
  refine ⟨_,(pss_cons (ps_set (i:=1) sc_kind_of.nd rfl (Or.inl rfl) (pe_bm PySem.F.plainAttrs_str PySem.F.slot_str_join PySem.F.type_str_join mt_join (pe_strT [] (by decide +kernel)) (pa_cons (pe_comp cs_kind_of_0 rfl (pi_list (pe_slice sl_list (pv 0) (po_some pe_int) po_none)) (fun cl C s' H' fp=>(pe_cal C_form_of hr pass1 (pa_cons (pv 0) pa_nil)))) pa_nil)))
   (pss_cons (ps_if (PW.pt (pw_and (pt_cmpR op_in_tab (pe_ix ix_list (pv 0) pe_int (fun _ _=>rfl)) (pe_glob (v:=.ref ad.ASKS) (by rfl) tt.m_ASKS rfl) (by with_unfolding_all rfl)) (pw_and1 (pt_cmpR op_in_seq (pv 1) (pe_ix ix_tab (pe_glob (v:=.ref ad.ASKS) (by rfl) tt.m_ASKS rfl) (pe_ix ix_list (pv 0) pe_int (fun _ _=>rfl)) (fun _ _=>rfl)) (by with_unfolding_all rfl))))) (pss_one (ps_ret (pe_strT [97,115,107] (by decide +kernel)))) pss_nil)
   (pss_cons (ps_if (PW.pt (pw_and (pt_cmpR op_eq_T (pe_ix ix_list (pv 0) pe_int (fun _ _=>rfl)) (pe_strT [97,108,108] (by decide +kernel)) (nomark _)) (pw_and1 (pt_cmpR op_eq_T (pv 1) (pe_strT [110,110] (by decide +kernel)) (nomark _))))) (pss_one (ps_ret (pe_strT [97,108,108] (by decide +kernel)))) pss_nil)
   (pss_cons (ps_if (PW.pt (pw_and (pt_cmpR op_eq_T (pe_ix ix_list (pv 0) pe_int (fun _ _=>rfl)) (pe_strT [98,97,114] (by decide +kernel)) (nomark _)) (pw_and1 (pt_cmpR op_eq_T (pv 1) (pe_strT [116] (by decide +kernel)) (nomark _))))) (pss_one (ps_ret (pe_strT [98,97,114] (by decide +kernel)))) pss_nil)
   (pss_cons (ps_if (PW.pt (pw_and (pt_cmpR op_eq_T (pe_ix ix_list (pv 0) pe_int (fun _ _=>rfl)) (pe_strT [119,111,114,100,115] (by decide +kernel)) (nomark _)) (pw_and (pt_cmpR op_ne_T (pv 1) (pe_strT [] (by decide +kernel)) (nomark _)) (pw_and1 (pt_cmpR op_eq_T (pv 1) (pe_op op_mul_T (pe_strT [116] (by decide +kernel)) (pe_callB call_len_T (by rfl) tt.b_len PySem.boot_len (pa_cons (pv 1) pa_nil))) (nomark _)))))) (pss_one (ps_ret (pe_strT [119,111,114,100,115] (by decide +kernel)))) pss_nil)
   (pss_one (ps_ret pe_non))))))),?_⟩
  (try rw [cxK2]);(try rw [cxK1])
  refine ⟨rfl,_,rfl,_,rfl,p,_,rfl,hS,fun c hc=>?_⟩
  rw [show cutV ((h::rt).map T) (some 1) none=rt.map T from cutV_from (ls:=h::rt) (k:=1) (by show 1<=rt.length+1;omega)]
  have s0:=same_upd (o:=.lst (rt.map T)) hc
  have hc':upd H c (.lst (rt.map T)) c=some (.lst (rt.map T)):=upd_same
  generalize upd H c (.lst (rt.map T))=G at s0 hc' ⊢
  have hrl':rt.length+1<=100000:=hrl
  refine ⟨c,rfl,⟨_,SqL.of hc'⟩,compG (fun v=>T (formOf (unT v))) (reads_list (SqL.of hc')) (by rw [List.length_map];omega) (fun v H1 hv s1 N hN=>?_) fun D H1 hD s1 hd=>?_⟩
  ·obtain ⟨x,hxm,rfl⟩:=List.mem_map.mp hv
   refine ⟨_,rfl,x,rfl,hx x (List.mem_cons_of_mem _ hxm),fun H2 s2=>?_⟩
   have:=hN H2 s2
   rwa [unT_T] at this
  rw [map_unT (f:=fun l=>T (formOf l)),show rt.map (fun l=>T (formOf l))=(rt.map formOf).map T by rw [List.map_map];rfl] at hd
  have hfl:=flat1 (ls:=rt) formOf form_len
  refine ⟨rfl,D,rt.map formOf,rfl,SqL.of hd,(by omega),?_⟩
  have e:(rt.map formOf).flatten=rowForm (h::rt):=rfl
  rw [e] at hfl ⊢
  have s2:=s0.trans s1
  have hS2:=s2.seq hS
  have q2:=q H1 s2
  have hat:atI ((h::rt).map T) 0=some (T h):=atI_nat (j:=0) rfl
  have hh:(h::rt).headD []=h:=rfl
  have ha:isAsk (h::rt)=((tabAt h asksD).isSome&&decide (rowForm (h::rt)∈(tabAt h asksD).getD [])):=by
   unfold isAsk
   rw [hh]
   cases tabAt h asksD <;> rfl
  unfold kindOf at q2
  rw [ha,hh] at q2
  generalize rowForm (h::rt)=fm at hfl q2 ⊢
  (try dsimp only [gName,tSeq,tIfS,tNext])
  refine tAnd_is (tabAt h asksD).isSome (decide (fm∈(tabAt h asksD).getD [])) (fun N hN=>⟨_,rfl,p,_,_,_,rfl,rfl,hS2,hat,h,ad.ASKS,asksD,rfl,rfl,tt.k_asks,_,rfl,hN⟩) (fun hb N hN=>?_) ?_
  ·obtain ⟨d,hd⟩:=Option.isSome_iff_exists.mp hb
   rw [hd] at hN
   refine ⟨_,rfl,_,rfl,p,_,_,_,rfl,rfl,hS2,hat,h,ad.ASKS,asksD,d,rfl,rfl,tt.k_asks,hd,fun b hb=>⟨b,_,rfl,.inr hb,rfl,flat_T d,_,rfl,?_⟩⟩
   show N (inV (T fm) (d.map T)) H1
   rw [inV_T]
   exact hN
  refine ite2 (fun h0=>?_) (fun h0=>?_)
  ·rw [if_pos h0] at q2
   exact q2
  rw [if_neg h0] at q2
  (try dsimp only [gName,tSeq,tIfS,tNext])
  refine tAnd_is (decide (h=[97,108,108])) (decide (fm=[110,110])) (fun N hN=>⟨_,rfl,p,_,_,_,rfl,rfl,hS2,hat,_,rfl,_,rfl,_,rfl,hN⟩) (fun _ N hN=>⟨_,rfl,_,rfl,_,rfl,_,rfl,hN⟩) ?_
  rw [<- Bool.decide_and]
  refine ite2 (fun h1=>?_) (fun h1=>?_)
  ·rw [if_pos (of_decide_eq_true h1)] at q2
   exact q2
  rw [if_neg fun z=>h1 (decide_eq_true z)] at q2
  (try dsimp only [gName,tSeq,tIfS,tNext])
  refine tAnd_is (decide (h=[98,97,114])) (decide (fm=[116])) (fun N hN=>⟨_,rfl,p,_,_,_,rfl,rfl,hS2,hat,_,rfl,_,rfl,_,rfl,hN⟩) (fun _ N hN=>⟨_,rfl,_,rfl,_,rfl,_,rfl,hN⟩) ?_
  rw [<- Bool.decide_and]
  refine ite2 (fun h2=>?_) (fun h2=>?_)
  ·rw [if_pos (of_decide_eq_true h2)] at q2
   exact q2
  rw [if_neg fun z=>h2 (decide_eq_true z)] at q2
  (try dsimp only [gName,tSeq,tIfS,tNext])
  refine tAnd_is (decide (h=[119,111,114,100,115])) (decide (fm≠[])&&decide (fm=Wd.rep fm.length [116])) (fun N hN=>⟨_,rfl,p,_,_,_,rfl,rfl,hS2,hat,_,rfl,_,rfl,_,rfl,hN⟩) (fun _ N hN=>?_) ?_
  ·refine tAnd_is (decide (fm≠[])) (decide (fm=Wd.rep fm.length [116])) (fun N hN=>⟨_,rfl,_,rfl,_,rfl,_,rfl,?_⟩) (fun _ N hN=>⟨_,rfl,_,rfl,fm,rfl,(by omega),_,rfl,fm.length,rfl,⟨by omega,by show fm.length*1<=sizeLine;omega⟩,_,rfl,_,rfl,_,rfl,hN⟩) hN
   rw [decide_not] at hN
   exact hN
  rw [<- Bool.decide_and,<- Bool.decide_and]
  refine ite2 (fun h3=>?_) (fun h3=>?_)
  ·rw [if_pos (of_decide_eq_true h3)] at q2
   exact q2
  rw [if_neg fun z=>h3 (decide_eq_true z)] at q2
  exact q2
def chain:List Nat->List (List (List Nat))->Bool
 | _,[]=>true
 | a,r::rs=>match kindOf r with
  | some k=>decide (a∈(tabAt k aheadD).getD [])&&chain k rs
  | none=>false
theorem chain_at:∀ {a:List Nat} {rs:List (List (List Nat))} {i:Nat} {r:List (List Nat)},chain a (rs.drop i)=true->rs[i]?=some r->∃ k d,kindOf r=some k∧tabAt k aheadD=some d∧a∈d∧chain k (rs.drop (i+1))=true:=by
 intro a rs i r h hr
 have hi:=(List.getElem?_eq_some_iff.mp hr).1
 rw [List.drop_eq_getElem_cons hi,(List.getElem?_eq_some_iff.mp hr).2] at h
 unfold chain at h
 split at h
 ·rename_i k hk
  rw [Bool.and_eq_true] at h
  have h1:=of_decide_eq_true h.1
  cases hd:tabAt k aheadD with
  | none=>rw [hd] at h1;cases h1
  | some d=>rw [hd] at h1;exact ⟨k,d,hk,hd,h1,h.2⟩
 ·cases h
def RowsOk (rs:List (List (List Nat))):Prop:=rs.length<=100000∧∀ r∈rs,r≠[]∧r.length<=100000∧∀ x∈r,x.length<=100000
theorem lls_at {K:PySem.W.Frag}{H:Hp}{us:List (List (List Nat))}{bs:List Addr}(h:LLs K H us bs):∀ {i:Nat} {x:V},(bs.map V.ref)[i]?=some x->∃ b u,x = .ref b∧us[i]?=some u∧SqL K H b (u.map T):=by
 unfold LLs at h
 induction h with
 | nil=>intro i x hx;cases hx
 | cons a _ ih =>
  intro i x hx
  cases i with
  | zero=>obtain rfl:=Option.some.inj hx;exact ⟨_,_,rfl,rfl,a⟩
  | succ i=>exact ih hx
theorem lls_len {K:PySem.W.Frag}{H:Hp}{us:List (List (List Nat))}{bs:List Addr}(h:LLs K H us bs):us.length=bs.length:=by
 unfold LLs at h
 induction h with
 | nil=>rfl
 | cons a _ ih=>rw [List.length_cons,List.length_cons,ih]
def spRows (K:PySem.W.Frag):Sp:=fun vs H Q _=>∃ (p:Addr) (bs:List Addr) (rs:List (List (List Nat))),vs=[.ref p]∧SqL K H p (bs.map V.ref)∧LLs K H rs bs∧RowsOk rs∧chain [116,111,112] rs=true∧∀ H',Same H H'->Q .non H'
theorem ok_looked_rows {f:Addr}{fd:FuncData}(F:Fun K "looked_rows" "looked_rows" s_looked_rows f fd)(tt:Txt K mg ad)(C_kind_of:Cal P w K mg base (CX1 P w) "kind_of" 4 ["row"] (spKind K)):FnOk P w K mg base (CX1 P w) 5 f fd ["rows"] (spRows K):=by
 refine F.okX sc_looked_rows (fun vs H Q E h=>?_) (fun cdv A outer s H vs Q E hr h=>?_)
 ·obtain ⟨p,bs,rs,rfl,_⟩:=h
  rfl
 ·obtain ⟨p,bs,rs,rfl,hS,hL,hok,hch,q⟩:=h
  have hs:sizeLine=16777216:=sizeLine_eq
  refine ⟨_,(pss_cons (ps_set (i:=1) sc_looked_rows.nd rfl (Or.inl rfl) (pe_strT [116,111,112] (by decide +kernel)))
   (pss_one (ps_for PassesOwn.leaving rfl (pi_enum1 (by rfl) tt.b_enumerate (pa_cons (pv 0) pa_nil)) (pg_tup rfl (pgs_cons (pg_name (i:=2) sc_looked_rows.nd rfl (Or.inl rfl)) (pgs_cons (pg_name (i:=3) sc_looked_rows.nd rfl (Or.inl rfl)) pgs_nil))) (pss_cons (ps_set (i:=4) sc_looked_rows.nd rfl (Or.inl rfl) (pe_cal C_kind_of hr pass1 (pa_cons (pv 3) pa_nil)))
   (pss_cons (ps_if (pt_cmpR op_notIn_seq (pv 1) (pe_tget2 (pe_glob (v:=.ref ad.AHEAD) (by rfl) tt.m_AHEAD rfl) (pv 4) (pe_tup pa_nil) ⟨rfl,rfl,rfl,rfl⟩) (by with_unfolding_all rfl)) (pss_one ps_false) pss_nil)
   (pss_one (ps_set (i:=1) sc_looked_rows.nd rfl (Or.inl rfl) (pv 4)))))))),?_⟩
  (try rw [cxK2]);(try rw [cxK1])
  refine ⟨_,rfl,p,rfl,⟨_,hS⟩,?_⟩
  refine for_enum1 (K:=K) (a:=p) (xs:=bs.map V.ref) (fun i σ H2=>Same H H2∧∃ (a:List Nat) (v1 v2 v3:Option V),chain a (rs.drop i)=true∧σ=[some (.ref p),some (T a),v1,v2,v3]) ⟨Same.refl _,_,none,none,none,hch,rfl⟩ (fun i σ H2 _ h=>h.1.seq hS) ?_ ?_
  ·rintro i x D σ H2 hx hD ⟨s2,a,v1,v2,v3,hc,rfl⟩
   obtain ⟨b,r,rfl,hr,hb⟩:=lls_at hL hx
   obtain ⟨k,d,hk,hd,had,hc2⟩:=chain_at hc hr
   obtain ⟨hne,hrl,hxl⟩:=hok.2 r (List.mem_of_getElem? hr)
   have t2:=same_upd (o:=.tup [.int ((i+1:Nat):Int),.ref b]) hD
   refine ⟨D,_,rfl,SqT.of upd_same,rfl,_,_,rfl,_,_,rfl,rfl,?_⟩
   refine ⟨_,rfl,b,r,rfl,(s2.trans t2).seq hb,hne,hrl,hxl,fun H3 s3=>?_⟩
   rw [hk]
   refine ⟨_,rfl,ad.AHEAD,aheadD,rfl,tt.k_ahead,_,rfl,(by show 0<=sizeLine;omega),fun e he=>⟨k,rfl,?_⟩⟩
   rw [hd]
   refine fun g hg=>⟨g,_,rfl,.inr hg,rfl,flat_T d,_,rfl,?_⟩
   refine itN (by show ¬ (!inV (T a) (d.map T))=true;rw [inV_T,decide_eq_true had];exact Bool.false_ne_true) ?_
   exact ⟨_,rfl,s2.trans (t2.trans (s3.trans (same_upd he))),k,_,_,_,hc2,rfl⟩
  ·rintro σ H2 ⟨s2,a,v1,v2,v3,hc,rfl⟩
   exact q H2 s2
def spAllX (ad:Adr):Sp:=fun vs H Q E=>∃ n k:Int,vs=[.int n,.int k]∧(¬ (1<=k∧k<=6)->E (.ref ad.BadKinds) none H)∧((1<=k∧k<=6)->¬ (1<=n∧n<=24)->E (.ref ad.BadWord) none H) ∧
 ∀ kn nn:Nat,k=(kn:Nat)->n=(nn:Nat)->(1<=kn∧kn<=6)->(1<=nn∧nn<=24)->(4096<kn ^ nn->E (.ref ad.TooMany) none H)∧(kn ^ nn<=4096->∀ D H',H D=none->Same H H'->H' D=some (.lst ((Wd.allW kn nn).map T))->Q (.ref D) H')
theorem ok_all_words {f:Addr}{fd:FuncData}(F:Fun K "all_words" "all_words" s_all_words f fd)(tt:Txt K mg ad)(C_looked_length:Cal P w K mg base (CX1 P w) "looked_length" 2 ["length", "kinds"] (spLenX ad))
  (C_word_total:Cal P w K mg base (CX1 P w) "word_total" 1 ["length", "kinds"] spTotal) (C_spelled:Cal P w K mg base (CX1 P w) "spelled" 1 ["number", "length", "kinds"] spSpell):FnOk P w K mg base (CX1 P w) 3 f fd ["length", "kinds"] (spAllX ad):=by
 refine F.okX sc_all_words (fun vs H Q E h=>?_) (fun cdv A outer s H vs Q E hr h=>?_)
 ·obtain ⟨n,k,rfl,_⟩:=h
  rfl
 ·obtain ⟨n,k,rfl,x1,x2,q⟩:=h
  have hs:sizeLine=16777216:=sizeLine_eq
  refine ⟨_,(pss_cons (ps_expr (pe_cal C_looked_length hr passX (pa_cons (pv 0) (pa_cons (pv 1) pa_nil))))
   (pss_cons (ps_set (i:=2) sc_all_words.nd rfl (Or.inl rfl) (pe_cal C_word_total hr pass1 (pa_cons (pv 0) (pa_cons (pv 1) pa_nil))))
   (pss_cons (ps_if (pt_cmpR op_gt (pv 2) (pe_glob (by rfl) tt.g_MOST_WORDS tt.r_MOST_WORDS) (nomark _)) (pss_one (ps_raise (E:=fun cls H'=>E cls none H') tt.x_TooMany rfl (fun _ _ _ _ _ _ _ I hx q=>raiseX I hx q) (pa_cons pe_str pa_nil))) pss_nil)
   (pss_one (ps_ret (pe_comp cs_all_words_0 rfl (pi_range1 (by rfl) tt.b_range (pa_cons (pv 2) pa_nil)) (fun cl C s' H' fp=>(pe_cal C_spelled hr pass1 (pa_cons (pv 0) (pa_cons (pv 1) (pa_cons (pv 2) pa_nil))))))))))),?_⟩
  (try rw [cxK2]);(try rw [cxK1])
  refine ⟨_,rfl,_,rfl,n,k,rfl,fun hk hn=>?_,x1,x2⟩
  obtain ⟨kn,rfl⟩:∃ kn:Nat,k=(kn:Nat):=⟨k.toNat,by omega⟩
  obtain ⟨nn,rfl⟩:∃ nn:Nat,n=(nn:Nat):=⟨n.toNat,by omega⟩
  obtain ⟨q1,q2⟩:=q kn nn rfl rfl ⟨by omega,by omega⟩ ⟨by omega,by omega⟩
  refine ⟨_,rfl,_,rfl,nn,kn,rfl,⟨by omega,by omega⟩,?_⟩
  refine ⟨_,rfl,_,_,rfl,rfl,_,rfl,?_⟩
  refine ite2 (fun h0=>?_) (fun h0=>?_)
  ·have h1:(4096:Int)<((kn ^ nn:Nat):Int):=of_decide_eq_true h0
   exact ⟨(by show 1<=sizeLine;omega),q1 (by omega)⟩
  ·have h1:¬ (4096:Int)<((kn ^ nn:Nat):Int):=fun z=>h0 (decide_eq_true z)
   refine ⟨_,rfl,_,rfl,by omega,by omega,?_⟩
   rw [Int.toNat_natCast]
   refine comp_range (lo:=0) (n:=kn ^ nn) (fun i=>T (Wd.spell kn nn i)) (by omega) (fun i H4 hi s4 N hN=>?_) fun D H4 hD s4 hd4=>?_
   ·exact ⟨_,rfl,_,rfl,_,rfl,i,nn,kn,congrArg (fun z=>[V.int z,V.int _,V.int _]) (Int.zero_add _),⟨by omega,by omega,by omega⟩,fun H5 s5=>hN H5 s5⟩
   ·exact q2 (by omega) D H4 hD s4 (by rw [hd4,Wd.allW,List.map_map];rfl)
def spSizeX (ad:Adr):Sp:=fun vs H Q E=>∃ n k:Int,vs=[.int n,.int k]∧(¬ (1<=k∧k<=6)->E (.ref ad.BadKinds) none H)∧((1<=k∧k<=6)->¬ (1<=n∧n<=8)->E (.ref ad.BadWord) none H) ∧
 ∀ kn nn:Nat,k=(kn:Nat)->n=(nn:Nat)->(1<=kn∧kn<=6)->(1<=nn∧nn<=8)->(64<kn ^ nn->E (.ref ad.TooMany) none H)∧(kn ^ nn<=64->Q .non H)
theorem ok_looked_size {f:Addr}{fd:FuncData}(F:Fun K "looked_size" "looked_size" s_looked_size f fd)(tt:Txt K mg ad)(C_looked_kinds:Cal P w K mg base (CX1 P w) "looked_kinds" 1 ["kinds"] (spKindsX ad))(C_word_total:Cal P w K mg base (CX1 P w) "word_total" 1 ["length", "kinds"] spTotal) :
  FnOk P w K mg base (CX1 P w) 2 f fd ["length", "kinds"] (spSizeX ad):=by
 refine F.okX sc_looked_size (fun vs H Q E h=>?_) (fun cdv A outer s H vs Q E hr h=>?_)
 ·obtain ⟨n,k,rfl,_⟩:=h
  rfl
 ·obtain ⟨n,k,rfl,x1,x2,q⟩:=h
  have hs:sizeLine=16777216:=sizeLine_eq
  refine ⟨_,(pss_cons (ps_expr (pe_cal C_looked_kinds hr passX (pa_cons (pv 1) pa_nil)))
   (pss_cons (ps_if (PW.pt (pw_or (pt_cmpR op_lt (pv 0) pe_int (nomark _)) (pw_or1 (pt_cmpR op_gt (pv 0) (pe_glob (by rfl) tt.g_LONGEST_OF_A_RULE tt.r_LONGEST_OF_A_RULE) (nomark _))))) (pss_one (ps_raise (E:=fun cls H'=>E cls none H') tt.x_BadWord rfl (fun _ _ _ _ _ _ _ I hx q=>raiseX I hx q) (pa_cons pe_str pa_nil))) pss_nil)
   (pss_one (ps_if (pt_cmpR op_gt (pe_cal C_word_total hr pass1 (pa_cons (pv 0) (pa_cons (pv 1) pa_nil))) (pe_glob (by rfl) tt.g_MOST_OF_A_RULE tt.r_MOST_OF_A_RULE) (nomark _)) (pss_one (ps_raise (E:=fun cls H'=>E cls none H') tt.x_TooMany rfl (fun _ _ _ _ _ _ _ I hx q=>raiseX I hx q) (pa_cons pe_str pa_nil))) pss_nil)))),?_⟩
  (try rw [cxK2]);(try rw [cxK1])
  refine ⟨_,rfl,k,rfl,fun hk=>?_,x1⟩
  refine ⟨_,rfl,_,_,rfl,rfl,_,rfl,?_⟩
  refine ite2 (fun h0=>iteT ?_) (fun h0=>?_)
  ·have h1:n<1:=of_decide_eq_true h0
   exact ⟨(by show 1<=sizeLine;omega),x2 hk fun z=>by omega⟩
  have h1:¬ n<1:=fun z=>h0 (decide_eq_true z)
  refine ⟨_,rfl,_,_,rfl,rfl,_,rfl,?_⟩
  refine ite2 (fun h2=>?_) (fun h2=>?_)
  ·have h3:(8:Int)<n:=of_decide_eq_true h2
   exact ⟨(by show 1<=sizeLine;omega),x2 hk fun z=>by omega⟩
  have h3:¬ (8:Int)<n:=fun z=>h2 (decide_eq_true z)
  obtain ⟨kn,rfl⟩:∃ kn:Nat,k=(kn:Nat):=⟨k.toNat,by omega⟩
  obtain ⟨nn,rfl⟩:∃ nn:Nat,n=(nn:Nat):=⟨n.toNat,by omega⟩
  obtain ⟨q1,q2⟩:=q kn nn rfl rfl ⟨by omega,by omega⟩ ⟨by omega,by omega⟩
  refine ⟨_,rfl,_,rfl,nn,kn,rfl,⟨by omega,by omega⟩,_,_,rfl,rfl,_,rfl,?_⟩
  refine ite2 (fun h4=>?_) (fun h4=>?_)
  ·have h5:(64:Int)<((kn ^ nn:Nat):Int):=of_decide_eq_true h4
   exact ⟨(by show 1<=sizeLine;omega),q1 (by omega)⟩
  ·have h5:¬ (64:Int)<((kn ^ nn:Nat):Int):=fun z=>h4 (decide_eq_true z)
   exact q2 (by omega)
def toldW (rs:List (List (List Nat))):List (List Nat):=(rs.filter fun r=>decide (r.headD []=[119,111,114,100,115])).flatMap (·.drop 1)
def spTold (K:PySem.W.Frag):Sp:=fun vs H Q _=>∃ (p:Addr) (bs:List Addr) (rs:List (List (List Nat))),vs=[.ref p]∧SqL K H p (bs.map V.ref)∧LLs K H rs bs∧RowsOk rs∧rs≠[] ∧
 ((∃ (a b:List Nat) (n k:Nat),rs.head?=some [[97,108,108],a,b]∧(a.length<=640∧b.length<=640)∧PySem.intText? (tx a)=some (n:Nat)∧PySem.intText? (tx b)=some (k:Nat)∧(1<=k∧k<=6)∧(1<=n∧n<=8)∧k ^ n<=64∧∀ D H',Same H H'->H' D=some (.lst ((Wd.allW k n).map T))->Q (.ref D) H') ∨
 ((rs.headD []).headD []≠[97,108,108]∧(toldW rs).length<=100000∧∀ D H',Same H H'->H' D=some (.lst ((toldW rs).map T))->Q (.ref D) H'))
theorem toldW_snoc {rs:List (List (List Nat))}{i:Nat}{r:List (List Nat)}(h:rs[i]?=some r):toldW (rs.take (i+1))=toldW (rs.take i)++if r.headD []=[119,111,114,100,115] then r.drop 1 else []:=by
 unfold toldW
 rw [List.take_add_one,h,List.filter_append,List.flatMap_append]
 congr 1
 show (([r].filter _).flatMap _)=_
 by_cases hw:r.headD []=[119,111,114,100,115]
 ·rw [List.filter_cons,if_pos (decide_eq_true hw),if_pos hw]
  simp
 ·rw [List.filter_cons,if_neg (by rw [decide_eq_false hw];exact Bool.false_ne_true),if_neg hw]
  rfl
theorem toldW_le {rs:List (List (List Nat))}(i:Nat):(toldW (rs.take i)).length<=(toldW rs).length:=by
 have e:toldW rs=toldW (rs.take i)++toldW (rs.drop i):=by
  unfold toldW
  rw [<- List.flatMap_append,<- List.filter_append,List.take_append_drop]
 rw [e,List.length_append]
 exact Nat.le_add_right _ _
theorem ok_told_words {f:Addr}{fd:FuncData}(F:Fun K "told_words" "told_words" s_told_words f fd)(tt:Txt K mg ad)(C_looked_size:Cal P w K mg base (CX1 P w) "looked_size" 2 ["length", "kinds"] (spSizeX ad))(C_all_words:Cal P w K mg base (CX1 P w) "all_words" 3 ["length", "kinds"] (spAllX ad)):FnOk P w K mg base (CX1 P w) 4 f fd ["rows"] (spTold K):=by
 refine F.okX sc_told_words (fun vs H Q E h=>?_) (fun cdv A outer s H vs Q E hr h=>?_)
 ·obtain ⟨p,bs,rs,rfl,_⟩:=h
  rfl
 ·obtain ⟨p,bs,rs,rfl,hS,hL,hok,hne,hq⟩:=h
  have hs:sizeLine=16777216:=sizeLine_eq
  refine ⟨_,(pss_cons (ps_if (pt_cmpR op_eq_T (pe_ix ix_list (pe_ix ix_list (pv 0) pe_int (fun _ _=>rfl)) pe_int (fun _ _=>rfl)) (pe_strT [97,108,108] (by decide +kernel)) (nomark _)) (pss_cons (ps_set (i:=1) sc_told_words.nd rfl (Or.inl rfl) (pe_callTy call_intT (by rfl) tt.b_int (by decide +kernel) (pa_cons (pe_ix ix_list (pe_ix ix_list (pv 0) pe_int (fun _ _=>rfl)) pe_int (fun _ _=>rfl)) pa_nil)))
   (pss_cons (ps_set (i:=2) sc_told_words.nd rfl (Or.inl rfl) (pe_callTy call_intT (by rfl) tt.b_int (by decide +kernel) (pa_cons (pe_ix ix_list (pe_ix ix_list (pv 0) pe_int (fun _ _=>rfl)) pe_int (fun _ _=>rfl)) pa_nil)))
   (pss_cons (ps_expr (pe_cal C_looked_size hr passX (pa_cons (pv 1) (pa_cons (pv 2) pa_nil))))
   (pss_one (ps_ret (pe_cal C_all_words hr passX (pa_cons (pv 1) (pa_cons (pv 2) pa_nil)))))))) pss_nil)
   (pss_cons (ps_set (i:=3) sc_told_words.nd rfl (Or.inl rfl) (pe_lst pa_nil))
   (pss_cons (ps_for PassesOwn.leaving rfl (pi_list (pv 0)) (pg_name (i:=4) sc_told_words.nd rfl (Or.inl rfl)) (pss_one (ps_if (pt_cmpR op_eq_T (pe_ix ix_list (pv 4) pe_int (fun _ _=>rfl)) (pe_strT [119,111,114,100,115] (by decide +kernel)) (nomark _)) (pss_one (ps_expr (pe_bm PySem.F.plainAttrs_list PySem.F.slot_list_extend PySem.F.type_list_extend mt_extend (pv 3) (pa_cons (pe_slice sl_list (pv 4) (po_some pe_int) po_none) pa_nil)))) pss_nil)))
   (pss_one (ps_ret (pv 3)))))),?_⟩
  (try rw [cxK2]);(try rw [cxK1])
  obtain ⟨r0,rs',rfl⟩:∃ r rs',rs=r::rs':=by cases rs with | nil=>exact absurd rfl hne | cons a b=>exact ⟨a,b,rfl⟩
  obtain ⟨b0,bs',rfl⟩:∃ b bs',bs=b::bs':=by have:=lls_len hL;cases bs with | nil=>cases this | cons a b=>exact ⟨a,b,rfl⟩
  obtain ⟨b1,r1,e1,e2,hb0⟩:=lls_at hL (i:=0) rfl
  cases e1
  cases e2
  have ha0:atI ((b0::bs').map V.ref) 0=some (.ref b0):=atI_nat (j:=0) rfl
  obtain ⟨h0ne,_⟩:=hok.2 r0 (List.mem_cons_self ..)
  obtain ⟨h,rt,rfl⟩:∃ h rt,r0=h::rt:=by cases r0 with | nil=>exact absurd rfl h0ne | cons a b=>exact ⟨a,b,rfl⟩
  have hat:atI ((h::rt).map T) 0=some (T h):=atI_nat (j:=0) rfl
  refine ⟨_,rfl,p,_,_,_,rfl,rfl,hS,ha0,b0,_,_,_,rfl,rfl,hb0,hat,_,rfl,_,rfl,_,rfl,?_⟩
  rcases hq with ⟨a,b,n,k,e,⟨hal,hbl⟩,hna,hkb,hk,hn,hkn,q⟩ | ⟨hno,hlen,q⟩
  ·obtain ⟨rfl,rfl⟩:h=[97,108,108]∧rt=[a,b]:=by
    have:=Option.some.inj e
    exact ⟨(List.cons.inj this).1,(List.cons.inj this).2⟩
   refine itP (decide_eq_true rfl) ?_
   refine ⟨_,rfl,p,_,_,_,rfl,rfl,hS,ha0,b0,_,_,_,rfl,rfl,hb0,atI_nat (j:=1) rfl,a,_,rfl,hal,hna,?_⟩
   refine ⟨_,rfl,p,_,_,_,rfl,rfl,hS,ha0,b0,_,_,_,rfl,rfl,hb0,atI_nat (j:=2) rfl,b,_,rfl,hbl,hkb,?_⟩
   refine ⟨_,rfl,_,rfl,_,_,rfl,fun z=>absurd ⟨by omega,by omega⟩ z,fun _ z=>absurd ⟨by omega,by omega⟩ z,fun kn nn ek en _ _=>?_⟩
   obtain rfl:k=kn:=by omega
   obtain rfl:n=nn:=by omega
   refine ⟨fun z=>absurd hkn (by omega),fun _=>?_⟩
   refine ⟨_,rfl,_,rfl,_,_,rfl,fun z=>absurd ⟨by omega,by omega⟩ z,fun _ z=>absurd ⟨by omega,by omega⟩ z,fun kn nn ek en _ _=>?_⟩
   obtain rfl:k=kn:=by omega
   obtain rfl:n=nn:=by omega
   exact ⟨fun z=>absurd hkn (by omega),fun _ D H' _ s1 hd=>q D H' s1 hd⟩
  ·have hno':¬ h=[97,108,108]:=hno
   refine itN (by rw [decide_eq_false hno'];exact Bool.false_ne_true) ?_
   refine ⟨(by show 0<=sizeLine;omega),fun D hD=>?_⟩
   have s0:=same_upd (o:=.lst []) hD
   have hd0:upd H D (.lst []) D=some (.lst []):=upd_same
   generalize upd H D (.lst [])=G at s0 hd0 ⊢
   refine ⟨_,rfl,p,rfl,⟨_,s0.seq hS⟩,?_⟩
   refine for_list (K:=K) (a:=p) (xs:=(b0::bs').map V.ref) (fun i σ H2=>Same H H2∧H2 D=some (.lst ((toldW (((h::rt)::rs').take i)).map T))∧∃ v:Option V,σ=[some (.ref p),none,none,some (.ref D),v]) ⟨s0,hd0,none,rfl⟩ (fun i σ H2 _ h=>h.1.seq hS) ?_ ?_
   ·rintro i x σ H2 hx ⟨s2,hd2,v,rfl⟩
    obtain ⟨b,r,rfl,hr',hb⟩:=lls_at hL hx
    obtain ⟨hrne,hrl,_⟩:=hok.2 r (List.mem_of_getElem? hr')
    have et:=toldW_snoc hr'
    have hle:=toldW_le (rs:=(h::rt)::rs') (i+1)
    obtain ⟨h2,rt2,rfl⟩:∃ h rt,r=h::rt:=by cases r with | nil=>exact absurd rfl hrne | cons a b=>exact ⟨a,b,rfl⟩
    refine ⟨_,rfl,b,_,_,_,rfl,rfl,s2.seq hb,atI_nat (j:=0) rfl,_,rfl,_,rfl,_,rfl,?_⟩
    refine ite2 (fun z0=>?_) (fun z0=>?_)
    ·rw [if_pos (show (h2::rt2).headD []=_ from of_decide_eq_true z0)] at et
     refine ⟨_,rfl,.inl ⟨rfl,_,SqL.of hd2⟩,_,rfl,_,rfl,b,_,rfl,s2.seq hb,fun c hc=>?_⟩
     rw [show cutV ((h2::rt2).map T) (some 1) none=rt2.map T from cutV_from (ls:=h2::rt2) (k:=1) (by show 1<=rt2.length+1;omega)]
     have s3:=same_upd (o:=.lst (rt2.map T)) hc
     have hc':upd H2 c (.lst (rt2.map T)) c=some (.lst (rt2.map T)):=upd_same
     generalize upd H2 c (.lst (rt2.map T))=G3 at s3 hc' ⊢
     rw [et,List.length_append,show (h2::rt2).drop 1=rt2 from rfl] at hle
     refine ⟨D,c,_,_,rfl,rfl,s3 D _ hd2,hc',(by rw [List.length_map,List.length_map];omega),fun e o z=>?_,?_,_,rfl⟩
     ·rw [upd_ne (ne_of_none z hD)]
      exact s3 e o (s2 e o z)
     ·rw [upd_same,et,List.map_append]
      rfl
    ·rw [if_neg (show ¬ (h2::rt2).headD []=_ from fun z=>z0 (decide_eq_true z)),List.append_nil] at et
     exact ⟨s2,by rw [et];exact hd2,_,rfl⟩
   ·rintro σ H2 ⟨s2,hd2,v,rfl⟩
    rw [List.length_map,<- lls_len hL,List.take_length] at hd2
    exact ⟨_,rfl,q D H2 s2 hd2⟩
def pageRows (t:List Nat):List (List (List Nat)):=(spl 10 t).map (spl 32)
def sub (a b:List Nat):Bool:=!(Builtin.Str.occurrences (tx b) (tx a) 0 (tx b).length 1).isEmpty
def barsOf (rs:List (List (List Nat))):List (List Nat):=(rs.filter fun r=>decide (r.headD []=[98,97,114])).map fun r=>r.getD 1 []
def keptW (rs:List (List (List Nat)))(ws:List (List Nat)):List (List Nat):=ws.filter fun w=>!(barsOf rs).any fun b=>sub b w
def asksOf (rs:List (List (List Nat))):List (List (List Nat)):=rs.filter fun r=>(tabAt (r.headD []) asksD).isSome
def Told (rs:List (List (List Nat)))(ws:List (List Nat)):Prop :=
 (∃ (a b:List Nat) (n k:Nat),rs.head?=some [[97,108,108],a,b]∧(a.length<=640∧b.length<=640)∧PySem.intText? (tx a)=some (n:Nat)∧PySem.intText? (tx b)=some (k:Nat)∧(1<=k∧k<=6)∧(1<=n∧n<=8)∧k ^ n<=64∧ws=Wd.allW k n) ∨
 ((rs.headD []).headD []≠[97,108,108]∧(toldW rs).length<=100000∧ws=toldW rs)
theorem Told.q {H:Hp}{Q:Addr->Hp->Prop}{rs:List (List (List Nat))}{ws:List (List Nat)}(h:Told rs ws)(q:∀ D H',Same H H'->H' D=some (.lst (ws.map T))->Q D H') :
  (∃ (a b:List Nat) (n k:Nat),rs.head?=some [[97,108,108],a,b]∧(a.length<=640∧b.length<=640)∧PySem.intText? (tx a)=some (n:Nat)∧PySem.intText? (tx b)=some (k:Nat)∧(1<=k∧k<=6)∧(1<=n∧n<=8)∧k ^ n<=64∧∀ D H',Same H H'->H' D=some (.lst ((Wd.allW k n).map T))->Q D H') ∨
  ((rs.headD []).headD []≠[97,108,108]∧(toldW rs).length<=100000∧∀ D H',Same H H'->H' D=some (.lst ((toldW rs).map T))->Q D H'):=by
 rcases h with ⟨a,b,n,k,e1,e2,e3,e4,e5,e6,e7,rfl⟩ | ⟨e1,e2,rfl⟩
 ·exact .inl ⟨a,b,n,k,e1,e2,e3,e4,e5,e6,e7,q⟩
 ·exact .inr ⟨e1,e2,q⟩
theorem bar_two:∀ {rs:List (List (List Nat))} {a:List Nat},chain a rs=true->∀ r∈rs,r.headD []=[98,97,114]->2<=r.length
 | [],_,_,r,hr,_=>by cases hr
 | r0::rs,a,h,r,hr,hb=>by
  unfold chain at h
  split at h
  ·rename_i k hk
   rw [Bool.and_eq_true] at h
   rcases List.mem_cons.mp hr with rfl | hr
   ·rcases Nat.lt_or_ge r.length 2 with z | z
    ·exfalso
     have hf:rowForm r=[]:=by
      unfold rowForm
      rw [List.drop_eq_nil_of_le (by omega)]
      rfl
     have ha:isAsk r=false:=by
      unfold isAsk
      rw [hb]
      rfl
     unfold kindOf at hk
     rw [ha,hb,hf] at hk
     simp at hk
    ·exact z
   ·exact bar_two h.2 r hr hb
  ·cases h
def unL (H:Hp)(v:V):List (List Nat):=(rdL H v).map unT
theorem unL_at {H:Hp}{b:Addr}{u:List (List Nat)}(h:H b=some (.lst (u.map T))):unL H (.ref b)=u:=by
 unfold unL
 rw [rdL_at h,List.map_map]
 exact (List.map_congr_left fun x _=>unT_T x).trans (List.map_id _)
theorem rows_read {H:Hp}{rs:List (List (List Nat))}{bs:List Addr}(h:Dt.R2 (fun r b=>H b=some (.lst (r.map T))) rs bs){α:Type}(p:List (List Nat)->Bool)(f:List (List Nat)->α):(((bs.map V.ref).filter fun v=>p (unL H v)).map fun v=>f (unL H v))=(rs.filter p).map f:=by
 induction h with
 | nil=>rfl
 | @cons r b rs bs h _ ih =>
  rw [List.map_cons,List.filter_cons,List.filter_cons,unL_at h]
  cases hp:p r with
  | true=>rw [if_pos rfl,if_pos rfl,List.map_cons,List.map_cons,unL_at h,ih]
  | false=>rw [if_neg Bool.false_ne_true,if_neg Bool.false_ne_true,ih]
theorem spl_len (c:Nat):∀ (t:List Nat),∀ x∈spl c t,x.length<=t.length
 | [],x,hx=>by
  rcases List.mem_singleton.mp hx with rfl
  exact Nat.le_refl _
 | a::t,x,hx=>by
  have ih:=spl_len c t
  unfold spl at hx
  split at hx
  ·rcases List.mem_cons.mp hx with rfl | hx
   ·exact Nat.zero_le _
   ·exact Nat.le_succ_of_le (ih x hx)
  ·split at hx
   ·rename_i h r e
    rcases List.mem_cons.mp hx with rfl | hx
    ·exact Nat.succ_le_succ (ih h (by rw [e];exact List.mem_cons_self ..))
    ·exact Nat.le_succ_of_le (ih x (by rw [e];exact List.mem_cons_of_mem _ hx))
   ·rcases List.mem_singleton.mp hx with rfl
    exact Nat.succ_le_succ (Nat.zero_le _)
theorem r2_rows {H H':Hp}{D:Addr}{ls:List (List Nat)}{bs:List Addr}(h:Dt.R2 (fun v b=>b≠D∧H b=none∧H' b=some (.lst ((spl 32 (unT v)).map T))) (ls.map T) bs):Dt.R2 (fun r b=>H' b=some (.lst (r.map T))) (ls.map (spl 32)) bs:=by
 induction ls generalizing bs with
 | nil=>cases h;exact .nil
 | cons x ls ih =>
  cases h with
  | cons a r=>exact .cons (by have:=a.2.2;rwa [unT_T] at this) (ih r)
theorem r2_lls {K:PySem.W.Frag}{H:Hp}{rs:List (List (List Nat))}{bs:List Addr}(h:Dt.R2 (fun r b=>H b=some (.lst (r.map T))) rs bs):LLs K H rs bs:=by
 unfold LLs
 induction h with
 | nil=>exact .nil
 | cons a _ ih=>exact .cons (SqL.of a) ih
theorem r2_same {H G:Hp}{rs:List (List (List Nat))}{bs:List Addr}(h:Dt.R2 (fun r b=>H b=some (.lst (r.map T))) rs bs)(s:Same H G):Dt.R2 (fun r b=>G b=some (.lst (r.map T))) rs bs:=by
 induction h with
 | nil=>exact .nil
 | cons a _ ih=>exact .cons (s _ _ a) ih
theorem r2_mem {H:Hp}{rs:List (List (List Nat))}{bs:List Addr}(h:Dt.R2 (fun r b=>H b=some (.lst (r.map T))) rs bs){v:V}(hv:v∈bs.map V.ref):∃ b r,v = .ref b∧r∈rs∧H b=some (.lst (r.map T)):=by
 induction h with
 | nil=>cases hv
 | cons a _ ih =>
  rcases List.mem_cons.mp hv with rfl | hv
  ·exact ⟨_,_,rfl,List.mem_cons_self ..,a⟩
  ·obtain ⟨b,r,e,hr,hb⟩:=ih hv
   exact ⟨b,r,e,List.mem_cons_of_mem _ hr,hb⟩
theorem r2_mapl {α β γ:Type}{g:α->β}{S:β->γ->Prop}{vs:List α}{as:List γ}(h:Dt.R2 (fun v b=>S (g v) b) vs as):Dt.R2 S (vs.map g) as:=by
 induction h with
 | nil=>exact .nil
 | cons a _ ih=>exact .cons a ih
def spRead (K:PySem.W.Frag)(C:Addr):Sp:=fun vs H Q _=>∃ (t:List Nat) (ws:List (List Nat)) (n:Nat),vs=[T t]∧t.length<=100000∧RowsOk (pageRows t)∧chain [116,111,112] (pageRows t)=true∧Told (pageRows t) ws∧ws.length<=100000∧WebOk (keptW (pageRows t) ws) n ∧
 ∀ (R x tp D:Addr) (as:List Addr) (ms:List (List Nat)) (H':Hp),Same H H'->H' R=some (.tup [.ref x,.ref D])->WebAt C H' x tp n ms->ms.Perm (keptW (pageRows t) ws)->ms.Pairwise (fun a b=>¬ b<a)->H' D=some (.lst (as.map V.ref))->Dt.R2 (fun r b=>H' b=some (.tup (r.map T))) (asksOf (pageRows t)) as->Q (.ref R) H'
theorem ok_read_page {f:Addr}{fd:FuncData}(F:Fun K "read_page" "read_page" s_read_page f fd)(tt:Txt K mg ad)(C_looked_rows:Cal P w K mg base (CX1 P w) "looked_rows" 5 ["rows"] (spRows K))(C_told_words:Cal P w K mg base (CX1 P w) "told_words" 4 ["rows"] (spTold K))(C_Web_init:Cam P w K mg base (CX1 P w) "Web" ad.Web 5 ["self", "words"] (spWebI K ad.Web)):FnOk P w K mg base (CX1 P w) 7 f fd ["text"] (spRead K ad.Web):=by
 refine F.okX sc_read_page (fun vs H Q E h=>?_) (fun cdv A outer s H vs Q E hr h=>?_)
 ·obtain ⟨t,ws,n,rfl,_⟩:=h
  rfl
 ·obtain ⟨t,ws,n,rfl,ht,hok,hch,htd,hwl,hW,q⟩:=h
  have hs:sizeLine=16777216:=sizeLine_eq
  refine ⟨_,(pss_cons (ps_setComp (i:=1) cs_read_page_0 rfl (pi_list (pe_bm PySem.F.plainAttrs_str PySem.F.slot_str_split PySem.F.type_str_split mt_split (pv 0) (pa_cons (pe_strT [10] (by decide +kernel)) pa_nil))) (fun cl C s' H' fp=>(pe_bmK K rfl PySem.F.plainAttrs_str PySem.F.slot_str_split PySem.F.type_str_split mt_split (pv 0) (pa_cons (pe_strT [32] (by decide +kernel)) pa_nil))) sc_read_page.nd rfl rfl)
   (pss_cons (ps_expr (pe_cal C_looked_rows hr passX (pa_cons (pv 1) pa_nil)))
   (pss_cons (ps_set (i:=2) sc_read_page.nd rfl (Or.inr rfl) (pe_compf cs_read_page_1 rfl (pi_list (pv 1)) (fun cl C s' H' fp=>(pt_cmpR op_eq_T (pe_ix (ix_list_K K rfl) (pv 0) pe_int (fun _ _=>rfl)) (pe_strT [98,97,114] (by decide +kernel)) (nomark _))) (fun cl C s' H' fp=>(pe_ix (ix_list_K K rfl) (pv 0) pe_int (fun _ _=>rfl)))))
   (pss_cons (ps_setCompfC (i:=3) cs_read_page_2 rfl (pi_list (pe_cal C_told_words hr passX (pa_cons (pv 1) pa_nil))) (fun cl C s' H' fp=>(pt_not (pt_val (pe_callB (call_anyK K rfl rfl) (by rfl) tt.b_any PyProof.Rows.boot_any (pa_cons (pe_comp cs_read_page_3 rfl (pi_listK K rfl (pv 3)) (fun cl C s' H' fp=>(pe_cmpR op_in_str (pv 0) (pv 1) (by with_unfolding_all rfl)))) pa_nil))))) (fun cl C s' H' fp=>(pv 0)) sc_read_page.nd rfl rfl)
   (pss_one (ps_ret (pe_tup (pa_cons (pe_mak C_Web_init hr passX (pa_cons (pv 3) pa_nil)) (pa_cons (pe_compf cs_read_page_4 rfl (pi_list (pv 1)) (fun cl C s' H' fp=>(pt_cmpR (op_in_tabK K rfl) (pe_ix (ix_list_K K rfl) (pv 0) pe_int (fun _ _=>rfl)) (pe_glob (v:=.ref ad.ASKS) (by rfl) tt.m_ASKS rfl) (by with_unfolding_all rfl))) (fun cl C s' H' fp=>(pe_callTy (call_tupleK K rfl) (by rfl) tt.b_tuple (by decide +kernel) (pa_cons (pv 0) pa_nil)))) pa_nil))))))))),?_⟩
  (try rw [cxK2]);(try rw [cxK1])
  refine ⟨_,rfl,rfl,t,10,rfl,rfl,(by omega),(by omega),fun D0 hD0=>?_⟩
  have s0:=same_upd (o:=.lst ((spl 10 t).map T)) hD0
  have hd0:upd H D0 (.lst ((spl 10 t).map T)) D0=some (.lst ((spl 10 t).map T)):=upd_same
  generalize upd H D0 (.lst ((spl 10 t).map T))=H0 at s0 hd0 ⊢
  have hrl:(spl 10 t).length<=100000:=by have:=hok.1;unfold pageRows at this;rwa [List.length_map] at this
  refine ⟨D0,rfl,⟨_,SqL.of hd0⟩,compL (fun v=>(spl 32 (unT v)).map T) (reads_list (SqL.of hd0)) (by rw [List.length_map];omega) (fun v H1 hv s1 N hN=>?_) fun D bs H1 hD s1 hd hR=>?_⟩
  ·obtain ⟨x,hx,rfl⟩:=List.mem_map.mp hv
   have:=spl_len 10 t x hx
   refine ⟨_,rfl,rfl,x,32,rfl,rfl,(by omega),(by omega),fun c hc=>hN c _ (same_upd hc) hc ?_⟩
   rw [upd_same,unT_T]
  have hrs:=r2_rows hR
  rw [show (spl 10 t).map (spl 32)=pageRows t from rfl] at hrs
  generalize hpr:pageRows t=rs at hok hch htd hW q hrs
  have hne:rs≠[]:=by
   obtain ⟨h,r,e⟩:=spl_ne 10 t
   rw [<- hpr]
   unfold pageRows
   rw [e]
   exact fun z=>by cases z
  have s2:=s0.trans s1
  refine ⟨_,rfl,D,bs,rs,rfl,SqL.of hd,r2_lls hrs,hok,hch,fun H2 s3=>?_⟩
  have hrs:=r2_same hrs s3
  have hd:=s3 D _ hd
  have hbl:=(lls_len (K:=K) (r2_lls hrs))
  have hrl2:=hok.1
  refine ⟨_,rfl,D,rfl,⟨_,SqL.of hd⟩,compFG (fun v=>decide ((unL H2 v).headD []=[98,97,114])) (fun v=>T ((unL H2 v).getD 1 [])) (reads_list (SqL.of hd)) (by rw [List.length_map];omega) (fun v H3 hv s4 N hN=>?_) (fun v H3 hv hp s4 N hN=>?_) fun D3 H3 hD3 s4 hd3=>?_⟩
  ·obtain ⟨b,r,rfl,hr1,hb⟩:=r2_mem hrs hv
   have:=hN H3 (Same.refl _)
   rw [unL_at hb] at this
   obtain ⟨h,rt,rfl⟩:∃ h rt,r=h::rt:=by have:=(hok.2 r hr1).1;cases r with | nil=>exact absurd rfl this | cons a b=>exact ⟨a,b,rfl⟩
   exact ⟨_,rfl,b,_,_,_,rfl,rfl,SqL.of (s4 b _ hb),atI_nat (j:=0) rfl,_,rfl,_,rfl,_,rfl,this⟩
  ·obtain ⟨b,r,rfl,hr1,hb⟩:=r2_mem hrs hv
   have hN:=hN H3 (Same.refl _)
   rw [unL_at hb] at hN hp
   have h2:=bar_two hch r hr1 (of_decide_eq_true hp)
   refine ⟨_,rfl,b,_,_,_,rfl,rfl,SqL.of (s4 b _ hb),atI_nat (j:=1) (by rw [List.getElem?_map,List.getElem?_eq_getElem (show 1<r.length by omega)];rfl),?_⟩
   rw [List.getD_eq_getElem?_getD,List.getElem?_eq_getElem (show 1<r.length by omega)] at hN
   exact hN
  rw [rows_read hrs (fun r=>decide (r.headD []=[98,97,114])) (fun r=>T (r.getD 1 [])),show (rs.filter fun r=>decide (r.headD []=[98,97,114])).map (fun r=>T (r.getD 1 []))=(barsOf rs).map T by unfold barsOf;rw [List.map_map];rfl] at hd3
  have hrs:=r2_same hrs s4
  have hd:=s4 D _ hd
  have hbal:(barsOf rs).length<=100000:=by
   unfold barsOf
   rw [List.length_map]
   exact Nat.le_trans (List.length_filter_le ..) hrl2
  refine ⟨_,rfl,D,bs,rs,rfl,SqL.of hd,r2_lls hrs,hok,hne,Told.q htd fun D4 H4 s5 hd4=>?_⟩
  refine ⟨D4,rfl,⟨_,SqL.of hd4⟩,compFG (fun v=>!(barsOf rs).any fun b=>sub b (unT v)) (fun v=>v) (reads_list (SqL.of hd4)) (by rw [List.length_map];omega) (fun v H5 hv s6 N hN=>?_) (fun v H5 hv hp s6 N hN=>⟨_,rfl,hN H5 (Same.refl _)⟩) fun D6 H5 hD6 s6 hd6=>?_⟩
  ·obtain ⟨x,hx,rfl⟩:=List.mem_map.mp hv
   have hb5:=s6 D3 _ (s5 D3 _ hd3)
   refine ⟨_,rfl,D3,rfl,⟨_,SqL.of hb5⟩,compG (fun u=>.bl (sub (unT u) x)) (reads_list (SqL.of hb5)) (by rw [List.length_map];omega) (fun u H6 hu s7 N2 hN2=>?_) fun D7 H6 hD7 s7 hd7=>?_⟩
   ·obtain ⟨y,hy,rfl⟩:=List.mem_map.mp hu
    have:=hN2 H6 (Same.refl _)
    rw [unT_T] at this
    exact ⟨_,rfl,_,rfl,tx y,tx x,rfl,rfl,this⟩
   ·rw [map_unT (f:=fun u=>V.bl (sub u x)),show (barsOf rs).map (fun u=>V.bl (sub u x))=((barsOf rs).map fun u=>sub u x).map V.bl by rw [List.map_map];rfl] at hd7
    refine ⟨D7,_,rfl,SqL.of hd7,_,rfl,?_⟩
    have:=hN H6 s7
    rw [unT_T] at this
    rw [List.any_map]
    exact this
  have ek:(((ws.map T).filter fun v=>!(barsOf rs).any fun b=>sub b (unT v)).map fun v=>v)=(keptW rs ws).map T:=by
   rw [List.map_id',List.filter_map]
   congr 1
  rw [ek] at hd6
  have s7:=s3.trans (s4.trans (s5.trans s6))
  have hrs:=r2_same hrs (s5.trans s6)
  have hd:=s6 D _ (s5 D _ hd)
  refine ⟨_,rfl,?_⟩
  intro x dx nx ndx nex
  have s8:Same H5 (upd (upd H5 dx (.own x)) x (.ins ad.Web dx [])):=fun b o e=>by
   rw [upd_ne (ne_of_none e nx),upd_ne (ne_of_none e ndx)]
   exact e
  refine ⟨x,dx,D6,_,n,rfl,upd_same,.inl (SqL.of (s8 D6 _ hd6)),hW,fun tp ms H6 hpm hpw k2 hx2 ht2=>⟨rfl,?_⟩⟩
  have s9:Same H5 H6:=fun b o e=>k2 b o (s8 b o e) (ne_of_none e nx)
  have hrs:=r2_same hrs s9
  have hd:=s9 D _ hd
  refine ⟨_,rfl,D,rfl,⟨_,SqL.of hd⟩,compFO (fun v=>(tabAt ((unL H6 v).headD []) asksD).isSome) (fun v=>.tup ((unL H6 v).map T)) (reads_list (SqL.of hd)) (by rw [List.length_map];omega) (fun v H7 hv s10 N hN=>?_) (fun v H7 hv hp s10 N hN=>?_) fun D8 as H7 hD8 s10 hd8 hR8=>?_⟩
  ·obtain ⟨b,r,rfl,hr1,hb⟩:=r2_mem hrs hv
   have:=hN H7 (Same.refl _)
   rw [unL_at hb] at this
   obtain ⟨h,rt,rfl⟩:∃ h rt,r=h::rt:=by have:=(hok.2 r hr1).1;cases r with | nil=>exact absurd rfl this | cons a b=>exact ⟨a,b,rfl⟩
   exact ⟨_,rfl,b,_,_,_,rfl,rfl,SqL.of (s10 b _ hb),atI_nat (j:=0) rfl,h,ad.ASKS,asksD,rfl,rfl,tt.k_asks,_,rfl,this⟩
  ·obtain ⟨b,r,rfl,hr1,hb⟩:=r2_mem hrs hv
   refine ⟨_,rfl,b,_,rfl,SqL.of (s10 b _ hb),fun c hc=>hN c _ (same_upd hc) hc ?_⟩
   rw [upd_same,unL_at hb]
  refine ⟨(by show 2<=sizeLine;omega),fun R hR'=>?_⟩
  have s11:=same_upd (o:=.tup [.ref x,.ref D8]) hR'
  refine q R x tp D8 as ms _ (s2.trans (s7.trans (s9.trans (s10.trans s11)))) upd_same (WebAt.on ⟨⟨dx,hx2⟩,ht2⟩ (s10.trans s11)) hpm hpw (s11 D8 _ hd8) ?_
  have e:=rows_read hrs (fun r=>(tabAt (r.headD []) asksD).isSome) id
  rw [List.map_id] at e
  unfold asksOf
  rw [<- e]
  exact r2_mapl (hR8.mono fun v b _ hb=>s11 b _ hb.2.2)
def stirZ (c k:Int):Int:=(c % 1000000007*48271+(k+1)*(k+1)*69621) % 2147483647*((c % 1000000007*48271+(k+1)*(k+1)*69621) % 2147483647) % 2147483629
def spStir:Sp:=fun vs H Q _=>∃ (c k:Int),vs=[.int c,.int k]∧(0<=k∧k<=1000)∧Q (.int (stirZ c k)) H
theorem ok__law_stir {f:Addr}{fd:FuncData}(F:Fun K "_law_stir" "_law_stir" s__law_stir f fd)(tt:Txt K mg ad):FnOk P w K mg base (CX1 P w) 1 f fd ["cell", "k"] spStir:=by
 refine F.okN sc__law_stir (fun vs H Q E h=>?_) (fun cdv A outer s H vs Q E hr h=>?_)
 ·obtain ⟨c,k,rfl,_⟩:=h
  rfl
 ·obtain ⟨c,k,rfl,hk,q⟩:=h
  refine ⟨_,(pss_cons (ps_set (i:=2) sc__law_stir.nd rfl (Or.inl rfl) (pe_op op_mod (pe_op op_add (pe_op op_mul (pe_op op_mod (pv 0) pe_int) pe_int) (pe_op op_mul (pe_op op_mul (pe_op op_add (pv 1) pe_int) (pe_op op_add (pv 1) pe_int)) pe_int)) pe_int))
   (pss_one (ps_ret (pe_op op_mod (pe_op op_mul (pv 2) (pv 2)) pe_int)))),?_⟩
  (try rw [cxK2]);(try rw [cxK1])
  refine ⟨_,rfl,_,_,rfl,rfl,(by show (0:Int)<1000000007;decide),_,_,rfl,rfl,.inr ⟨by decide,by decide⟩,_,rfl,_,_,rfl,rfl,_,rfl,_,_,rfl,rfl,_,_,rfl,rfl,.inl ⟨by omega,by omega⟩,_,_,rfl,rfl,.inr ⟨by decide,by decide⟩,_,_,rfl,rfl,_,_,rfl,rfl,(by show (0:Int)<2147483647;decide),?_⟩
  dsimp only
  have h1:=Int.emod_nonneg (c % 1000000007*48271+(k+1)*(k+1)*69621) (show (2147483647:Int)≠0 by decide)
  have h2:=Int.emod_lt_of_pos (c % 1000000007*48271+(k+1)*(k+1)*69621) (show (0:Int)<2147483647 by decide)
  unfold stirZ at q
  exact ⟨_,rfl,_,rfl,_,_,rfl,rfl,.inl ⟨by omega,by omega⟩,_,_,rfl,rfl,(by show (0:Int)<2147483629;decide),q⟩
theorem num_form {m:Nat}(h:m<10 ^ 60):formOf (dgI (m:Nat))=[110]:=by
 unfold formOf
 rw [if_pos]
 unfold isNum madeOf
 rw [decide_eq_true (List.length_pos_iff.mpr (dg_ne m)),decide_eq_true (dg_len (k:=59) h),show ((dgI (m:Nat)).all fun c=>decide (c∈figs))=true from List.all_eq_true.mpr fun c hc=>decide_eq_true ?_]
 ·by_cases h0:m=0
  ·subst h0
   rfl
  ·rw [show decide ((dgI (m:Nat)).take 1≠[48])=true from decide_eq_true (dg_head m (by omega)),Bool.or_true]
   rfl
 ·obtain ⟨a,b⟩:=dg_all m c hc
  have:c-48<10:=by omega
  obtain ⟨d,hd,rfl⟩:∃ d,d<10∧c=48+d:=⟨c-48,by omega,by omega⟩
  clear hc a b this
  revert d
  decide
theorem txt_form {t:List Nat}(h0:t≠[])(h1:t.length<=200)(h2:∀ c∈t,97<=c∧c<103):formOf t=[116]:=by
 have hn:isNum t=false:=by
  unfold isNum madeOf
  rw [show (t.all fun c=>decide (c∈figs))=false from ?_,Bool.and_false,Bool.and_false,Bool.false_and]
  cases t with
  | nil=>exact absurd rfl h0
  | cons c t =>
   rw [List.all_cons,decide_eq_false,Bool.false_and]
   intro z
   have:=h2 c (List.mem_cons_self ..)
   have hz:∀ x∈figs,x<58:=by decide
   have:=hz c z
   omega
 have ht:isTxt t=true:=by
  unfold isTxt madeOf
  rw [decide_eq_true (List.length_pos_iff.mpr h0),decide_eq_true h1,show (t.all fun c=>decide (c∈lets))=true from List.all_eq_true.mpr fun c hc=>decide_eq_true ?_]
  ·rfl
  ·have h3:=h2 c hc
   obtain ⟨d,hd,rfl⟩:∃ d,d<6∧c=97+d:=⟨c-97,by omega,by omega⟩
   revert hd
   clear h3 hc
   revert d
   decide
 unfold formOf
 rw [hn,ht]
 rfl
theorem flatN (f:Nat->Nat):∀ l:List Nat,(l.map fun i=>[f i]).flatten=l.map f
 | []=>rfl
 | a::l=>by rw [List.map_cons,List.flatten_cons,flatN f l];rfl
theorem ask_of {h:List Nat}{rt:List (List Nat)}{d:List (List Nat)}{fm:List Nat}(hd:tabAt h asksD=some d)(hf:(rt.map formOf).flatten=fm)(hm:fm∈d):isAsk (h::rt)=true:=by
 unfold isAsk
 rw [show (h::rt).headD []=h from rfl,hd,show rowForm (h::rt)=fm from hf]
 exact decide_eq_true hm
theorem al_nil {α:Type}{p:α->Prop}:∀ x∈([]:List α),p x:=fun x hx=>by cases hx
theorem al_cons {α:Type}{p:α->Prop}{a:α}{l:List α}(h:p a)(t:∀ x∈l,p x):∀ x∈a::l,p x:=List.forall_mem_cons.mpr ⟨h,t⟩
theorem back {H G:Hp}{p:Addr}(s:Same H G)(h:G p=none):H p=none:=by
 cases e:H p with
 | none=>rfl
 | some o=>rw [s p o e] at h;cases h
def AskOk (r:List (List Nat)):Prop:=isAsk r=true∧r≠[]∧r.length<=5∧∀ x∈r,x.length<=60∧10∉x∧32∉x
def BarT (t:List Nat):Prop:=t≠[]∧t.length<=3∧∀ c∈t,97<=c∧c<103
def barRow (t:List Nat):List (List Nat):=[[98,97,114],t]
def noBar (tb ws:List (List Nat)):List (List Nat):=ws.filter fun w=>!tb.any fun b=>sub b w
theorem noBar_nil (ws:List (List Nat)):noBar [] ws=ws:=List.filter_eq_self.mpr fun _ _=>rfl
def SizeD (nn kn:Nat):Prop:=(1<=kn∧kn<=6)∧1<=nn∧nn<=8∧kn ^ nn<=30
def PageOk (nn kn:Nat)(rs:List (List (List Nat)))(ws:List (List Nat)):Prop :=
 (rs=[[[97,108,108],dgI (nn:Nat),dgI (kn:Nat)]]∧ws=Wd.allW kn nn) ∨
 ((∀ w∈ws,w∈Wd.allW kn nn)∧ws.Nodup∧ws≠[]∧∃ cut,cut<ws.length∧rs=(if 0<cut then [[119,111,114,100,115]::ws.take cut] else [])++[[119,111,114,100,115]::ws.drop cut])
theorem web_in {nn kn:Nat}{ws:List (List Nat)}(hz:SizeD nn kn)(h1:∀ w∈ws,w∈Wd.allW kn nn)(h2:ws.Nodup)(h3:ws≠[]):WebOk ws nn∧ws.length<=30:=by
 have hl:ws.length<=kn ^ nn:=by rw [<- Wd.allW_len];exact Hg.nd_len h2 h1
 have h30:=hz.2.2.2
 refine ⟨⟨h3,by omega,⟨⟨hz.2.1,hz.2.2.1⟩,FewN.len (by omega)⟩,fun x hx=>?_,h2⟩,by omega⟩
 obtain ⟨a,b⟩:=(Wd.mem_allW hz.1.1).mp (h1 x hx)
 exact ⟨a,fun c hc=>by have:=b c hc;have:=hz.1.2;omega⟩
theorem all_nd {k n:Nat}(hk:0<k):(Wd.allW k n).Nodup:=(Wd.allW_sorted hk).imp fun h e=>by subst e;exact List.lt_irrefl _ h
theorem PageOk.words {nn kn:Nat}{rs:List (List (List Nat))}{ws:List (List Nat)}(hz:SizeD nn kn)(h:PageOk nn kn rs ws):(∀ w∈ws,w∈Wd.allW kn nn)∧ws.Nodup∧ws≠[]:=by
 rcases h with ⟨_,rfl⟩ | ⟨h1,h2,h3,_⟩
 ·refine ⟨fun w hw=>hw,all_nd hz.1.1,fun z=>?_⟩
  have:=congrArg List.length z
  rw [Wd.allW_len] at this
  exact absurd this (Nat.ne_of_gt (Nat.pow_pos hz.1.1))
 ·exact ⟨h1,h2,h3⟩
theorem kind_ask {r:List (List Nat)}(h:isAsk r=true):kindOf r=some [97,115,107]:=by
 unfold kindOf
 rw [if_pos h]
theorem rep_form:∀ {us:List (List Nat)},(∀ u∈us,formOf u=[116])->(us.map formOf).flatten=Wd.rep us.length [116]
 | [],_=>rfl
 | u::us,h=>by
  rw [List.map_cons,List.flatten_cons,List.length_cons,Wd.rep_succ,h u (List.mem_cons_self ..),rep_form fun x hx=>h x (List.mem_cons_of_mem _ hx)]
theorem rep_ln (n:Nat):(Wd.rep n [116]).length=n:=by
 induction n with
 | zero=>rfl
 | succ n ih=>rw [Wd.rep_succ,List.length_append,ih,List.length_singleton,Nat.add_comm]
theorem kind_words {us:List (List Nat)}(h0:us≠[])(h:∀ u∈us,formOf u=[116]):kindOf ([119,111,114,100,115]::us)=some [119,111,114,100,115]:=by
 have hf:rowForm ([119,111,114,100,115]::us)=Wd.rep us.length [116]:=rep_form h
 have ha:isAsk ([119,111,114,100,115]::us)=false:=rfl
 unfold kindOf
 rw [ha,hf,if_neg Bool.false_ne_true,if_neg (fun z=>by cases z.1),if_neg (fun z=>by cases z.1),if_pos]
 refine ⟨rfl,fun z=>h0 (List.length_eq_zero_iff.mp ?_),?_⟩
 ·have:=congrArg List.length z
  rwa [rep_ln] at this
 ·rw [rep_ln]
theorem kind_bar {t:List Nat}(h:formOf t=[116]):kindOf (barRow t)=some [98,97,114]:=by
 have hf:rowForm (barRow t)=[116]:=by
  show (([t].map formOf).flatten)=_
  rw [List.map_cons,h]
  rfl
 have ha:isAsk (barRow t)=false:=rfl
 unfold kindOf
 rw [ha,hf,if_neg Bool.false_ne_true,if_neg (fun z=>by cases z.1),if_pos ⟨rfl,rfl⟩]
theorem kind_all {a b:List Nat}(h1:formOf a=[110])(h2:formOf b=[110]):kindOf [[97,108,108],a,b]=some [97,108,108]:=by
 have hf:rowForm [[97,108,108],a,b]=[110,110]:=by
  show (([a,b].map formOf).flatten)=_
  rw [List.map_cons,List.map_cons,h1,h2]
  rfl
 have ha:isAsk [[97,108,108],a,b]=false:=rfl
 unfold kindOf
 rw [ha,hf,if_neg Bool.false_ne_true,if_pos ⟨rfl,rfl⟩]
theorem chain_cons {a k:List Nat}{r:List (List Nat)}{rs:List (List (List Nat))}(hk:kindOf r=some k)(hm:a∈(tabAt k aheadD).getD [])(h:chain k rs=true):chain a (r::rs)=true:=by
 unfold chain
 rw [hk]
 dsimp only
 rw [decide_eq_true hm,h]
 rfl
def aks:List (List Nat):=[[97,108,108],[119,111,114,100,115],[98,97,114],[97,115,107]]
theorem chain_asks:∀ {rs:List (List (List Nat))} {a:List Nat},(∀ r∈rs,isAsk r=true)->a∈aks->chain a rs=true
 | [],_,_,_=>rfl
 | r::rs,a,h,ha=>chain_cons (kind_ask (h r (List.mem_cons_self ..))) ha (chain_asks (fun x hx=>h x (List.mem_cons_of_mem _ hx)) (by decide))
theorem chain_bars {as:List (List (List Nat))}(hq:∀ r∈as,isAsk r=true):∀ {tb:List (List Nat)} {a:List Nat},(∀ t∈tb,BarT t)->a∈aks.take 3->chain a (tb.map barRow++as)=true
 | [],a,_,ha=>chain_asks hq (List.mem_of_mem_take ha)
 | t::tb,a,h,ha=>by
  obtain ⟨h0,h1,h2⟩:=h t (List.mem_cons_self ..)
  exact chain_cons (kind_bar (txt_form h0 (by omega) h2)) ha (chain_bars hq (fun x hx=>h x (List.mem_cons_of_mem _ hx)) (by decide))
theorem ask_head {r:List (List Nat)}(h:isAsk r=true):(tabAt (r.headD []) asksD).isSome=true:=by
 unfold isAsk at h
 split at h
 ·rename_i e
  rw [e]
  rfl
 ·cases h
theorem ask_not {r:List (List Nat)}(h:isAsk r=true){k:List Nat}(hk:tabAt k asksD=none):r.headD []≠k:=fun z=>by
 have:=ask_head h
 rw [z,hk] at this
 cases this
theorem fl_none {α:Type}{p:α->Bool}:∀ {l:List α},(∀ x∈l,p x=false)->l.filter p=[]
 | [],_=>rfl
 | x::l,h=>by rw [List.filter_cons,h x (List.mem_cons_self ..),if_neg Bool.false_ne_true,fl_none fun y hy=>h y (List.mem_cons_of_mem _ hy)]
theorem fl_all {α:Type}{p:α->Bool}{l:List α}(h:∀ x∈l,p x=true):l.filter p=l:=List.filter_eq_self.mpr h
theorem jn_len (g:List Nat):∀ ls:List (List Nat),(jnS g ls).length<=ls.flatten.length+ls.length*g.length
 | []=>Nat.zero_le _
 | [l]=>by show l.length<=_;rw [List.flatten_cons,List.length_append];omega
 | l::m::r=>by
  have ih:=jn_len g (m::r)
  show (l++g++jnS g (m::r)).length<=_
  rw [List.length_append,List.length_append,List.flatten_cons,List.length_append,List.length_cons (a:=l),Nat.succ_mul]
  omega
def RowS (r:List (List Nat)):Prop:=r≠[]∧r.length<=31∧r.flatten.length+r.length<=400∧∀ x∈r,x.length<=60∧10∉x∧32∉x
theorem rowS_of {r:List (List Nat)}{n:Nat}(h0:r≠[])(h1:r.length<=31)(hn:r.length*n+r.length<=400)(h60:n<=60)(h:∀ x∈r,x.length<=n∧10∉x∧32∉x):RowS r:=by
 have:=flat_le (ls:=r) (n:=n) fun x hx=>(h x hx).1
 exact ⟨h0,h1,by omega,fun x hx=>⟨by have:=(h x hx).1;omega,(h x hx).2⟩⟩
theorem let_ok {w:List Nat}(h:∀ c∈w,97<=c∧c<103):10∉w∧32∉w:=⟨fun z=>by have:=h 10 z;omega,fun z=>by have:=h 32 z;omega⟩
theorem bar_row {t:List Nat}(h:BarT t):RowS (barRow t):=rowS_of (n:=3) (fun z=>by cases z) (by show 2<=31;decide) (by show 2*3+2<=400;decide) (by decide) (al_cons (by decide) (al_cons ⟨h.2.1,let_ok h.2.2⟩ al_nil))
theorem ask_row {r:List (List Nat)}(h:AskOk r):RowS r:=by
 obtain ⟨_,h1,h2,h3⟩:=h
 have:r.length*60<=5*60:=Nat.mul_le_mul_right _ h2
 exact rowS_of h1 (by omega) (by omega) (Nat.le_refl _) h3
theorem words_row {us:List (List Nat)}{n:Nat}(hn:n<=8)(hl:us.length<=30)(h:∀ x∈us,x.length=n∧∀ c∈x,97<=c∧c<103):RowS ([119,111,114,100,115]::us):=by
 refine rowS_of (n:=8) (fun z=>by cases z) (by rw [List.length_cons];omega) (by rw [List.length_cons];omega) (by decide) (al_cons (by decide) fun x hx=>⟨?_,let_ok (h x hx).2⟩)
 have:=(h x hx).1
 omega
theorem dg_ok {m:Nat}(h:m<10 ^ 1):(dgI (m:Nat)).length<=8∧10∉dgI (m:Nat)∧32∉dgI (m:Nat):=⟨by have:=dg_len (k:=0) h;omega,fun z=>by have:=dg_all m 10 z;omega,fun z=>by have:=dg_all m 32 z;omega⟩
theorem words_fm {us:List (List Nat)}{n:Nat}(hn:1<=n∧n<=8)(h:∀ x∈us,x.length=n∧∀ c∈x,97<=c∧c<103):∀ u∈us,formOf u=[116]:=fun u hu=>txt_form (fun z=>by have:=(h u hu).1;rw [z] at this;simp at this;omega) (by have:=(h u hu).1;omega) (h u hu).2
theorem page_read {nn kn:Nat}{rs:List (List (List Nat))}{ws tb:List (List Nat)}{asks:List (List (List Nat))}(hz:SizeD nn kn)(hp:PageOk nn kn rs ws)(hb:∀ t∈tb,BarT t)(hbl:tb.length<=2)(hne:noBar tb ws≠[])(ha:∀ r∈asks,AskOk r)(hal:asks.length<=63) :
  let RS:=rs++tb.map barRow++asks
  let t:=jnS [10] (RS.map (jnS [32]))
  pageRows t=RS∧(∀ r∈RS,RowS r)∧RS.length<=70∧(RS.map (jnS [32])).flatten.length<=30000∧t.length<=100000∧RowsOk RS∧chain [116,111,112] RS=true∧Told RS ws∧ws.length<=30∧keptW RS ws=noBar tb ws∧WebOk (noBar tb ws) nn∧asksOf RS=asks:=by
 intro RS t
 obtain ⟨w1,w2,w3⟩:=hp.words hz
 obtain ⟨hok,h30⟩:=web_in hz w1 w2 w3
 obtain ⟨_,_,⟨hn,_⟩,hlt,_⟩:=id hok
 have hfm:=words_fm hn hlt
 have hrs:(∀ r∈rs,RowS r)∧rs.length<=2∧rs≠[]:=by
  rcases hp with ⟨rfl,_⟩ | ⟨_,_,_,cut,hc,rfl⟩
  ·refine ⟨al_cons ?_ al_nil,(by show 1<=2;decide),fun z=>by cases z⟩
   exact rowS_of (n:=8) (fun z=>by cases z) (by show 3<=31;decide) (by show 3*8+3<=400;decide) (by decide) (al_cons (by decide) (al_cons (dg_ok (by have:=hz.2.2.1;omega)) (al_cons (dg_ok (by have:=hz.1.2;omega)) al_nil)))
  ·have r1:RowS ([119,111,114,100,115]::ws.take cut):=words_row hn.2 (by rw [List.length_take];omega) fun x hx=>hlt x (List.mem_of_mem_take hx)
   have r2:RowS ([119,111,114,100,115]::ws.drop cut):=words_row hn.2 (by rw [List.length_drop];omega) fun x hx=>hlt x (List.mem_of_mem_drop hx)
   split
   ·exact ⟨al_cons r1 (al_cons r2 al_nil),Nat.le_refl _,fun z=>by cases z⟩
   ·exact ⟨al_cons r2 al_nil,(by show 1<=2;decide),fun z=>by cases z⟩
 have hRS:∀ r∈RS,RowS r:=fun r hr=>by
  rcases List.mem_append.mp hr with hr | hr
  ·rcases List.mem_append.mp hr with hr | hr
   ·exact hrs.1 r hr
   ·obtain ⟨t,ht,rfl⟩:=List.mem_map.mp hr
    exact bar_row (hb t ht)
  ·exact ask_row (ha r hr)
 have hRl:RS.length<=70:=by
  show (rs++tb.map barRow++asks).length<=70
  rw [List.length_append,List.length_append,List.length_map]
  have:=hrs.2.1
  omega
 have hRn:RS≠[]:=fun z=>hrs.2.2 (List.append_eq_nil_iff.mp (List.append_eq_nil_iff.mp z).1).1
 have hpr:pageRows t=RS:=rows_jn hRn fun r hr=>⟨(hRS r hr).1,fun x hx=>((hRS r hr).2.2.2 x hx).2⟩
 have hfl:(RS.map (jnS [32])).flatten.length<=30000:=by
  have:=flat_le (ls:=RS.map (jnS [32])) (n:=400) fun x hx=>by
   obtain ⟨r,hr,rfl⟩:=List.mem_map.mp hx
   have h1:=jn_len [32] r
   have h2:=(hRS r hr).2.2.1
   have:r.length*[32].length=r.length:=Nat.mul_one _
   omega
  rw [List.length_map] at this
  omega
 have htl:t.length<=100000:=by
  have h1:=jn_len [10] (RS.map (jnS [32]))
  rw [List.length_map,show RS.length*[10].length=RS.length from Nat.mul_one _] at h1
  show (jnS [10] (RS.map (jnS [32]))).length<=100000
  omega
 have hask:∀ r∈asks,isAsk r=true:=fun r hr=>(ha r hr).1
 have hTa:toldW asks=[]:=by
  unfold toldW
  rw [fl_none fun r hr=>decide_eq_false (ask_not (hask r hr) rfl)]
  rfl
 have hTb:toldW (tb.map barRow)=[]:=by
  unfold toldW
  rw [fl_none fun r hr=>by obtain ⟨t,_,rfl⟩:=List.mem_map.mp hr;rfl]
  rfl
 have hTapp:∀ a b,toldW (a++b)=toldW a++toldW b:=fun a b=>by
  unfold toldW
  rw [List.filter_append,List.flatMap_append]
 have hTR:toldW RS=toldW rs:=by
  show toldW (rs++tb.map barRow++asks)=_
  rw [hTapp,hTapp,hTa,hTb,List.append_nil,List.append_nil]
 have hBR:barsOf RS=tb:=by
  show barsOf (rs++tb.map barRow++asks)=_
  have b1:rs.filter (fun r=>decide (r.headD []=[98,97,114]))=[]:=fl_none fun r hr=>by
   rcases hp with ⟨rfl,_⟩ | ⟨_,_,_,cut,hc,rfl⟩
   ·obtain rfl:=List.mem_singleton.mp hr
    rfl
   ·split at hr
    ·rcases List.mem_cons.mp hr with rfl | hr
     ·rfl
     ·obtain rfl:=List.mem_singleton.mp hr
      rfl
    ·obtain rfl:=List.mem_singleton.mp hr
     rfl
  unfold barsOf
  rw [List.filter_append,List.filter_append,b1,fl_none fun r hr=>decide_eq_false (ask_not (hask r hr) rfl),fl_all fun r hr=>by obtain ⟨t,_,rfl⟩:=List.mem_map.mp hr;rfl,List.append_nil,List.nil_append,List.map_map]
  exact List.map_id' _
 have hAR:asksOf RS=asks:=by
  show asksOf (rs++tb.map barRow++asks)=_
  have b1:rs.filter (fun r=>(tabAt (r.headD []) asksD).isSome)=[]:=fl_none fun r hr=>by
   rcases hp with ⟨rfl,_⟩ | ⟨_,_,_,cut,hc,rfl⟩
   ·obtain rfl:=List.mem_singleton.mp hr
    rfl
   ·split at hr
    ·rcases List.mem_cons.mp hr with rfl | hr
     ·rfl
     ·obtain rfl:=List.mem_singleton.mp hr
      rfl
    ·obtain rfl:=List.mem_singleton.mp hr
     rfl
  unfold asksOf
  rw [List.filter_append,List.filter_append,b1,fl_all fun r hr=>ask_head (hask r hr),fl_none fun r hr=>by obtain ⟨t,_,rfl⟩:=List.mem_map.mp hr;rfl]
  rfl
 have hch:chain [116,111,112] RS=true:=by
  show chain [116,111,112] (rs++tb.map barRow++asks)=true
  rw [List.append_assoc]
  have hcb:∀ {a:List Nat},a∈aks.take 3->chain a (tb.map barRow++asks)=true:=fun h=>chain_bars hask hb h
  rcases hp with ⟨rfl,_⟩ | ⟨_,_,_,cut,hc,rfl⟩
  ·exact chain_cons (kind_all (num_form (Nat.lt_of_lt_of_le (show nn<10 by have:=hz.2.2.1;omega) (by decide))) (num_form (Nat.lt_of_lt_of_le (show kn<10 by have:=hz.1.2;omega) (by decide)))) (by decide) (hcb (by decide))
  ·have k2:kindOf ([119,111,114,100,115]::ws.drop cut)=some _:=kind_words (fun z=>by have:=congrArg List.length z;rw [List.length_drop,List.length_nil] at this;omega) fun u hu=>hfm u (List.mem_of_mem_drop hu)
   split
   ·rename_i h0
    have k1:kindOf ([119,111,114,100,115]::ws.take cut)=some _:=kind_words (fun z=>by have:=congrArg List.length z;rw [List.length_take,List.length_nil] at this;omega) fun u hu=>hfm u (List.mem_of_mem_take hu)
    exact chain_cons k1 (by decide) (chain_cons k2 (by decide) (hcb (by decide)))
   ·exact chain_cons k2 (by decide) (hcb (by decide))
 have htd:Told RS ws:=by
  rcases id hp with ⟨rfl,rfl⟩ | ⟨_,_,_,cut,hc,e⟩
  ·have l1:=dg_len (k:=0) (m:=nn) (by have:=hz.2.2.1;omega)
   have l2:=dg_len (k:=0) (m:=kn) (by have:=hz.1.2;omega)
   exact .inl ⟨_,_,nn,kn,rfl,⟨by omega,by omega⟩,dg_read (by omega) (by have:=hz.2.2.1;omega),dg_read (by omega) (by have:=hz.1.2;omega),hz.1,⟨hz.2.1,hz.2.2.1⟩,by have:=hz.2.2.2;omega,rfl⟩
  ·have e2:toldW rs=ws:=by
    rw [e]
    split
    ·show toldW [_,_]=_
     unfold toldW
     rw [fl_all (l:=[_,_]) (al_cons rfl (al_cons rfl al_nil))]
     show ws.take cut++(ws.drop cut++[])=ws
     rw [List.append_nil,List.take_append_drop]
    ·rename_i h0
     obtain rfl:cut=0:=by omega
     show toldW [_]=_
     unfold toldW
     rw [fl_all (l:=[_]) (al_cons rfl al_nil)]
     show ws.drop 0++[]=ws
     rw [List.append_nil]
     rfl
   refine .inr ⟨?_,by rw [hTR,e2];omega,by rw [hTR,e2]⟩
   show ((rs++tb.map barRow++asks).headD []).headD []≠_
   rw [e]
   split <;> exact fun z=>by cases z
 refine ⟨hpr,hRS,hRl,hfl,htl,⟨by omega,fun r hr=>⟨(hRS r hr).1,by have:=(hRS r hr).2.1;omega,fun x hx=>by have:=((hRS r hr).2.2.2 x hx).1;omega⟩⟩,hch,htd,h30,?_,?_,hAR⟩
 ·unfold keptW noBar
  rw [hBR]
 ·exact (web_in hz (fun w hw=>w1 w (List.mem_filter.mp hw).1) (List.Pairwise.filter _ w2) hne).1
inductive FA where
 | pc (f:List Nat) (k pl mn:Nat)
 | ps (f:List Nat) (k:Nat) (w:List Nat)
def FA.row:FA->List (List Nat)
 | .pc f k pl mn=>[[112,105,101,99,101],f,dgI (k:Nat),dgI (pl:Nat),dgI (mn:Nat)]
 | .ps f k w=>[[112,108,97,99,101],f,dgI (k:Nat),w]
def LetT (f:List Nat):Prop:=1<=f.length∧f.length<=30∧∀ c∈f,97<=c∧c<103
def FA.Ok:FA->Prop
 | .pc f k pl mn=>LetT f∧k<10 ^ 60∧pl<10 ^ 60∧mn<10 ^ 60
 | .ps f k w=>LetT f∧k<10 ^ 60∧LetT w
def cIf (p:Prop)(a b:Nat):Nat:=@ite _ p (Classical.propDecidable p) a b
theorem cIf_pos {p:Prop}{a b:Nat}(h:p):cIf p a b=a:=@if_pos p (Classical.propDecidable p) h _ a b
theorem cIf_neg {p:Prop}{a b:Nat}(h:¬ p):cIf p a b=b:=@if_neg p (Classical.propDecidable p) h _ a b
def FA.code:FA->Nat
 | .pc f k _ mn=>cIf (¬ (1<=k∧k<=6)) 1 (cIf (¬ FirstOk f k) 2 (cIf (200<mn) 3 0))
 | .ps f k w=>cIf (¬ (1<=k∧k<=6)) 1 (cIf (¬ FirstOk f k) 2 (cIf (¬ (Good w k∧w.length=f.length)) 2 (cIf (Wd.least w<f) 4 0)))
def FA.val:FA->List Nat
 | .pc f k pl mn=>Wd.ringAt (Wd.ringF k f) mn (pl % (Wd.ringF k f).length)
 | .ps f k w=>dgI ((Classical.epsilon fun i:Nat=>Wd.At (Wd.ringF k f) f.length w i:Nat):Int)
def FA.ans (q:FA):List Nat:=match q.code with
 | 0=>q.val
 | 1=>[114,101,102,117,115,101,100,32,66,97,100,75,105,110,100,115]
 | 2=>[114,101,102,117,115,101,100,32,66,97,100,87,111,114,100]
 | 3=>[114,101,102,117,115,101,100,32,84,111,111,77,97,110,121]
 | _=>[114,101,102,117,115,101,100,32,78,111,83,117,99,104]
open PySem.NumText in
theorem dg_back {m:Nat}(h:m<10 ^ 60):PySem.intText? (tx (dgI (m:Nat)))=some ((m:Nat):Int)∧(dgI (m:Nat)).length<=640:=by
 have hl:=dg_len (k:=59) h
 have hc:(tx (dgI (m:Nat))).cps.toList=dgI (m:Nat):=by rw [tx_cps]
 have e:=intText_digits (x:=tx (dgI (m:Nat))) (by rw [hc];exact dg_all m) (by rw [hc];exact dg_ne m) (by rw [tx_len];omega)
 rw [hc,dg_nat,PySem.W.KIN.val_back] at e
 exact ⟨by rw [dg_nat];exact e,by omega⟩
theorem lw_of {f:List Nat}{k:Nat}(hk:1<=k∧k<=6)(h:FirstOk f k):Wd.LW k f.length f∧(1<=f.length∧f.length<=24):=by
 obtain ⟨⟨h1,h2⟩,h3⟩:=h
 exact ⟨⟨rfl,h2,h3⟩,h1⟩
theorem val_at {f w:List Nat}{k i:Nat}(hk:1<=k∧k<=6)(h:FirstOk f k)(hi:Wd.At (Wd.ringF k f) f.length w i):FA.val (.ps f k w)=dgI (i:Nat)∧i.log2<1920:=by
 obtain ⟨hl,hn⟩:=lw_of hk h
 have he:=Classical.epsilon_spec (p:=fun i:Nat=>Wd.At (Wd.ringF k f) f.length w i) ⟨i,hi⟩
 have e:=Wd.ringF_uniq (by omega) (by omega) hl he hi
 refine ⟨by show dgI _=_;rw [e],?_⟩
 have h1:=hi.lt
 have h2:=(Wd.ringF_len (by omega) (by omega) hl).1
 have h3:k ^ f.length<=6 ^ 24:=Nat.le_trans (Nat.pow_le_pow_left hk.2 _) (Nat.pow_le_pow_right (by decide) hn.2)
 by_cases h0:i=0
 ·rw [h0];decide
 ·exact (Nat.log2_lt h0).mpr (Nat.lt_of_lt_of_le (show i<6 ^ 24 by omega) (Nat.le_trans (show 6 ^ 24<=2 ^ 63 by decide) (Nat.pow_le_pow_right (by decide) (by decide))))
def Ref4 (ad:Adr)(E:XK)(H:Hp)(o:Nat):Prop:=(o=1->∀ H',Same H H'->E (.ref ad.BadKinds) none H')∧(o=2->∀ H',Same H H'->E (.ref ad.BadWord) none H')∧(o=3->∀ H',Same H H'->E (.ref ad.TooMany) none H')∧(o=4->∀ H',Same H H'->E (.ref ad.NoSuch) none H')
theorem pc_use {f:List Nat}{k pl mn:Nat}{H:Hp}{Q:VK}{E:XK}(h:FA.Ok (.pc f k pl mn))(he:Ref4 ad E H (FA.code (.pc f k pl mn)))(hq:FA.code (.pc f k pl mn)=0->∀ H',Same H H'->Q (T (FA.val (.pc f k pl mn))) H'):spPiece ad [T f,.int (k:Nat),.int (pl:Nat),.int (mn:Nat)] H Q E:=by
 obtain ⟨⟨_,h1,_⟩,_⟩:=h
 unfold FA.code at he hq
 dsimp only at he hq
 refine ⟨f,k,pl,mn,rfl,(by omega),fun z=>?_,fun kn ek hk=>?_⟩
 ·rw [cIf_pos (show ¬ (1<=k∧k<=6) from fun y=>z ⟨by omega,by omega⟩)] at he
  exact he.1 rfl H (Same.refl _)
 obtain rfl:k=kn:=by omega
 rw [cIf_neg (fun y=>y hk)] at he hq
 refine ⟨fun hf=>?_,fun hf=>?_⟩
 ·rw [cIf_pos hf] at he
  exact he.2.1 rfl H (Same.refl _)
 rw [cIf_neg (fun y=>y hf)] at he hq
 refine ⟨fun hm H' s'=>?_,fun hm=>absurd hm (by omega),fun many i em hm ei H' s'=>?_⟩
 ·rw [cIf_pos (by omega)] at he
  exact he.2.2.1 rfl H' s'
 ·obtain rfl:mn=many:=by omega
  rw [cIf_neg (by omega)] at hq
  have:i=pl % (Wd.ringF k f).length:=by
   rw [<- Int.natCast_emod] at ei
   omega
  rw [this]
  exact hq rfl H' s'
theorem pl_use {f w:List Nat}{k:Nat}{H:Hp}{Q:VK}{E:XK}(h:FA.Ok (.ps f k w))(he:Ref4 ad E H (FA.code (.ps f k w)))(hq:FA.code (.ps f k w)=0->∀ (i:Nat) H',i.log2<1920->dgI (i:Nat)=FA.val (.ps f k w)->Same H H'->Q (.int (i:Nat)) H'):spPlace ad [T f,.int (k:Nat),T w] H Q E:=by
 obtain ⟨⟨_,h1,_⟩,_,⟨_,h2,_⟩⟩:=h
 unfold FA.code at he hq
 dsimp only at he hq
 refine ⟨f,w,k,rfl,(by omega),(by omega),fun z=>?_,fun kn ek hk=>?_⟩
 ·rw [cIf_pos (show ¬ (1<=k∧k<=6) from fun y=>z ⟨by omega,by omega⟩)] at he
  exact he.1 rfl H (Same.refl _)
 obtain rfl:k=kn:=by omega
 rw [cIf_neg (fun y=>y hk)] at he hq
 refine ⟨fun hf=>?_,fun hf=>?_⟩
 ·rw [cIf_pos hf] at he
  exact he.2.1 rfl H (Same.refl _)
 rw [cIf_neg (fun y=>y hf)] at he hq
 refine ⟨fun hg=>?_,fun hg=>?_⟩
 ·rw [cIf_pos hg] at he
  exact he.2.1 rfl H (Same.refl _)
 rw [cIf_neg (fun y=>y hg)] at he hq
 refine ⟨fun hm=>?_,fun hm i H' hi s'=>?_⟩
 ·rw [cIf_pos hm] at he
  exact he.2.2.2 rfl H (Same.refl _)
 ·rw [cIf_neg hm] at hq
  obtain ⟨e1,e2⟩:=val_at hk hf hi
  exact hq rfl i H' e2 e1.symm s'
def spFarT (K:PySem.W.Frag)(ad:Adr):Sp:=fun vs H Q E=>∃ (p:Addr) (q:FA),vs=[.ref p]∧SqT K H p (q.row.map T)∧q.Ok∧Ref4 ad E H q.code∧(q.code=0->∀ H',Same H H'->Q (T q.val) H')
theorem ok_far_told {f:Addr}{fd:FuncData}(F:Fun K "far_told" "far_told" s_far_told f fd)(tt:Txt K mg ad)(C_place_of:Cal P w K mg base (CX1 P w) "place_of" 8 ["first", "kinds", "word"] (spPlace ad))(C_piece_at:Cal P w K mg base (CX1 P w) "piece_at" 9 ["first", "kinds", "place", "many"] (spPiece ad)):FnOk P w K mg base (CX1 P w) 10 f fd ["ask"] (spFarT K ad):=by
 refine F.okX sc_far_told (fun vs H Q E h=>?_) (fun cdv A outer s H vs Q E hr h=>?_)
 ·obtain ⟨p,q,rfl,_⟩:=h
  rfl
 ·obtain ⟨p,q,rfl,hS,hok,he,hq⟩:=h
  refine ⟨_,(pss_cons (ps_set (i:=1) sc_far_told.nd rfl (Or.inl rfl) (pe_callTy call_intT (by rfl) tt.b_int (by decide +kernel) (pa_cons (pe_ix ix_tup (pv 0) pe_int (fun _ _=>rfl)) pa_nil)))
   (pss_cons (ps_if (pt_cmpR op_eq_T (pe_ix ix_tup (pv 0) pe_int (fun _ _=>rfl)) (pe_strT [112,108,97,99,101] (by decide +kernel)) (nomark _)) (pss_one (ps_ret (pe_callTy call_strI (by rfl) tt.b_str (by decide +kernel) (pa_cons (pe_cal C_place_of hr passX (pa_cons (pe_ix ix_tup (pv 0) pe_int (fun _ _=>rfl)) (pa_cons (pv 1) (pa_cons (pe_ix ix_tup (pv 0) pe_int (fun _ _=>rfl)) pa_nil)))) pa_nil)))) pss_nil)
   (pss_one (ps_ret (pe_cal C_piece_at hr passX (pa_cons (pe_ix ix_tup (pv 0) pe_int (fun _ _=>rfl)) (pa_cons (pv 1) (pa_cons (pe_callTy call_intT (by rfl) tt.b_int (by decide +kernel) (pa_cons (pe_ix ix_tup (pv 0) pe_int (fun _ _=>rfl)) pa_nil)) (pa_cons (pe_callTy call_intT (by rfl) tt.b_int (by decide +kernel) (pa_cons (pe_ix ix_tup (pv 0) pe_int (fun _ _=>rfl)) pa_nil)) pa_nil))))))))),?_⟩
  (try rw [cxK2]);(try rw [cxK1])
  cases q with
  | pc f k pl mn =>
   obtain ⟨b1,b2⟩:=dg_back hok.2.1
   obtain ⟨c1,c2⟩:=dg_back hok.2.2.1
   obtain ⟨d1,d2⟩:=dg_back hok.2.2.2
   refine ⟨_,rfl,p,_,_,T (dgI (k:Nat)),rfl,rfl,hS,atI_nat (j:=2) rfl,_,_,rfl,b2,b1,?_⟩
   refine ⟨_,rfl,p,_,_,T [112,105,101,99,101],rfl,rfl,hS,atI_nat (j:=0) rfl,_,rfl,_,rfl,_,rfl,itN (by decide) ?_⟩
   exact ⟨_,rfl,p,_,_,T f,rfl,rfl,hS,atI_nat (j:=1) rfl,_,rfl,_,rfl,p,_,_,T (dgI (pl:Nat)),rfl,rfl,hS,atI_nat (j:=3) rfl,_,_,rfl,c2,c1,_,rfl,p,_,_,T (dgI (mn:Nat)),rfl,rfl,hS,atI_nat (j:=4) rfl,_,_,rfl,d2,d1,pc_use hok he hq⟩
  | ps f k w =>
   obtain ⟨b1,b2⟩:=dg_back hok.2.1
   refine ⟨_,rfl,p,_,_,T (dgI (k:Nat)),rfl,rfl,hS,atI_nat (j:=2) rfl,_,_,rfl,b2,b1,?_⟩
   refine ⟨_,rfl,p,_,_,T [112,108,97,99,101],rfl,rfl,hS,atI_nat (j:=0) rfl,_,rfl,_,rfl,_,rfl,itP (by decide) ?_⟩
   refine ⟨_,rfl,p,_,_,T f,rfl,rfl,hS,atI_nat (j:=1) rfl,_,rfl,_,rfl,p,_,_,T w,rfl,rfl,hS,atI_nat (j:=3) rfl,pl_use (Q:=fun x H1=>∃ a:Int,[x]=[V.int a]∧a.natAbs.log2<1920∧Q (T (dgI a)) H1) hok he fun h0 i H' hl e s'=>⟨_,rfl,hl,?_⟩⟩
   rw [e]
   exact hq h0 H' s'
def spFarA (K:PySem.W.Frag):Sp:=fun vs H Q _=>∃ (p:Addr) (q:FA),vs=[.ref p]∧SqT K H p (q.row.map T)∧q.Ok∧∀ H',Same H H'->Q (T q.ans) H'
theorem ok_far_or_refused {f:Addr}{fd:FuncData}(F:Fun K "far_or_refused" "far_or_refused" s_far_or_refused f fd)(tt:Txt K mg ad)(C_far_told:Cal P w K mg base (CX1 P w) "far_told" 10 ["ask"] (spFarT K ad)):FnOk P w K mg base (CX1 P w) 11 f fd ["ask"] (spFarA K):=by
 refine F.okX sc_far_or_refused (fun vs H Q E h=>?_) (fun cdv A outer s H vs Q E hr h=>?_)
 ·obtain ⟨p,q,rfl,_⟩:=h
  rfl
 ·obtain ⟨p,q,rfl,hS,hok,hq⟩:=h
  refine ⟨_,(pss_one (ps_try ownX (py_ret (pex_cal C_far_told hr (pa_cons (pv 0) pa_nil))) (ph_plain tt.m_BadKinds (fun a=>(pss_one (ps_ret (pe_strT [114,101,102,117,115,101,100,32,66,97,100,75,105,110,100,115] (by decide +kernel))))) (ph_plain tt.m_BadWord (fun a=>(pss_one (ps_ret (pe_strT [114,101,102,117,115,101,100,32,66,97,100,87,111,114,100] (by decide +kernel))))) (ph_plain tt.m_TooMany (fun a=>(pss_one (ps_ret (pe_strT [114,101,102,117,115,101,100,32,84,111,111,77,97,110,121] (by decide +kernel))))) (ph_plain tt.m_NoSuch (fun a=>(pss_one (ps_ret (pe_strT [114,101,102,117,115,101,100,32,78,111,83,117,99,104] (by decide +kernel))))) ph_nil)))))),?_⟩
  (try rw [cxK2]);(try rw [cxK1])
  unfold FA.ans at hq
  refine ⟨_,rfl,p,q,rfl,hS,hok,⟨fun h0 H' s'=>?_,fun h0 H' s'=>?_,fun h0 H' s'=>?_,fun h0 H' s'=>?_⟩,fun h0 H' s'=>?_⟩
  all_goals rw [h0] at hq
  ·exact .inl ⟨tt.e_KK,hq _ s'⟩
  ·exact .inr ⟨tt.e_WK,.inl ⟨tt.e_WW,hq _ s'⟩⟩
  ·exact .inr ⟨tt.e_MK,.inr ⟨tt.e_MW,.inl ⟨tt.e_MM,hq _ s'⟩⟩⟩
  ·exact .inr ⟨tt.e_SK,.inr ⟨tt.e_SW,.inr ⟨tt.e_SM,.inl ⟨tt.e_SS,hq _ s'⟩⟩⟩⟩
  ·exact hq _ s'
theorem if_join2 {c:Prop}[Decidable c]{A:Prop}{N:St->Hp->Prop}{σ:St}{G1:Hp}(S:St->Hp->Prop)(h1:∀ σ G,S σ G->N σ G)(hA:c->(∀ σ G,S σ G->N σ G)->A)(hB:¬ c->S σ G1):if c then A else N σ G1:=by
 by_cases h:c
 ·rw [if_pos h];exact hA h h1
 ·rw [if_neg h];exact h1 _ _ (hB h)
theorem next_of {D:Ends}{σ:St}{H:Hp}(h:D.nx σ H):tNext D σ H:=h
theorem seq_of {a b:TS}{D:Ends}{σ:St}{H:Hp}(h:a { D with nx:=b D } σ H):tSeq a b D σ H:=h
theorem if_of {c:TT}{t u:TS}{D:Ends}{σ:St}{H:Hp}(h:c σ H fun b H1=>if b=true then t D σ H1 else u D σ H1):tIfS c t u D σ H:=h
def spAnsd (K:PySem.W.Frag):Sp:=fun vs H Q _=>∃ (v:V) (p:Addr) (q:FA),vs=[v,.ref p]∧SqT K H p (q.row.map T)∧q.Ok∧∀ H',Same H H'->Q (T q.ans) H'
theorem ok_answered {f:Addr}{fd:FuncData}(F:Fun K "answered" "answered" s_answered f fd)(tt:Txt K mg ad)(C_far_or_refused:Cal P w K mg base (CX1 P w) "far_or_refused" 11 ["ask"] (spFarA K)):FnOk P w K mg base (CX1 P w) 12 f fd ["web", "ask"] (spAnsd K):=by
 refine F.okX sc_answered (fun vs H Q E h=>?_) (fun cdv A outer s H vs Q E hr h=>?_)
 ·obtain ⟨v,p,q,rfl,_⟩:=h
  rfl
 ·obtain ⟨v,p,q,rfl,hS,hok,hq⟩:=h
  refine ⟨_,(pss_cons (ps_if (PW.pt (pw_or (pt_cmpR op_eq_T (pe_ix ix_tup (pv 1) pe_int (fun _ _=>rfl)) (pe_strT [112,105,101,99,101] (by decide +kernel)) (nomark _)) (pw_or1 (pt_cmpR op_eq_T (pe_ix ix_tup (pv 1) pe_int (fun _ _=>rfl)) (pe_strT [112,108,97,99,101] (by decide +kernel)) (nomark _))))) (pss_one (ps_ret (pe_cal C_far_or_refused hr pass1 (pa_cons (pv 1) pa_nil)))) pss_nil)
   pss_dead),?_⟩
  (try rw [cxK2]);(try rw [cxK1])
  cases q with
  | pc f k pl mn =>
   refine ⟨_,rfl,p,_,_,T [112,105,101,99,101],rfl,rfl,hS,atI_nat (j:=0) rfl,_,rfl,_,rfl,_,rfl,itP (by decide) (itP rfl ?_)⟩
   exact ⟨_,rfl,p,_,rfl,hS,hok,hq⟩
  | ps f k w =>
   refine ⟨_,rfl,p,_,_,T [112,108,97,99,101],rfl,rfl,hS,atI_nat (j:=0) rfl,_,rfl,_,rfl,_,rfl,itN (by decide) ?_⟩
   refine ⟨_,rfl,p,_,_,T [112,108,97,99,101],rfl,rfl,hS,atI_nat (j:=0) rfl,_,rfl,_,rfl,_,rfl,itP (by decide) ?_⟩
   exact ⟨_,rfl,p,_,rfl,hS,hok,hq⟩
theorem r2_get {α β:Type}{R:α->β->Prop}{as:List α}{bs:List β}(h:Dt.R2 R as bs):∀ {i:Nat} {b:β},bs[i]?=some b->∃ a,as[i]?=some a∧R a b:=by
 induction h with
 | nil=>intro i b hb;cases hb
 | cons a _ ih =>
  intro i b hb
  cases i with
  | zero=>obtain rfl:=Option.some.inj hb;exact ⟨_,rfl,a⟩
  | succ i=>exact ih hb
theorem rng_map {α:Type}(xs:List α)(d:α):(List.range xs.length).map (fun i=>(xs[i]?).getD d)=xs:=by
 apply List.ext_getElem?
 intro i
 rw [List.getElem?_map]
 rcases Nat.lt_or_ge i xs.length with h | h
 ·rw [List.getElem?_range h]
  show some ((xs[i]?).getD d)=xs[i]?
  rw [List.getElem?_eq_getElem h]
  rfl
 ·rw [List.getElem?_eq_none (by rw [List.length_range];exact h),List.getElem?_eq_none h]
  rfl
def spAnswers (K:PySem.W.Frag):Sp:=fun vs H Q _=>∃ (t:List Nat) (ws:List (List Nat)) (n:Nat) (qs:List FA),vs=[T t]∧t.length<=100000∧RowsOk (pageRows t)∧chain [116,111,112] (pageRows t)=true∧Told (pageRows t) ws∧ws.length<=100000∧WebOk (keptW (pageRows t) ws) n∧asksOf (pageRows t)=qs.map FA.row∧(∀ q∈qs,q.Ok)∧qs.length<=1000 ∧
 ∀ (D:Addr) (H':Hp),Same H H'->H' D=some (.lst ((qs.map FA.ans).map T))->Q (.ref D) H'
theorem ok_answers {f:Addr}{fd:FuncData}(F:Fun K "answers" "answers" s_answers f fd)(tt:Txt K mg ad)(C_read_page:Cal P w K mg base (CX1 P w) "read_page" 7 ["text"] (spRead K ad.Web))(C_answered:Cal P w K mg base (CX1 P w) "answered" 12 ["web", "ask"] (spAnsd K)):FnOk P w K mg base (CX1 P w) 13 f fd ["text"] (spAnswers K):=by
 refine F.okX sc_answers (fun vs H Q E h=>?_) (fun cdv A outer s H vs Q E hr h=>?_)
 ·obtain ⟨t,ws,n,qs,rfl,_⟩:=h
  rfl
 ·obtain ⟨t,ws,n,qs,rfl,h1,h2,h3,h4,h5,h6,h7,h8,h9,q⟩:=h
  have hs:sizeLine=16777216:=sizeLine_eq
  refine ⟨_,(pss_cons (ps_set (i:=1) sc_answers.nd rfl (Or.inr rfl) (pe_cal C_read_page hr pass1 (pa_cons (pv 0) pa_nil)))
   (pss_one (ps_ret (pe_comp cs_answers_0 rfl (pi_list (pe_ix (ix_tup_K K rfl) (pv 1) pe_int (fun _ _=>rfl))) (fun cl C s' H' fp=>(pe_cal C_answered hr pass1 (pa_cons (pe_ix (ix_tup_K K rfl) (pv 2) pe_int (fun _ _=>rfl)) (pa_cons (pv 0) pa_nil)))))))),?_⟩
  (try rw [cxK2]);(try rw [cxK1])
  refine ⟨_,rfl,t,ws,n,rfl,h1,h2,h3,h4,h5,h6,fun R x tp D as ms H1 s1 hR hW hpm hpw hD has=>?_⟩
  rw [h7] at has
  have hal:=has.len
  rw [List.length_map] at hal
  refine ⟨_,rfl,R,_,_,.ref D,rfl,rfl,SqT.of hR,rfl,D,rfl,⟨_,SqL.of hD⟩,comp_list (fun i=>T (((qs.map FA.ans)[i]?).getD [])) (SqL.of hD) (by rw [List.length_map];omega) (fun i y H2 hy s2 N hN=>?_) fun D2 H2 hD2 s2 hd2=>?_⟩
  ·rw [List.getElem?_map,Option.map_eq_some_iff] at hy
   obtain ⟨b,hb,rfl⟩:=hy
   obtain ⟨r,hr1,hr2⟩:=r2_get has hb
   rw [List.getElem?_map,Option.map_eq_some_iff] at hr1
   obtain ⟨fa,hfa,rfl⟩:=hr1
   refine ⟨_,rfl,R,_,_,.ref x,rfl,rfl,SqT.of (s2 _ _ hR),rfl,_,rfl,_,b,fa,rfl,SqT.of (s2 _ _ hr2),h8 fa (List.mem_of_getElem? hfa),fun H3 s3=>?_⟩
   have:=hN H3 s3
   rw [List.getElem?_map,hfa] at this
   exact this
  ·refine q D2 H2 (s1.trans s2) ?_
   rw [hd2,List.length_map,<- hal,<- List.length_map (f:=FA.ans) (as:=qs),show (List.range (qs.map FA.ans).length).map (fun i=>T (((qs.map FA.ans)[i]?).getD []))=((List.range (qs.map FA.ans).length).map fun i=>((qs.map FA.ans)[i]?).getD []).map T by rw [List.map_map];rfl,rng_map]
def spLText:Sp:=fun vs H Q _=>∃ (c:Int) (sz kd:Nat),vs=[.int c,.int (sz:Nat),.int (kd:Nat)]∧sz<=30∧(1<=kd∧kd<=6)∧∀ (t:List Nat) (H':Hp),Same H H'->t.length=sz->(∀ c∈t,97<=c∧c<103)->Q (T t) H'
theorem ok__law_text {f:Addr}{fd:FuncData}(F:Fun K "_law_text" "_law_text" s__law_text f fd)(tt:Txt K mg ad)(C__law_stir:Cal P w K mg base (CX1 P w) "_law_stir" 1 ["cell", "k"] spStir):FnOk P w K mg base (CX1 P w) 2 f fd ["n", "size", "kinds"] spLText:=by
 refine F.okX sc__law_text (fun vs H Q E h=>?_) (fun cdv A outer s H vs Q E hr h=>?_)
 ·obtain ⟨c,sz,kd,rfl,_⟩:=h
  rfl
 ·obtain ⟨c,sz,kd,rfl,hsz,hkd,q⟩:=h
  have hs:sizeLine=16777216:=sizeLine_eq
  refine ⟨_,(pss_one (ps_ret (pe_bm PySem.F.plainAttrs_str PySem.F.slot_str_join PySem.F.type_str_join mt_join (pe_strT [] (by decide +kernel)) (pa_cons (pe_comp cs__law_text_0 rfl (pi_range1 (by rfl) tt.b_range (pa_cons (pv 1) pa_nil)) (fun cl C s' H' fp=>(pe_ix ix_T (pe_strT [97,98,99,100,101,102] (by decide +kernel)) (pe_op op_mod (pe_op op_fdiv (pe_cal C__law_stir hr pass1 (pa_cons (pv 1) (pa_cons (pv 0) pa_nil))) pe_int) (pv 3)) (fun _ _=>rfl)))) pa_nil)))),?_⟩
  (try rw [cxK2]);(try rw [cxK1])
  have hsix:∀ z:Int,atI [97,98,99,100,101,102] (z % ((kd:Nat):Int))=some (97+(z % ((kd:Nat):Int)).toNat)∧(z % ((kd:Nat):Int)).toNat<6:=fun z=>by
   obtain ⟨k,ek,hk⟩:=mod_nat z ((kd:Nat):Int) (by omega)
   rw [ek,Int.toNat_natCast]
   have hk6:k<6:=by omega
   clear ek hk
   revert k
   decide
  refine ⟨rfl,_,rfl,_,rfl,by omega,by omega,?_⟩
  rw [Int.toNat_natCast]
  refine comp_range (fun i=>T [97+(stirZ c (i:Nat)/7 % ((kd:Nat):Int)).toNat]) (by omega) (fun i H1 hi s1 N hN=>?_) fun D H1 hD s1 hd=>?_
  ·refine ⟨_,rfl,_,rfl,c,0+(i:Int),rfl,⟨by omega,by omega⟩,_,_,rfl,rfl,⟨by decide,by decide⟩,_,rfl,_,_,rfl,rfl,(by show (0:Int)<((kd:Nat):Int);omega),_,rfl,_,rfl,(by show 6<=sizeLine;omega),_,(hsix _).1,?_⟩
   rw [Int.zero_add]
   exact hN H1 (Same.refl _)
  rw [show (List.range sz).map (fun i=>T [97+(stirZ c (i:Nat)/7 % ((kd:Nat):Int)).toNat])=((List.range sz).map fun i=>[97+(stirZ c (i:Nat)/7 % ((kd:Nat):Int)).toNat]).map T by rw [List.map_map];rfl] at hd
  have htl:(((List.range sz).map fun i=>[97+(stirZ c (i:Nat)/7 % ((kd:Nat):Int)).toNat]).flatten).length=sz:=by
   rw [flatN fun i=>97+(stirZ c (i:Nat)/7 % ((kd:Nat):Int)).toNat,List.length_map,List.length_range]
  refine ⟨rfl,D,_,rfl,SqL.of hd,(by omega),q _ H1 s1 htl fun x hx=>?_⟩
  obtain ⟨l,hl,hx⟩:=List.mem_flatten.mp hx
  obtain ⟨i,_,rfl⟩:=List.mem_map.mp hl
  obtain rfl:=List.mem_singleton.mp hx
  have:=(hsix (stirZ c (i:Nat)/7)).2
  omega
def spLLeast:Sp:=fun vs H Q _=>∃ w:List Nat,vs=[T w]∧LetT w∧∀ (t:List Nat) (H':Hp),Same H H'->t.length=w.length->(∀ c∈t,97<=c∧c<103)->Q (T t) H'
theorem ok__law_least {f:Addr}{fd:FuncData}(F:Fun K "_law_least" "_law_least" s__law_least f fd)(tt:Txt K mg ad):FnOk P w K mg base (CX1 P w) 1 f fd ["word"] spLLeast:=by
 refine F.okN sc__law_least (fun vs H Q E h=>?_) (fun cdv A outer s H vs Q E hr h=>?_)
 ·obtain ⟨w,rfl,_⟩:=h
  rfl
 ·obtain ⟨w,rfl,⟨hw1,hw2,hw3⟩,q⟩:=h
  have hs:sizeLine=16777216:=sizeLine_eq
  refine ⟨_,(pss_one (ps_ret (pe_callB (call_minT rfl) (by rfl) tt.b_min PyProof.Rows.boot_min (pa_cons (pe_comp cs__law_least_0 rfl (pi_range1 (by rfl) tt.b_range (pa_cons (pe_callB call_len_T (by rfl) tt.b_len PySem.boot_len (pa_cons (pv 0) pa_nil)) pa_nil)) (fun cl C s' H' fp=>(pe_op op_add_T (pe_slice sl_T (pv 1) (po_some (pv 0)) po_none) (pe_slice sl_T (pv 1) po_none (po_some (pv 0)))))) pa_nil)))),?_⟩
  (try rw [cxK2]);(try rw [cxK1])
  refine ⟨_,rfl,w,rfl,(by omega),_,rfl,by omega,by omega,?_⟩
  rw [Int.toNat_natCast]
  refine comp_range (fun i=>T (w.drop i++w.take i)) (by omega) (fun i H1 hi s1 N hN=>?_) fun D H1 hD s1 hd=>?_
  ·have e1:cutL w (some (0+(i:Int))) none=w.drop i:=by rw [Int.zero_add];exact cutL_from (by omega)
   have e2:cutL w none (some (0+(i:Int)))=w.take i:=by rw [Int.zero_add];exact cutL_to (by omega)
   refine ⟨_,rfl,_,rfl,_,rfl,_,rfl,(by omega),_,rfl,_,rfl,_,rfl,_,rfl,(by omega),_,rfl,_,rfl,(by rw [e1,e2,List.length_drop,List.length_take];omega),?_⟩
   rw [e1,e2]
   exact hN H1 (Same.refl _)
  rw [show (List.range w.length).map (fun i=>T (w.drop i++w.take i))=((List.range w.length).map fun i=>w.drop i++w.take i).map T by rw [List.map_map];rfl] at hd
  refine ⟨D,_,rfl,SqL.of hd,(fun z=>?_),fun m hm _=>?_⟩
  ·have:=congrArg List.length z
   rw [List.length_map,List.length_range,List.length_nil] at this
   omega
  ·obtain ⟨i,hi,rfl⟩:=List.mem_map.mp hm
   have hi:=List.mem_range.mp hi
   refine q _ H1 s1 (by rw [List.length_append,List.length_drop,List.length_take];omega) fun c hc=>?_
   rcases List.mem_append.mp hc with h | h
   ·exact hw3 c (List.mem_of_mem_drop h)
   ·exact hw3 c (List.mem_of_mem_take h)
def spAskF:Sp:=fun vs H Q _=>∃ (c:Int) (b:Bool),vs=[.int c,.bl b]∧∀ (p:Addr) (q:FA) (H':Hp),Same H H'->H p=none->H' p=some (.tup (q.row.map T))->q.Ok->Q (.ref p) H'
theorem lg60 {m:Nat}(h:m<10 ^ 60):((m:Nat):Int).natAbs.log2<1920:=by
 show m.log2<1920
 by_cases h0:m=0
 ·rw [h0]
  decide
 ·exact (Nat.log2_lt h0).mpr (Nat.lt_of_lt_of_le h (by decide))
theorem at_int {xs:List Nat}{k n:Nat}(h:∀ x∈xs,x<n)(hk:k<xs.length):∃ x:Nat,atI (xs.map fun x=>V.int (x:Nat)) (k:Int)=some (.int (x:Nat))∧x∈xs∧x<n:=⟨xs[k],atI_nat (by rw [List.getElem?_map,List.getElem?_eq_getElem hk];rfl),List.getElem_mem hk,h _ (List.getElem_mem hk)⟩
theorem ok__law_ask {f:Addr}{fd:FuncData}(F:Fun K "_law_ask" "_law_ask" s__law_ask f fd)(tt:Txt K mg ad)(C__law_stir:Cal P w K mg base (CX1 P w) "_law_stir" 1 ["cell", "k"] spStir)(C__law_text:Cal P w K mg base (CX1 P w) "_law_text" 2 ["n", "size", "kinds"] spLText)(C__law_least:Cal P w K mg base (CX1 P w) "_law_least" 1 ["word"] spLLeast):FnOk P w K mg base (CX1 P w) 3 f fd ["cell", "long"] spAskF:=by
 refine F.okX sc__law_ask (fun vs H Q E h=>?_) (fun cdv A outer s H vs Q E hr h=>?_)
 ·obtain ⟨c,b,rfl,_⟩:=h
  rfl
 ·obtain ⟨c,b,rfl,q⟩:=h
  have hs:sizeLine=16777216:=sizeLine_eq
  refine ⟨_,(pss_cons (ps_set (i:=2) sc__law_ask.nd rfl (Or.inl rfl) (pe_op op_fdiv (pe_cal C__law_stir hr pass1 (pa_cons (pv 0) (pa_cons pe_int pa_nil))) pe_int))
   (pss_cons (ps_set (i:=3) sc__law_ask.nd rfl (Or.inl rfl) (pe_op op_mod (pv 0) (pe_op op_pow pe_int pe_int)))
   (pss_cons (ps_set (i:=4) sc__law_ask.nd rfl (Or.inl rfl) (pe_ix ix_list (pe_lst (pa_cons pe_int (pa_cons pe_int (pa_cons pe_int (pa_cons pe_int (pa_cons pe_int (pa_cons pe_int (pa_cons pe_int (pa_cons pe_int (pa_cons pe_int (pa_cons pe_int (pa_cons (pe_op op_add pe_int (pv 3)) pa_nil)))))))))))) (pe_op op_mod (pv 2) pe_int) (fun _ _=>rfl)))
   (pss_cons (ps_set (i:=5) sc__law_ask.nd rfl (Or.inl rfl) (pe_op op_add pe_int (pe_op op_mod (pe_op op_fdiv (pv 2) pe_int) (pe_ix ix_list (pe_lst (pa_cons pe_int (pa_cons pe_int (pa_cons pe_int (pa_cons pe_int (pa_cons pe_int (pa_cons pe_int (pa_cons pe_int (pa_cons pe_int (pa_cons pe_int (pa_cons pe_int (pa_cons pe_int pa_nil)))))))))))) (pe_op op_mod (pv 2) pe_int) (fun _ _=>rfl)))))
   (pss_cons (ps_if (pt_val (pv 1)) (pss_cons (ps_set (i:=5) sc__law_ask.nd rfl (Or.inl rfl) (pe_ix ix_list (pe_lst (pa_cons (pe_op op_add pe_int (pe_op op_mod (pe_op op_fdiv (pv 2) pe_int) pe_int)) (pa_cons pe_int (pa_cons pe_int pa_nil)))) (pe_op op_mod (pe_op op_fdiv (pv 2) pe_int) pe_int) (fun _ _=>rfl)))
   (pss_one (ps_if (PW.pt (pw_and (pt_cmpR op_lt (pv 5) pe_int (nomark _)) (pw_and1 (pt_chain op_lt op_lt pe_int (pv 4) pe_int)))) (pss_one (ps_set (i:=4) sc__law_ask.nd rfl (Or.inl rfl) pe_int)) pss_nil))) pss_nil)
   (pss_cons (ps_set (i:=6) sc__law_ask.nd rfl (Or.inl rfl) (pe_callB (call_max2 rfl) (by rfl) tt.b_max PyProof.Rows.boot_max (pa_cons pe_int (pa_cons (pe_callB (call_min2 rfl) (by rfl) tt.b_min PyProof.Rows.boot_min (pa_cons pe_int (pa_cons (pv 4) pa_nil))) pa_nil))))
   (pss_cons (ps_set (i:=7) sc__law_ask.nd rfl (Or.inl rfl) (pe_cal C__law_text hr pass1 (pa_cons (pe_cal C__law_stir hr pass1 (pa_cons (pv 0) (pa_cons pe_int pa_nil))) (pa_cons (pv 5) (pa_cons (pv 6) pa_nil)))))
   (pss_cons (ps_if (pt_cmpR op_gt (pe_op op_mod (pe_op op_fdiv (pv 2) pe_int) pe_int) pe_int (nomark _)) (pss_one (ps_set (i:=7) sc__law_ask.nd rfl (Or.inl rfl) (pe_cal C__law_least hr pass1 (pa_cons (pv 7) pa_nil)))) pss_nil)
   (pss_cons (ps_if (pt_cmpR op_eq_I (pe_op op_mod (pe_op op_fdiv (pv 2) pe_int) pe_int) pe_int (nomark _)) (pss_cons (ps_set (i:=8) sc__law_ask.nd rfl (Or.inl rfl) (pe_ix ix_list (pe_lst (pa_cons (pe_op op_fdiv (pv 2) pe_int) (pa_cons (pe_op op_mod (pv 0) (pe_op op_pow pe_int pe_int)) pa_nil))) (pe_op op_mod (pe_op op_fdiv (pv 2) pe_int) pe_int) (fun _ _=>rfl)))
   (pss_cons (ps_set (i:=9) sc__law_ask.nd rfl (Or.inl rfl) (pe_ix ix_list (pe_lst (pa_cons pe_int (pa_cons pe_int (pa_cons pe_int (pa_cons pe_int (pa_cons pe_int (pa_cons pe_int (pa_cons (pe_op op_add pe_int (pv 3)) pa_nil)))))))) (pe_op op_mod (pe_op op_fdiv (pv 2) pe_int) pe_int) (fun _ _=>rfl)))
   (pss_one (ps_ret (pe_tup (pa_cons (pe_strT [112,105,101,99,101] (by decide +kernel)) (pa_cons (pv 7) (pa_cons (pe_callTy call_strI (by rfl) tt.b_str (by decide +kernel) (pa_cons (pv 4) pa_nil)) (pa_cons (pe_callTy call_strI (by rfl) tt.b_str (by decide +kernel) (pa_cons (pv 8) pa_nil)) (pa_cons (pe_callTy call_strI (by rfl) tt.b_str (by decide +kernel) (pa_cons (pv 9) pa_nil)) pa_nil)))))))))) pss_nil)
   (pss_cons (ps_set (i:=10) sc__law_ask.nd rfl (Or.inl rfl) (pe_cal C__law_text hr pass1 (pa_cons (pe_cal C__law_stir hr pass1 (pa_cons (pv 0) (pa_cons pe_int pa_nil))) (pa_cons (pv 5) (pa_cons (pv 6) pa_nil)))))
   (pss_cons (ps_if (pt_cmpR op_eq_I (pe_op op_mod (pe_op op_fdiv (pv 2) pe_int) pe_int) pe_int (nomark _)) (pss_one (ps_set (i:=10) sc__law_ask.nd rfl (Or.inl rfl) (pe_op op_add_T (pv 10) (pe_strT [97] (by decide +kernel))))) pss_nil)
   (pss_cons (ps_if (PW.pt (pw_and (pt_cmpR op_eq_I (pe_op op_mod (pe_op op_fdiv (pv 2) pe_int) pe_int) pe_int (nomark _)) (pw_and1 (pt_cmpR op_gt (pv 5) pe_int (nomark _))))) (pss_one (ps_set (i:=10) sc__law_ask.nd rfl (Or.inl rfl) (pe_slice sl_T (pv 10) (po_some pe_int) po_none))) pss_nil)
   (pss_cons (ps_if (pt_cmpR op_eq_I (pe_op op_mod (pe_op op_fdiv (pv 2) pe_int) pe_int) pe_int (nomark _)) (pss_one (ps_set (i:=10) sc__law_ask.nd rfl (Or.inl rfl) (pe_op op_add_T (pe_slice sl_T (pv 7) (po_some pe_int) po_none) (pe_slice sl_T (pv 7) po_none (po_some pe_int))))) pss_nil)
   (pss_one (ps_ret (pe_tup (pa_cons (pe_strT [112,108,97,99,101] (by decide +kernel)) (pa_cons (pv 7) (pa_cons (pe_callTy call_strI (by rfl) tt.b_str (by decide +kernel) (pa_cons (pv 4) pa_nil)) (pa_cons (pv 10) pa_nil)))))))))))))))))))),?_⟩
  (try rw [cxK2]);(try rw [cxK1])
  refine ⟨_,rfl,c,41,rfl,⟨by decide,by decide⟩,_,_,rfl,rfl,⟨by decide,by decide⟩,?_⟩
  dsimp only
  obtain ⟨n,en,hn⟩:∃ n:Nat,stirZ c 41/7=(n:Nat)∧n<10 ^ 10:=by
   have h1:=Int.emod_nonneg ((c % 1000000007*48271+(41+1)*(41+1)*69621) % 2147483647*((c % 1000000007*48271+(41+1)*(41+1)*69621) % 2147483647)) (show (2147483629:Int)≠0 by decide)
   have h2:=Int.emod_lt_of_pos ((c % 1000000007*48271+(41+1)*(41+1)*69621) % 2147483647*((c % 1000000007*48271+(41+1)*(41+1)*69621) % 2147483647)) (show (0:Int)<2147483629 by decide)
   have h3:stirZ c 41=(c % 1000000007*48271+(41+1)*(41+1)*69621) % 2147483647*((c % 1000000007*48271+(41+1)*(41+1)*69621) % 2147483647) % 2147483629:=rfl
   rw [<- h3] at h1 h2
   exact ⟨(stirZ c 41/7).toNat,by omega,by omega⟩
  rw [en]
  obtain ⟨far,ef,hf⟩:∃ far:Nat,c % (10:Int) ^ (59:Int).toNat=(far:Nat)∧far<10 ^ 59:=by
   obtain ⟨j,ej,hj⟩:=mod_nat c (10 ^ 59) (by decide)
   exact ⟨j,ej,by omega⟩
  refine ⟨_,rfl,_,_,rfl,rfl,⟨by decide,by decide,by decide⟩,_,_,rfl,rfl,(by show (0:Int)<10 ^ (59:Int).toNat;decide),?_⟩
  dsimp only
  rw [ef]
  obtain ⟨j,ej,hj⟩:=mod_nat (n:Nat) 11 (by decide)
  have hj:j<11:=by omega
  obtain ⟨kd,ekd,_,hkd⟩:=at_int (xs:=[1,2,3,4,5,6,2,3,0,7,7+far]) (k:=j) (n:=10 ^ 60) (by simp only [List.forall_mem_cons];refine ⟨?_,?_,?_,?_,?_,?_,?_,?_,?_,?_,?_,fun x hx=>by cases hx⟩ <;> omega) hj
  refine ⟨_,rfl,_,_,rfl,rfl,(by show 11<=sizeLine;omega),fun p1 hp1=>?_⟩
  have s1:=same_upd (o:=.lst [.int 1,.int 2,.int 3,.int 4,.int 5,.int 6,.int 2,.int 3,.int 0,.int 7,.int (7+(far:Int))]) hp1
  have h1:upd H p1 (.lst [.int 1,.int 2,.int 3,.int 4,.int 5,.int 6,.int 2,.int 3,.int 0,.int 7,.int (7+(far:Int))]) p1=some (.lst (([1,2,3,4,5,6,2,3,0,7,7+far]:List Nat).map fun x=>V.int (x:Nat))):=upd_same
  generalize upd H p1 (.lst [.int 1,.int 2,.int 3,.int 4,.int 5,.int 6,.int 2,.int 3,.int 0,.int 7,.int (7+(far:Int))])=G1 at s1 h1 ⊢
  refine ⟨_,rfl,_,_,rfl,rfl,(by show (0:Int)<11;decide),p1,_,_,.int (kd:Nat),rfl,rfl,SqL.of h1,(by show atI _ (((n:Nat):Int) % 11)=_;rw [ej];exact ekd),?_⟩
  obtain ⟨z0,ez0,hz0,_⟩:=at_int (xs:=[8,8,6,5,4,4,8,6,8,8,8]) (k:=j) (n:=9) (by decide) hj
  have hz1:1<=z0∧z0<=8:=by
   have:∀ x∈[8,8,6,5,4,4,8,6,8,8,8],1<=x∧x<=8:=by decide
   exact this z0 hz0
  obtain ⟨m0,em0,hm0⟩:=mod_nat (((n:Nat):Int)/10) ((z0:Nat):Int) (by omega)
  refine ⟨_,rfl,_,_,rfl,rfl,⟨by decide,by decide⟩,(by show 11<=sizeLine;omega),fun p2 hp2=>?_⟩
  have s2:=same_upd (o:=.lst [.int 8,.int 8,.int 6,.int 5,.int 4,.int 4,.int 8,.int 6,.int 8,.int 8,.int 8]) hp2
  have h2:upd G1 p2 (.lst [.int 8,.int 8,.int 6,.int 5,.int 4,.int 4,.int 8,.int 6,.int 8,.int 8,.int 8]) p2=some (.lst (([8,8,6,5,4,4,8,6,8,8,8]:List Nat).map fun x=>V.int (x:Nat))):=upd_same
  generalize upd G1 p2 (.lst [.int 8,.int 8,.int 6,.int 5,.int 4,.int 4,.int 8,.int 6,.int 8,.int 8,.int 8])=G2 at s2 h2 ⊢
  refine ⟨_,rfl,_,_,rfl,rfl,(by show (0:Int)<11;decide),p2,_,_,.int (z0:Nat),rfl,rfl,SqL.of h2,(by show atI _ (((n:Nat):Int) % 11)=_;rw [ej];exact ez0),_,_,rfl,rfl,(by show (0:Int)<((z0:Nat):Int);omega),_,_,rfl,rfl,?_⟩
  dsimp only
  rw [em0,show (1:Int)+(m0:Int)=((1+m0:Nat):Int) by omega]
  have hsz:1<=1+m0∧1+m0<=26:=by omega
  generalize 1+m0=sz at hsz ⊢
  refine ⟨_,rfl,_,rfl,?_⟩
  (try dsimp only [gName,tSeq,tIfS,tNext])
  refine if_join2 (fun σ G=>∃ kd sz:Nat,σ=[some (.int c),some (.bl b),some (.int (n:Nat)),some (.int (far:Nat)),some (.int (kd:Nat)),some (.int (sz:Nat)),none,none,none,none,none]∧Same H G∧kd<10 ^ 60∧1<=sz∧sz<=26) (fun σ G hG=>?_) (fun _ hN=>?_) (fun _=>⟨kd,sz,rfl,s1.trans s2,hkd,hsz.1,hsz.2⟩)
  ·obtain ⟨kd,sz,rfl,sG,hkd,hs1,hs2⟩:=hG
   obtain ⟨lm,elm,hlm1,hlm6⟩:∃ lm:Nat,(if (if ((kd:Nat):Int)<6 then ((kd:Nat):Int) else 6)>1 then (if ((kd:Nat):Int)<6 then ((kd:Nat):Int) else 6) else 1)=(lm:Int)∧1<=lm∧lm<=6:=by
    by_cases h6:((kd:Nat):Int)<6
    ·rw [if_pos h6]
     by_cases h1:((kd:Nat):Int)>1
     ·rw [if_pos h1];exact ⟨kd,rfl,by omega,by omega⟩
     ·rw [if_neg h1];exact ⟨1,rfl,by omega,by omega⟩
    ·rw [if_neg h6,if_pos (by decide)];exact ⟨6,rfl,by omega,by omega⟩
   refine ⟨_,rfl,_,_,rfl,_,_,rfl,?_⟩
   rw [elm]
   refine ⟨_,rfl,c,42,rfl,⟨by decide,by decide⟩,_,rfl,_,rfl,_,sz,lm,rfl,(by omega),⟨hlm1,hlm6⟩,fun f0 G3 s3 hf0 hf1=>?_⟩
   have hL0:LetT f0:=⟨by omega,by omega,hf1⟩
   refine ⟨_,rfl,_,_,rfl,rfl,⟨by decide,by decide⟩,_,_,rfl,rfl,(by show (0:Int)<5;decide),_,_,rfl,rfl,_,rfl,?_⟩
   (try dsimp only)
   refine if_join2 (fun σ G=>∃ f:List Nat,σ=[some (.int c),some (.bl b),some (.int (n:Nat)),some (.int (far:Nat)),some (.int (kd:Nat)),some (.int (sz:Nat)),some (.int (lm:Nat)),some (T f),none,none,none]∧Same H G∧LetT f) (fun σ G hG=>?_) (fun _ hN=>?_) (fun _=>⟨f0,rfl,sG.trans s3,hL0⟩)
   ·obtain ⟨f,rfl,sG,hLf⟩:=hG
    refine ⟨_,rfl,_,_,rfl,rfl,⟨by decide,by decide⟩,_,_,rfl,rfl,(by show (0:Int)<2;decide),_,rfl,_,rfl,_,rfl,?_⟩
    refine ite2 (fun h0=>?_) (fun h0=>?_)
    ·obtain ⟨cl,ecl,hcl⟩:∃ m:Nat,c % (10:Int) ^ (60:Int).toNat=(m:Nat)∧m<10 ^ 60:=by
      obtain ⟨m,em,hm⟩:=mod_nat c (10 ^ 60) (by decide)
      exact ⟨m,em,by omega⟩
     obtain ⟨j2,ej2,hj2⟩:=mod_nat (((n:Nat):Int)/6000) 2 (by decide)
     obtain ⟨pl,epl,_,hpl⟩:=at_int (xs:=[n/6000,cl]) (k:=j2) (n:=10 ^ 60) (by simp only [List.forall_mem_cons];refine ⟨?_,hcl,fun x hx=>by cases hx⟩;omega) (by show j2<2;omega)
     refine ⟨_,rfl,_,_,rfl,rfl,⟨by decide,by decide⟩,_,rfl,_,_,rfl,rfl,⟨by decide,by decide,by decide⟩,_,_,rfl,rfl,(by show (0:Int)<10 ^ (60:Int).toNat;decide),(by show 2<=sizeLine;omega),fun p3 hp3=>?_⟩
     dsimp only
     rw [ecl,show ((n:Nat):Int)/6000=((n/6000:Nat):Int) by omega]
     have t3:=same_upd (o:=.lst [.int ((n/6000:Nat):Int),.int (cl:Nat)]) hp3
     have l3:upd G p3 (.lst [.int ((n/6000:Nat):Int),.int (cl:Nat)]) p3=some (.lst (([n/6000,cl]:List Nat).map fun x=>V.int (x:Nat))):=upd_same
     generalize upd G p3 (.lst [.int ((n/6000:Nat):Int),.int (cl:Nat)])=G4 at t3 l3 ⊢
     refine ⟨_,rfl,_,_,rfl,rfl,⟨by decide,by decide⟩,_,_,rfl,rfl,(by show (0:Int)<2;decide),p3,_,_,.int (pl:Nat),rfl,rfl,SqL.of l3,(by show atI _ (((n:Nat):Int)/6000 % 2)=_;rw [ej2];exact epl),?_⟩
     obtain ⟨j3,ej3,hj3⟩:=mod_nat (((n:Nat):Int)/12000) 7 (by decide)
     obtain ⟨mn,emn,_,hmn⟩:=at_int (xs:=[0,1,7,30,200,201,201+far]) (k:=j3) (n:=10 ^ 60) (by simp only [List.forall_mem_cons];refine ⟨?_,?_,?_,?_,?_,?_,?_,fun x hx=>by cases hx⟩ <;> omega) (by show j3<7;omega)
     refine ⟨_,rfl,_,_,rfl,rfl,(by show 7<=sizeLine;omega),fun p4 hp4=>?_⟩
     have t4:=same_upd (o:=.lst [.int 0,.int 1,.int 7,.int 30,.int 200,.int 201,.int (201+(far:Int))]) hp4
     have l4:upd G4 p4 (.lst [.int 0,.int 1,.int 7,.int 30,.int 200,.int 201,.int (201+(far:Int))]) p4=some (.lst (([0,1,7,30,200,201,201+far]:List Nat).map fun x=>V.int (x:Nat))):=upd_same
     generalize upd G4 p4 (.lst [.int 0,.int 1,.int 7,.int 30,.int 200,.int 201,.int (201+(far:Int))])=G5 at t4 l4 ⊢
     refine ⟨_,rfl,_,_,rfl,rfl,⟨by decide,by decide⟩,_,_,rfl,rfl,(by show (0:Int)<7;decide),p4,_,_,.int (mn:Nat),rfl,rfl,SqL.of l4,(by show atI _ (((n:Nat):Int)/12000 % 7)=_;rw [ej3];exact emn),?_⟩
     refine ⟨_,rfl,_,rfl,_,rfl,lg60 hkd,_,rfl,_,rfl,lg60 hpl,_,rfl,_,rfl,lg60 hmn,(by show 5<=sizeLine;omega),fun p5 hp5=>?_⟩
     have sF:=sG.trans (t3.trans t4)
     exact q p5 (.pc f kd pl mn) _ (sF.trans (same_upd hp5)) (back sF hp5) upd_same ⟨hLf,hkd,hpl,hmn⟩
    ·refine ⟨_,rfl,c,43,rfl,⟨by decide,by decide⟩,_,rfl,_,rfl,_,sz,lm,rfl,(by omega),⟨hlm1,hlm6⟩,fun w0 G4 s4 hw0 hw1=>?_⟩
     have sW:=sG.trans s4
     refine ⟨_,rfl,_,_,rfl,rfl,⟨by decide,by decide⟩,_,_,rfl,rfl,(by show (0:Int)<6;decide),_,rfl,_,rfl,_,rfl,?_⟩
     (try dsimp only)
     refine if_join2 (fun σ G=>∃ w:List Nat,σ=[some (.int c),some (.bl b),some (.int (n:Nat)),some (.int (far:Nat)),some (.int (kd:Nat)),some (.int (sz:Nat)),some (.int (lm:Nat)),some (T f),none,none,some (T w)]∧Same H G∧sz<=w.length∧w.length<=27∧∀ c∈w,97<=c∧c<103) (fun σ G hG=>?_) (fun _ hN=>?_) (fun _=>⟨w0,rfl,sW,by omega,by omega,hw1⟩)
     ·obtain ⟨w1,rfl,sW,hl1,hl2,hw1⟩:=hG
      refine next_of ?_
      dsimp only
      refine seq_of ?_
      refine if_of ?_
      refine tAnd_is (decide (((n:Nat):Int)/6000 % 6=1)) (decide ((1:Int)<((sz:Nat):Int))) (fun N hN=>⟨_,rfl,_,_,rfl,rfl,⟨by decide,by decide⟩,_,_,rfl,rfl,(by show (0:Int)<6;decide),_,rfl,_,rfl,_,rfl,hN⟩) (fun _ N hN=>⟨_,rfl,_,_,rfl,rfl,_,rfl,hN⟩) ?_
      refine if_join2 (fun σ G=>∃ w:List Nat,σ=[some (.int c),some (.bl b),some (.int (n:Nat)),some (.int (far:Nat)),some (.int (kd:Nat)),some (.int (sz:Nat)),some (.int (lm:Nat)),some (T f),none,none,some (T w)]∧Same H G∧LetT w) (fun σ G hG=>?_) (fun hc hN=>?_) (fun _=>⟨w1,rfl,sW,by omega,by omega,hw1⟩)
      ·obtain ⟨w2,rfl,sW,hL2⟩:=hG
       refine ⟨_,rfl,_,_,rfl,rfl,⟨by decide,by decide⟩,_,_,rfl,rfl,(by show (0:Int)<6;decide),_,rfl,_,rfl,_,rfl,?_⟩
       (try dsimp only)
       refine if_join2 (fun σ G=>∃ w:List Nat,σ=[some (.int c),some (.bl b),some (.int (n:Nat)),some (.int (far:Nat)),some (.int (kd:Nat)),some (.int (sz:Nat)),some (.int (lm:Nat)),some (T f),none,none,some (T w)]∧Same H G∧LetT w) (fun σ G hG=>?_) (fun hc hN=>?_) (fun _=>⟨w2,rfl,sW,hL2⟩)
       ·obtain ⟨w3,rfl,sW,hL3⟩:=hG
        refine ⟨_,rfl,_,rfl,_,rfl,lg60 hkd,_,rfl,(by show 4<=sizeLine;omega),fun p5 hp5=>?_⟩
        exact q p5 (.ps f kd w3) _ (sW.trans (same_upd hp5)) (back sW hp5) upd_same ⟨hLf,hkd,hL3⟩
       ·have hfl:=hLf.1
        have hfl2:=hLf.2.1
        have hcu:cutL f (some 1) none=f.drop 1∧cutL f none (some 1)=f.take 1:=⟨cutL_from (k:=1) (by omega),cutL_to (k:=1) (by omega)⟩
        refine ⟨_,rfl,_,rfl,_,rfl,(by omega),_,rfl,_,rfl,_,rfl,(by omega),_,rfl,_,rfl,(by rw [hcu.1,hcu.2,List.length_drop,List.length_take];omega),?_⟩
        rw [hcu.1,hcu.2]
        refine hN _ _ ⟨f.drop 1++f.take 1,rfl,sW,by rw [List.length_append,List.length_drop,List.length_take];omega,by rw [List.length_append,List.length_drop,List.length_take];omega,fun x hx=>?_⟩
        rcases List.mem_append.mp hx with h | h
        ·exact hLf.2.2 x (List.mem_of_mem_drop h)
        ·exact hLf.2.2 x (List.mem_of_mem_take h)
      ·rw [Bool.and_eq_true] at hc
       have h1:1<sz:=by have:=of_decide_eq_true hc.2;omega
       refine ⟨_,rfl,_,rfl,_,rfl,(by omega),?_⟩
       rw [show cutL w1 (some 1) none=w1.drop 1 from cutL_from (k:=1) (by omega)]
       exact hN _ _ ⟨w1.drop 1,rfl,sW,by rw [List.length_drop];omega,by rw [List.length_drop];omega,fun x hx=>hw1 x (List.mem_of_mem_drop hx)⟩
     ·refine ⟨_,rfl,_,rfl,_,rfl,(by show w0.length+1<=sizeLine;omega),?_⟩
      refine hN _ _ ⟨w0++[97],rfl,sW,by rw [List.length_append];omega,by rw [List.length_append,List.length_singleton];omega,fun x hx=>?_⟩
      rcases List.mem_append.mp hx with h | h
      ·exact hw1 x h
      ·rw [List.mem_singleton.mp h];decide
   ·refine ⟨_,rfl,f0,rfl,hL0,fun f1 G4 s4 hg0 hg1=>?_⟩
    exact hN _ G4 ⟨f1,rfl,(sG.trans s3).trans s4,⟨by omega,by omega,hg1⟩⟩
  ·obtain ⟨m1,em1,hm1⟩:=mod_nat (((n:Nat):Int)/10) 4 (by decide)
   obtain ⟨m2,em2,hm2⟩:=mod_nat (((n:Nat):Int)/300) 3 (by decide)
   obtain ⟨z,ez,hz,_⟩:=at_int (xs:=[9+m1,25,26]) (k:=m2) (n:=27) (by simp only [List.forall_mem_cons];refine ⟨?_,?_,?_,fun x hx=>by cases hx⟩ <;> omega) (by show m2<3;omega)
   have hz1:1<=z∧z<=26:=by
    simp only [List.mem_cons,List.not_mem_nil,or_false] at hz
    omega
   refine ⟨_,rfl,_,_,rfl,rfl,⟨by decide,by decide⟩,_,_,rfl,rfl,(by show (0:Int)<4;decide),_,_,rfl,rfl,(by show 3<=sizeLine;omega),fun p3 hp3=>?_⟩
   dsimp only
   rw [em1]
   have t3:=same_upd (o:=.lst [.int (9+(m1:Int)),.int 25,.int 26]) hp3
   have l3:upd G2 p3 (.lst [.int (9+(m1:Int)),.int 25,.int 26]) p3=some (.lst (([9+m1,25,26]:List Nat).map fun x=>V.int (x:Nat))):=upd_same
   generalize upd G2 p3 (.lst [.int (9+(m1:Int)),.int 25,.int 26])=G3 at t3 l3 ⊢
   refine ⟨_,rfl,_,_,rfl,rfl,⟨by decide,by decide⟩,_,_,rfl,rfl,(by show (0:Int)<3;decide),p3,_,_,.int (z:Nat),rfl,rfl,SqL.of l3,(by show atI _ (((n:Nat):Int)/300 % 3)=_;rw [em2];exact ez),?_⟩
   have sF:=(s1.trans s2).trans t3
   have f1:=hN _ G3 ⟨kd,z,rfl,sF,hkd,hz1⟩
   have f2:=hN _ G3 ⟨2,z,rfl,sF,by decide,hz1⟩
   (try dsimp only [gName,tSeq,tIfS,tNext])
   refine tAnd_is (decide (((z:Nat):Int)<25)) (decide ((2:Int)<((kd:Nat):Int))&&decide (((kd:Nat):Int)<7)) (fun N hN=>⟨_,rfl,_,_,rfl,rfl,_,rfl,hN⟩) (fun _ N hN=>?_) ?_
   ·refine ⟨_,rfl,_,_,rfl,rfl,_,rfl,?_⟩
    by_cases h2:(2:Int)<((kd:Nat):Int)
    ·rw [decide_eq_true h2] at hN
     exact itP (decide_eq_true h2) ⟨_,_,rfl,rfl,_,rfl,hN⟩
    ·rw [decide_eq_false h2] at hN
     exact itN (fun y=>h2 (of_decide_eq_true y)) ⟨_,rfl,hN⟩
   ·refine ite2 (fun _=>?_) (fun _=>?_)
    ·exact f2
    ·exact f1
def spDueF (K:PySem.W.Frag):Sp:=fun vs H Q _=>∃ (p:Addr) (q:FA),vs=[.ref p]∧SqT K H p (q.row.map T)∧q.Ok∧∀ H',Same H H'->Q (T q.ans) H'
theorem ok__law_due {f:Addr}{fd:FuncData}(F:Fun K "_law_due" "_law_due" s__law_due f fd)(tt:Txt K mg ad)(C_piece_at:Cal P w K mg base (CX1 P w) "piece_at" 9 ["first", "kinds", "place", "many"] (spPiece ad))(C_place_of:Cal P w K mg base (CX1 P w) "place_of" 8 ["first", "kinds", "word"] (spPlace ad)):FnOk P w K mg base (CX1 P w) 10 f fd ["ask"] (spDueF K):=by
 refine F.okX sc__law_due (fun vs H Q E h=>?_) (fun cdv A outer s H vs Q E hr h=>?_)
 ·obtain ⟨p,q,rfl,_⟩:=h
  rfl
 ·obtain ⟨p,q,rfl,hS,hok,hq⟩:=h
  refine ⟨_,(pss_cons (ps_set (i:=1) sc__law_due.nd rfl (Or.inl rfl) (pe_strT [] (by decide +kernel)))
   (pss_cons (ps_try ownX (py_if (pt_cmpR op_eq_T (pe_ix ix_tup (pv 0) pe_int (fun _ _=>rfl)) (pe_strT [112,105,101,99,101] (by decide +kernel)) (nomark _)) (py_set (i:=1) sc__law_due.nd rfl (Or.inl rfl) (pex_cal C_piece_at hr (pa_cons (pe_ix ix_tup (pv 0) pe_int (fun _ _=>rfl)) (pa_cons (pe_callTy call_intT (by rfl) tt.b_int (by decide +kernel) (pa_cons (pe_ix ix_tup (pv 0) pe_int (fun _ _=>rfl)) pa_nil)) (pa_cons (pe_callTy call_intT (by rfl) tt.b_int (by decide +kernel) (pa_cons (pe_ix ix_tup (pv 0) pe_int (fun _ _=>rfl)) pa_nil)) (pa_cons (pe_callTy call_intT (by rfl) tt.b_int (by decide +kernel) (pa_cons (pe_ix ix_tup (pv 0) pe_int (fun _ _=>rfl)) pa_nil)) pa_nil)))))) (py_set (i:=1) sc__law_due.nd rfl (Or.inl rfl) (pex_ty call_strI (by rfl) tt.b_str (by decide +kernel) (pex_cal C_place_of hr (pa_cons (pe_ix ix_tup (pv 0) pe_int (fun _ _=>rfl)) (pa_cons (pe_callTy call_intT (by rfl) tt.b_int (by decide +kernel) (pa_cons (pe_ix ix_tup (pv 0) pe_int (fun _ _=>rfl)) pa_nil)) (pa_cons (pe_ix ix_tup (pv 0) pe_int (fun _ _=>rfl)) pa_nil))))))) (ph_plain tt.m_BadKinds (fun a=>(pss_one (ps_set (i:=1) sc__law_due.nd rfl (Or.inl rfl) (pe_strT [114,101,102,117,115,101,100,32,66,97,100,75,105,110,100,115] (by decide +kernel))))) (ph_plain tt.m_BadWord (fun a=>(pss_one (ps_set (i:=1) sc__law_due.nd rfl (Or.inl rfl) (pe_strT [114,101,102,117,115,101,100,32,66,97,100,87,111,114,100] (by decide +kernel))))) (ph_plain tt.m_TooMany (fun a=>(pss_one (ps_set (i:=1) sc__law_due.nd rfl (Or.inl rfl) (pe_strT [114,101,102,117,115,101,100,32,84,111,111,77,97,110,121] (by decide +kernel))))) (ph_plain tt.m_NoSuch (fun a=>(pss_one (ps_set (i:=1) sc__law_due.nd rfl (Or.inl rfl) (pe_strT [114,101,102,117,115,101,100,32,78,111,83,117,99,104] (by decide +kernel))))) (ph_plain tt.m_OnceError (fun a=>(pss_one (ps_set (i:=1) sc__law_due.nd rfl (Or.inl rfl) (pe_strT [111,116,104,101,114] (by decide +kernel))))) ph_nil))))))
   (pss_one (ps_ret (pv 1))))),?_⟩
  (try rw [cxK2]);(try rw [cxK1])
  unfold FA.ans at hq
  cases q with
  | pc f k pl mn =>
   obtain ⟨b1,b2⟩:=dg_back hok.2.1
   obtain ⟨c1,c2⟩:=dg_back hok.2.2.1
   obtain ⟨d1,d2⟩:=dg_back hok.2.2.2
   refine ⟨_,rfl,p,_,_,T [112,105,101,99,101],rfl,rfl,hS,atI_nat (j:=0) rfl,_,rfl,_,rfl,_,rfl,itP (by decide) ?_⟩
   refine ⟨_,rfl,p,_,_,T f,rfl,rfl,hS,atI_nat (j:=1) rfl,_,rfl,p,_,_,T (dgI (k:Nat)),rfl,rfl,hS,atI_nat (j:=2) rfl,_,_,rfl,b2,b1,_,rfl,p,_,_,T (dgI (pl:Nat)),rfl,rfl,hS,atI_nat (j:=3) rfl,_,_,rfl,c2,c1,_,rfl,p,_,_,T (dgI (mn:Nat)),rfl,rfl,hS,atI_nat (j:=4) rfl,_,_,rfl,d2,d1,?_⟩
   dsimp only [tNil]
   refine pc_use hok ⟨fun h0 H' s'=>?_,fun h0 H' s'=>?_,fun h0 H' s'=>?_,fun h0 H' s'=>?_⟩ fun h0 H' s'=>?_
   all_goals rw [h0] at hq
   ·exact .inl ⟨tt.e_KK,_,rfl,hq _ s'⟩
   ·exact .inr ⟨tt.e_WK,.inl ⟨tt.e_WW,_,rfl,hq _ s'⟩⟩
   ·exact .inr ⟨tt.e_MK,.inr ⟨tt.e_MW,.inl ⟨tt.e_MM,_,rfl,hq _ s'⟩⟩⟩
   ·exact .inr ⟨tt.e_SK,.inr ⟨tt.e_SW,.inr ⟨tt.e_SM,.inl ⟨tt.e_SS,_,rfl,hq _ s'⟩⟩⟩⟩
   ·exact ⟨_,rfl,hq _ s'⟩
  | ps f k w =>
   obtain ⟨b1,b2⟩:=dg_back hok.2.1
   refine ⟨_,rfl,p,_,_,T [112,108,97,99,101],rfl,rfl,hS,atI_nat (j:=0) rfl,_,rfl,_,rfl,_,rfl,itN (by decide) ?_⟩
   refine ⟨_,rfl,p,_,_,T f,rfl,rfl,hS,atI_nat (j:=1) rfl,_,rfl,p,_,_,T (dgI (k:Nat)),rfl,rfl,hS,atI_nat (j:=2) rfl,_,_,rfl,b2,b1,_,rfl,p,_,_,T w,rfl,rfl,hS,atI_nat (j:=3) rfl,?_⟩
   dsimp only [tNil]
   refine pl_use hok ⟨fun h0 H' s'=>?_,fun h0 H' s'=>?_,fun h0 H' s'=>?_,fun h0 H' s'=>?_⟩ fun h0 i H' hl e s'=>⟨_,rfl,hl,?_⟩
   all_goals rw [h0] at hq
   ·exact .inl ⟨tt.e_KK,_,rfl,hq _ s'⟩
   ·exact .inr ⟨tt.e_WK,.inl ⟨tt.e_WW,_,rfl,hq _ s'⟩⟩
   ·exact .inr ⟨tt.e_MK,.inr ⟨tt.e_MW,.inl ⟨tt.e_MM,_,rfl,hq _ s'⟩⟩⟩
   ·exact .inr ⟨tt.e_SK,.inr ⟨tt.e_SW,.inr ⟨tt.e_SM,.inl ⟨tt.e_SS,_,rfl,hq _ s'⟩⟩⟩⟩
   ·rw [e]
    exact ⟨_,rfl,hq _ s'⟩
theorem ok_ask {q:FA}(h:q.Ok):AskOk q.row:=by
 have hd:∀ {m:Nat},m<10 ^ 60->(dgI (m:Nat)).length<=60∧10∉dgI (m:Nat)∧32∉dgI (m:Nat):=fun {m} hm=>⟨dg_len (k:=59) hm,fun z=>by have:=dg_all m 10 z;omega,fun z=>by have:=dg_all m 32 z;omega⟩
 have hl:∀ {f:List Nat},LetT f->(f.length<=60∧10∉f∧32∉f)∧formOf f=[116]:=fun {f} hf=>⟨⟨by have:=hf.2.1;omega,fun z=>by have:=hf.2.2 10 z;omega,fun z=>by have:=hf.2.2 32 z;omega⟩,txt_form (fun z=>by have:=hf.1;rw [z] at this;cases this) (by have:=hf.2.1;omega) hf.2.2⟩
 cases q with
 | pc f k pl mn =>
  obtain ⟨h1,h2,h3,h4⟩:=h
  refine ⟨ask_of (fm:=[116,110,110,110]) rfl ?_ (by decide),fun z=>(by cases z),Nat.le_of_ble_eq_true rfl,al_cons (by decide) (al_cons (hl h1).1 (al_cons (hd h2) (al_cons (hd h3) (al_cons (hd h4) al_nil))))⟩
  simp only [List.map_cons,List.map_nil,(hl h1).2,num_form h2,num_form h3,num_form h4]
  rfl
 | ps f k w =>
  obtain ⟨h1,h2,h3⟩:=h
  refine ⟨ask_of (fm:=[116,110,116]) rfl ?_ (by decide),fun z=>(by cases z),Nat.le_of_ble_eq_true rfl,al_cons (by decide) (al_cons (hl h1).1 (al_cons (hd h2) (al_cons (hl h3).1 al_nil)))⟩
  simp only [List.map_cons,List.map_nil,(hl h1).2,num_form h2,(hl h3).2]
  rfl
theorem r2_fa {H':Hp}{vs:List V}{bs:List Addr}(h:Dt.R2 (fun v b=>∃ o,H' b=some o∧∃ q:FA,q.Ok∧o = .tup (q.row.map T)) vs bs):∃ qs:List FA,(∀ q∈qs,q.Ok)∧Dt.R2 (fun q b=>H' b=some (.tup (FA.row q |>.map T))) qs bs:=by
 induction h with
 | nil=>exact ⟨[],fun r hr=>(by cases hr),.nil⟩
 | cons a _ ih =>
  obtain ⟨qs,h1,h2⟩:=ih
  obtain ⟨o,h3,q,h4,rfl⟩:=a
  exact ⟨q::qs,al_cons h4 h1,.cons h3 h2⟩
theorem web_ab:WebOk [[97,98],[98,97]] 2:=by
 refine ⟨fun z=>(by cases z),by decide,⟨⟨by decide,by decide⟩,FewN.len (by decide)⟩,by decide,by decide⟩
theorem size_22:SizeD 2 2:=⟨⟨by decide,by decide⟩,by decide,by decide,by decide⟩
theorem page_ab:PageOk 2 2 [[[119,111,114,100,115],[97,98]],[[119,111,114,100,115],[98,97]]] [[97,98],[98,97]]:=.inr ⟨by decide,by decide,fun z=>(by cases z),1,by decide,rfl⟩
theorem tp_join {H:Hp}{qs:List FA}{bs:List Addr}(h:Dt.R2 (fun q b=>H b=some (.tup (FA.row q |>.map T))) qs bs):∀ {i:Nat} {x:V},(bs.map V.ref)[i]?=some x->∃ b q,x = .ref b∧qs[i]?=some q∧H b=some (.tup (FA.row q |>.map T)):=fun {i x} hx=>by
 rw [List.getElem?_map,Option.map_eq_some_iff] at hx
 obtain ⟨b,hb,rfl⟩:=hx
 obtain ⟨q,h1,h2⟩:=h.get hb
 exact ⟨b,q,rfl,h1,h2⟩
def spLaw (K:PySem.W.Frag):Sp:=fun vs H Q _=>∃ (a:Addr) (ns:List Int),vs=[.ref a]∧SqL K H a (ns.map V.int)∧ns.length<=63∧∀ H',Q (.bl true) H'
theorem ok_law {f:Addr}{fd:FuncData}(F:Fun K "law" "law" s_law f fd)(tt:Txt K mg ad)(C_Web_init:Cam P w K mg base (CX1 P w) "Web" ad.Web 5 ["self", "words"] (spWebI K ad.Web))(C__law_ask:Cal P w K mg base (CX1 P w) "_law_ask" 3 ["cell", "long"] spAskF)(C__law_due:Cal P w K mg base (CX1 P w) "_law_due" 10 ["ask"] (spDueF K))(C_answered:Cal P w K mg base (CX1 P w) "answered" 12 ["web", "ask"] (spAnsd K))(C_answers:Cal P w K mg base (CX1 P w) "answers" 13 ["text"] (spAnswers K)):FnOk P w K mg base (CX1 P w) 14 f fd ["script"] (spLaw K):=by
 refine F.okN sc_law (fun vs H Q E h=>?_) (fun cdv A outer s H vs Q E hr h=>?_)
 ·obtain ⟨a,ns,rfl,_⟩:=h
  rfl
 ·obtain ⟨a,ns,rfl,hS,hlen,q⟩:=h
  have hs:sizeLine=16777216:=sizeLine_eq
  have hu:=Nat.lt_of_succ_lt (hu_of hr)
  refine ⟨_,(pss_cons (ps_set (i:=1) sc_law.nd rfl (Or.inl rfl) (pe_mak C_Web_init hr pass1 (pa_cons (pe_lst (pa_cons (pe_strT [97,98] (by decide +kernel)) (pa_cons (pe_strT [98,97] (by decide +kernel)) pa_nil))) pa_nil)))
   (pss_cons (ps_set (i:=2) sc_law.nd rfl (Or.inl rfl) (pe_op op_catL (pe_comp cs_law_0 rfl (pi_list (pe_slice sl_list (pv 0) po_none (po_some pe_int))) (fun cl C s' H' fp=>(pe_cal C__law_ask hr pass1 (pa_cons (pv 0) (pa_cons pe_bl pa_nil))))) (pe_lst (pa_cons (pe_cal C__law_ask hr pass1 (pa_cons (pe_callB (call_sumX rfl) (by rfl) tt.b_sum PyProof.Rows.boot_sum (pa_cons (pv 0) pa_nil)) (pa_cons pe_bl pa_nil))) pa_nil))))
   (pss_cons (ps_setComp (i:=3) cs_law_1 rfl (pi_list (pv 2)) (fun cl C s' H' fp=>(pe_cal C__law_due hr pass1 (pa_cons (pv 0) pa_nil))) sc_law.nd rfl rfl)
   (pss_cons (ps_for PassesOwn.never rfl (pi_zip (by rfl) tt.b_zip (pa_cons (pv 2) (pa_cons (pv 3) pa_nil))) (pg_tup rfl (pgs_cons (pg_name (i:=4) sc_law.nd rfl (Or.inl rfl)) (pgs_cons (pg_name (i:=5) sc_law.nd rfl (Or.inl rfl)) pgs_nil))) (pss_cons (ps_set (i:=6) sc_law.nd rfl (Or.inl rfl) (pe_cal C_answered hr pass1 (pa_cons (pv 1) (pa_cons (pv 4) pa_nil))))
   (pss_one (ps_if (PW.pt (pw_or (pt_not (pt_val (pe_callB call_isinst (by rfl) tt.b_isinstance PyProof.Rows.boot_isinstance (pa_cons (pv 6) (pa_cons (pe_bltn (v:=.ty "str") (u:=.type "str") (by rfl) tt.b_str (by decide +kernel) rfl) pa_nil))))) (pw_or1 (pt_cmpR op_ne_T (pv 6) (pv 5) (nomark _))))) (pss_one (ps_ret pe_bl)) pss_nil))))
   (pss_one (ps_ret (pe_cmpR (op_eq_LT hu) (pe_cal C_answers hr pass1 (pa_cons (pe_bm PySem.F.plainAttrs_str PySem.F.slot_str_join PySem.F.type_str_join mt_joinS (pe_strT [10] (by decide +kernel)) (pa_cons (pe_op op_catL (pe_lst (pa_cons (pe_strT [119,111,114,100,115,32,97,98] (by decide +kernel)) (pa_cons (pe_strT [119,111,114,100,115,32,98,97] (by decide +kernel)) pa_nil))) (pe_comp cs_law_2 rfl (pi_list (pv 2)) (fun cl C s' H' fp=>(pe_bmK K rfl PySem.F.plainAttrs_str PySem.F.slot_str_join PySem.F.type_str_join (mt_joinTK K rfl) (pe_strT [32] (by decide +kernel)) (pa_cons (pv 0) pa_nil))))) pa_nil)) pa_nil)) (pv 3) (nomark _)))))))),?_⟩
  (try rw [cxK2]);(try rw [cxK1])
  refine ⟨(by show 2<=sizeLine;omega),fun p0 hp0=>?_⟩
  have s0:=same_upd (o:=.lst [T [97,98],T [98,97]]) hp0
  have h0:upd H p0 (.lst [T [97,98],T [98,97]]) p0=some (.lst (([[97,98],[98,97]]:List (List Nat)).map T)):=upd_same
  generalize upd H p0 (.lst [T [97,98],T [98,97]])=H0 at s0 h0 ⊢
  intro x0 dx0 nx ndx nex
  have s1:Same H0 (upd (upd H0 dx0 (.own x0)) x0 (.ins ad.Web dx0 [])):=fun b o e=>by
   rw [upd_ne (ne_of_none e nx),upd_ne (ne_of_none e ndx)]
   exact e
  refine ⟨x0,dx0,p0,_,2,rfl,upd_same,.inl (SqL.of (s1 _ _ h0)),web_ab,fun tp0 ms H1 hp2 hw2 k2 hx2 ht2=>⟨rfl,?_⟩⟩
  have s01:Same H H1:=s0.trans fun b o e=>k2 b o (s1 b o e) (ne_of_none e nx)
  have hcut:∃ ns2:List Int,cutV (ns.map V.int) none (some 5)=ns2.map V.int∧ns2.length<=5:=by
   show ∃ ns2:List Int,cutV (ns.map V.int) none (some ((5:Nat):Int))=ns2.map V.int∧ns2.length<=5
   unfold cutV
   rw [HT.sIx_nat,HT.sIx_none,<- List.map_drop,<- List.map_take]
   exact ⟨_,rfl,Nat.le_trans (List.length_take_le ..) (by omega)⟩
  obtain ⟨ns2,ecut,hn2⟩:=hcut
  refine ⟨_,rfl,_,rfl,a,_,rfl,s01.seq hS,fun p1 hp1=>?_⟩
  rw [ecut]
  have s2:=same_upd (o:=.lst (ns2.map V.int)) hp1
  have h2:upd H1 p1 (.lst (ns2.map V.int)) p1=some (.lst (ns2.map V.int)):=upd_same
  generalize upd H1 p1 (.lst (ns2.map V.int))=H2 at s2 h2 ⊢
  refine ⟨p1,rfl,⟨_,SqL.of h2⟩,compRl (fun _ o=>∃ q:FA,q.Ok∧o = .tup (q.row.map T)) (reads_list (SqL.of h2)) (by rw [List.length_map];omega) (fun v G hv sG N hN=>?_) fun D as1 H3 hD s3 hd has=>?_⟩
  ·obtain ⟨c,hc,rfl⟩:=List.mem_map.mp hv
   exact ⟨_,rfl,c,false,rfl,fun b fa G' sG' h1 h2 h3=>hN b _ G' sG' h1 h2 ⟨fa,h3,rfl⟩⟩
  have hal:=has.len
  rw [List.length_map] at hal
  obtain ⟨qs1,hok1,has⟩:=r2_fa (has.mono fun v b _ h=>h.2.2)
  have s03:=s01.trans (s2.trans s3)
  refine ⟨_,rfl,a,ns,rfl,s03.seq hS,ns.sum,true,rfl,fun b6 q6 H4 s4 hb6n hb6 hok6=>?_⟩
  refine ⟨(by show 1<=sizeLine;omega),fun p2 hp2'=>?_⟩
  have s5:=same_upd (o:=.lst [.ref b6]) hp2'
  have h5:upd H4 p2 (.lst [.ref b6]) p2=some (.lst [.ref b6]):=upd_same
  generalize upd H4 p2 (.lst [.ref b6])=H5 at s5 h5 ⊢
  refine ⟨D,p2,_,_,rfl,rfl,SqL.of (s5 _ _ (s4 _ _ hd)),SqL.of h5,(by rw [List.length_map];show _+1<=sizeLine;omega),fun L hL=>?_⟩
  rw [show as1.map V.ref++[V.ref b6]=(as1++[b6]).map V.ref by rw [List.map_append];rfl]
  have s6:=same_upd (o:=.lst ((as1++[b6]).map V.ref)) hL
  have h6:upd H5 L (.lst ((as1++[b6]).map V.ref)) L=some (.lst ((as1++[b6]).map V.ref)):=upd_same
  generalize upd H5 L (.lst ((as1++[b6]).map V.ref))=H6 at s6 h6 ⊢
  have hR:Dt.R2 (fun q b=>H6 b=some (.tup (FA.row q |>.map T))) (qs1++[q6]) (as1++[b6]):=Dt.R2.snoc (has.mono fun r b _ h=>s6 _ _ (s5 _ _ (s4 _ _ h))) (s6 _ _ (s5 _ _ hb6))
  have hok:∀ fa∈qs1++[q6],fa.Ok:=fun fa hfa=>by
   rcases List.mem_append.mp hfa with h | h
   ·exact hok1 fa h
   ·rw [List.mem_singleton.mp h];exact hok6
  have hql:(as1++[b6]).length<=6:=by rw [List.length_append,List.length_singleton];omega
  generalize qs1++[q6]=qs at hR hok
  generalize as1++[b6]=as at hR h6 hql
  have hqa:=hR.len
  have s06:=s03.trans (s4.trans (s5.trans s6))
  refine ⟨_,rfl,L,rfl,⟨_,SqL.of h6⟩,comp_list (fun i=>T (((qs.map FA.ans)[i]?).getD [])) (SqL.of h6) (by rw [List.length_map];omega) (fun i y G hy sG N hN=>?_) fun D2 H7 hD2 s7 hd2=>?_⟩
  ·obtain ⟨b,fa,rfl,hfa,hb⟩:=tp_join hR hy
   refine ⟨_,rfl,b,fa,rfl,SqT.of (sG _ _ hb),hok fa (List.mem_of_getElem? hfa),fun G2 s2=>?_⟩
   have:=hN G2 s2
   rw [List.getElem?_map,hfa] at this
   exact this
  rw [List.length_map,<- hqa,<- List.length_map (f:=FA.ans) (as:=qs),show (List.range (qs.map FA.ans).length).map (fun i=>T (((qs.map FA.ans)[i]?).getD []))=((List.range (qs.map FA.ans).length).map fun i=>((qs.map FA.ans)[i]?).getD []).map T by rw [List.map_map];rfl,rng_map] at hd2
  have h7:=s7 _ _ h6
  have hR7:Dt.R2 (fun q b=>H7 b=some (.tup (FA.row q |>.map T))) qs as:=hR.mono fun r b _ h=>s7 _ _ h
  refine ⟨_,rfl,_,rfl,L,D2,rfl,⟨_,SqL.of h7⟩,⟨_,SqL.of hd2⟩,?_⟩
  refine for_zip (K:=K) (a:=L) (b:=D2) (xs:=as.map V.ref) (ys:=(qs.map FA.ans).map T) (fun i σ G=>Same H7 G∧∃ v4 v5 v6:Option V,σ=[some (.ref a),some (.ref x0),some (.ref L),some (.ref D2),v4,v5,v6]) ⟨Same.refl _,none,none,none,rfl⟩ (by rw [List.length_map,List.length_map,List.length_map,hqa]) (fun i σ G _ h=>⟨SqL.of (h.1 _ _ h7),SqL.of (h.1 _ _ hd2)⟩) ?_ ?_
  ·rintro i y z S σ G hy hz hSn ⟨sG,v4,v5,v6,rfl⟩
   obtain ⟨b,fa,rfl,hfa,hb⟩:=tp_join hR7 hy
   rw [List.getElem?_map,List.getElem?_map,hfa] at hz
   obtain rfl:T fa.ans=z:=Option.some.inj hz
   have t1:=same_upd (o:=.tup [.ref b,T fa.ans]) hSn
   refine ⟨S,_,rfl,SqT.of upd_same,rfl,_,_,rfl,_,_,rfl,rfl,?_⟩
   generalize upd G S (.tup [.ref b,T fa.ans])=G1 at t1 ⊢
   refine ⟨_,rfl,_,rfl,_,b,fa,rfl,SqT.of (t1 _ _ (sG _ _ hb)),hok fa (List.mem_of_getElem? hfa),fun G2 s2=>?_⟩
   refine ⟨_,rfl,_,_,_,_,rfl,.str _,kit_same _,_,rfl,iteF ?_⟩
   refine ⟨_,rfl,_,rfl,_,rfl,_,rfl,_,rfl,itN (by simp) ?_⟩
   exact ⟨sG.trans (t1.trans s2),_,_,_,rfl⟩
  ·rintro σ G ⟨sG,v4,v5,v6,rfl⟩
   refine ⟨rfl,(by show 2<=sizeLine;omega),fun p3 hp3=>?_⟩
   have t3:=same_upd (o:=.lst [T [119,111,114,100,115,32,97,98],T [119,111,114,100,115,32,98,97]]) hp3
   have l3:upd G p3 (.lst [T [119,111,114,100,115,32,97,98],T [119,111,114,100,115,32,98,97]]) p3=some (.lst (([[[119,111,114,100,115],[97,98]],[[119,111,114,100,115],[98,97]]].map (jnS [32])).map T)):=upd_same
   generalize upd G p3 (.lst [T [119,111,114,100,115,32,97,98],T [119,111,114,100,115,32,98,97]])=G3 at t3 l3 ⊢
   have hR3:Dt.R2 (fun q b=>G3 b=some (.tup (FA.row q |>.map T))) qs as:=hR7.mono fun r b _ h=>t3 _ _ (sG _ _ h)
   have hask:∀ r∈qs.map FA.row,AskOk r:=fun r hr=>by
    obtain ⟨fa,hfa,rfl⟩:=List.mem_map.mp hr
    exact ok_ask (hok fa hfa)
   obtain ⟨e1,e2,e3,e4,e5,e6,e7,e8,e9,e10,e11,e12⟩:=page_read (tb:=[]) (asks:=qs.map FA.row) size_22 page_ab (fun t ht=>by cases ht) (Nat.zero_le _) (by rw [noBar_nil];exact fun z=>(by cases z)) hask (by rw [List.length_map];omega)
   rw [show [[[119,111,114,100,115],[97,98]],[[119,111,114,100,115],[98,97]]]++([]:List (List Nat)).map barRow++qs.map FA.row=[[[119,111,114,100,115],[97,98]],[[119,111,114,100,115],[98,97]]]++qs.map FA.row from rfl] at e1 e2 e3 e4 e5 e6 e7 e8 e10 e12
   refine ⟨_,rfl,L,rfl,⟨_,SqL.of (t3 _ _ (sG _ _ h7))⟩,comp_list (fun i=>T (jnS [32] (((qs.map FA.row)[i]?).getD []))) (SqL.of (t3 _ _ (sG _ _ h7))) (by rw [List.length_map];omega) (fun i y G' hy sG' N hN=>?_) fun D4 G4 hD4 s4' hd4=>?_⟩
   ·obtain ⟨b,fa,rfl,hfa,hb⟩:=tp_join hR3 hy
    have:=hN G' (Same.refl _)
    rw [List.getElem?_map,hfa] at this
    have hrs:=(ask_row (ok_ask (hok fa (List.mem_of_getElem? hfa)))).2.2.1
    exact ⟨rfl,_,rfl,[32],b,fa.row,rfl,rfl,SqT.of (sG' _ _ hb),(by show fa.row.flatten.length+fa.row.length*1<=sizeLine;omega),this⟩
   rw [List.length_map,<- hqa,<- List.length_map (f:=FA.row) (as:=qs),show (List.range (qs.map FA.row).length).map (fun i=>T (jnS [32] (((qs.map FA.row)[i]?).getD [])))=(((List.range (qs.map FA.row).length).map fun i=>((qs.map FA.row)[i]?).getD []).map (jnS [32])).map T by rw [List.map_map,List.map_map];rfl,rng_map] at hd4
   refine ⟨p3,D4,_,_,rfl,rfl,SqL.of (s4' _ _ l3),SqL.of hd4,(by simp only [List.length_map,List.length_cons,List.length_nil];omega),fun p5 hp5=>?_⟩
   rw [<- List.map_append,<- List.map_append]
   generalize hRS:[[[119,111,114,100,115],[97,98]],[[119,111,114,100,115],[98,97]]]++qs.map FA.row=RS at e1 e2 e3 e4 e5 e6 e7 e8 e10 e12
   have t5:=same_upd (o:=.lst ((RS.map (jnS [32])).map T)) hp5
   refine ⟨[10],p5,_,rfl,rfl,SqL.of upd_same,(by rw [List.length_map];show _+RS.length*1<=sizeLine;omega),?_⟩
   generalize jnS [10] (RS.map (jnS [32]))=t at e1 e5 ⊢
   have e11':WebOk (keptW (pageRows t) [[97,98],[98,97]]) 2:=by rw [e1,e10];exact e11
   refine ⟨t,[[97,98],[98,97]],2,qs,rfl,e5,(by rw [e1];exact e6),(by rw [e1];exact e7),(by rw [e1];exact e8),(by decide),e11',(by rw [e1];exact e12),hok,(by omega),fun D9 G9 s9 hd9=>?_⟩
   refine ⟨_,rfl,D9,D2,_,_,rfl,rfl,SqL.of hd9,SqL.of (s9 _ _ (t5 _ _ (s4' _ _ (t3 _ _ (sG _ _ hd2))))),?_⟩
   rw [decide_eq_true rfl]
   exact q _
end
def HF (K:PySem.W.Frag)(f:Addr)(nm:Str)(st:Stmt):Prop:=∃ (oc:Value) (od:Option Addr) (kV dc pm:Value) (an:Option Addr) (cd ct:Value) (sl:Array (Option Value)),PySem.W.nsIn K mainGlobals nm=some (some (.ref f))∧K.lookup f=some ⟨oc,od,.func (PySem.W.fnOf nm nm (defArgs st) (defBody st) (defScope st) .none kV dc pm an cd ct),sl⟩∧PySem.W.codeIn K cd nm=true∧PySem.W.keepIn K (.ref f)=true
theorem HF.go {K:PySem.W.Frag}{f:Addr}{nm:Str}{st:Stmt}(h:HF K f nm st):∃ fd,Fun K nm nm st f fd∧PySem.W.nsIn K mainGlobals nm=some (some (.ref f)):=by
 obtain ⟨oc,od,kV,dc,pm,an,cd,ct,sl,a,l,c,k⟩:=h
 exact ⟨_,fun_mk (st:=st) l c k,a⟩
theorem hf_mk {K:PySem.W.Frag}{f:Addr}{nm:Str}{st:Stmt}{oc:Value}{od:Option Addr}{kV dc pm:Value}{an:Option Addr}{cd ct:Value}{sl:Array (Option Value)}(a:PySem.W.nsIn K mainGlobals nm=some (some (.ref f)))(l:K.lookup f=some ⟨oc,od,.func (PySem.W.fnOf nm nm (defArgs st) (defBody st) (defScope st) .none kV dc pm an cd ct),sl⟩)(c:PySem.W.codeIn K cd nm=true)(k:PySem.W.keepIn K (.ref f)=true):HF K f nm st:=⟨oc,od,kV,dc,pm,an,cd,ct,sl,a,l,c,k⟩
theorem mkC (P:Program)(w:World){K:PySem.W.Frag}{mg:Str->Option Value}{h:Heap}(base:Heap)(X:K.In h)(G:h.Ns mainGlobals mg){nm:Str}{st:Stmt}{f:Addr}{fd:FuncData}{k:Nat}{ps:List Str}{sp:Sp}(a:PySem.W.nsIn K mainGlobals nm=some (some (.ref f)))(F:Fun K nm nm st f fd)(ok:FnOk P w K mg base (CX1 P w) k f fd ps sp)(b:Binds K fd ps []):Cal P w K mg base (CX1 P w) nm k ps sp:=⟨⟨_,_,ok,PySem.W.mg_of X G a,F.kp,b⟩⟩
def HM (K:PySem.W.Frag)(C f:Addr)(nm qual:Str)(st:Stmt):Prop:=∃ (oc:Value) (od:Option Addr) (kV dc pm:Value) (an:Option Addr) (cd ct:Value) (sl:Array (Option Value)),PySem.W.findIn K (.ref C) nm=some (some (.ref f))∧K.lookup f=some ⟨oc,od,.func (PySem.W.fnOf nm qual (defArgs st) (defBody st) (defScope st) .none kV dc pm an cd ct),sl⟩∧PySem.W.codeIn K cd qual=true∧PySem.W.keepIn K (.ref f)=true∧PySem.W.isFn K (.ref f)=true
theorem HM.go {K:PySem.W.Frag}{C f:Addr}{nm qual:Str}{st:Stmt}(h:HM K C f nm qual st):∃ fd,Fun K nm qual st f fd∧Meth K C nm f:=by
 obtain ⟨oc,od,kV,dc,pm,an,cd,ct,sl,a,l,c,k,i⟩:=h
 exact ⟨_,fun_mk (st:=st) l c k,⟨a,i,k⟩⟩
theorem hm_mk {K:PySem.W.Frag}{C f:Addr}{nm qual:Str}{st:Stmt}{oc:Value}{od:Option Addr}{kV dc pm:Value}{an:Option Addr}{cd ct:Value}{sl:Array (Option Value)}(a:PySem.W.findIn K (.ref C) nm=some (some (.ref f)))(l:K.lookup f=some ⟨oc,od,.func (PySem.W.fnOf nm qual (defArgs st) (defBody st) (defScope st) .none kV dc pm an cd ct),sl⟩)(c:PySem.W.codeIn K cd qual=true)(k:PySem.W.keepIn K (.ref f)=true)(i:PySem.W.isFn K (.ref f)=true):HM K C f nm qual st:=⟨oc,od,kV,dc,pm,an,cd,ct,sl,a,l,c,k,i⟩
theorem bd1 {K:PySem.W.Frag}{x qual:Str}{S:Stmt}{f:Addr}{fd:FuncData}{p:Str}(F:Fun K x qual S f fd)(h:∀ (v w z:Value) (n:Option Addr) (g i a:Value),bindArgs (PySem.W.fnOf x qual (defArgs S) (defBody S) (defScope S) .none v w z n g i) ⟨[a],[]⟩=pure (List.zip [p] [a]):=by intros;rfl):Binds K fd [p] []:=F.binds fun v w z n g i us hl=>L2.on1 (C:=fun us=>bindArgs _ ⟨us,[]⟩=pure (List.zip _ us)) hl (h v w z n g i)
theorem bd2 {K:PySem.W.Frag}{x qual:Str}{S:Stmt}{f:Addr}{fd:FuncData}{p q:Str}(F:Fun K x qual S f fd)(h:∀ (v w z:Value) (n:Option Addr) (g i a b:Value),bindArgs (PySem.W.fnOf x qual (defArgs S) (defBody S) (defScope S) .none v w z n g i) ⟨[a,b],[]⟩=pure (List.zip [p,q] [a,b]):=by intros;rfl):Binds K fd [p,q] []:=F.binds fun v w z n g i us hl=>L2.on2 (C:=fun us=>bindArgs _ ⟨us,[]⟩=pure (List.zip _ us)) hl (h v w z n g i)
theorem bd3 {K:PySem.W.Frag}{x qual:Str}{S:Stmt}{f:Addr}{fd:FuncData}{p q r:Str}(F:Fun K x qual S f fd)(h:∀ (v w z:Value) (n:Option Addr) (g i a b c:Value),bindArgs (PySem.W.fnOf x qual (defArgs S) (defBody S) (defScope S) .none v w z n g i) ⟨[a,b,c],[]⟩=pure (List.zip [p,q,r] [a,b,c]):=by intros;rfl):Binds K fd [p,q,r] []:=F.binds fun v w z n g i us hl=>L2.on3 (C:=fun us=>bindArgs _ ⟨us,[]⟩=pure (List.zip _ us)) hl (h v w z n g i)
theorem bd4 {K:PySem.W.Frag}{x qual:Str}{S:Stmt}{f:Addr}{fd:FuncData}{p q r s:Str}(F:Fun K x qual S f fd)(h:∀ (v w z:Value) (n:Option Addr) (g i a b c d:Value),bindArgs (PySem.W.fnOf x qual (defArgs S) (defBody S) (defScope S) .none v w z n g i) ⟨[a,b,c,d],[]⟩=pure (List.zip [p,q,r,s] [a,b,c,d]):=by intros;rfl):Binds K fd [p,q,r,s] []:=F.binds fun v w z n g i us hl=>L2.on4 (C:=fun us=>bindArgs _ ⟨us,[]⟩=pure (List.zip _ us)) hl (h v w z n g i)
theorem all_mk {l:PySem.W.OpenLaw}{w:World}{K:PySem.W.Frag}{h:Heap}{mg:Str->Option Value}{fa:Addr}(X:K.In h)(G:h.Ns mainGlobals mg)(hfa:mg "law" = some (.ref fa))
  {f_0 f_1 f_2 f_3 f_4 f_5 f_6 f_7 f_8 f_9 f_10 f_11 f_12 f_13 f_14 f_15 f_16 f_17 f_18 f_19 f_20 f_21 f_22 f_23 f_24 f_25 f_26 f_27 f_28 f_29 f_30 f_31 f_32 f_33 f_34 f_35 f_36 f_37 f_38 f_39 f_40 f_41 f_42 f_43 f_44 f_45 f_46 f_47 f_48 f_49 f_50:Addr}
  {f_51:Addr} {od_51 an_51:Option Addr} {sl_51:Array (Option Value)} {oc_51 kV_51 dc_51 pm_51 cd_51 ct_51:Value}
  {c_BadKinds c_BadWord c_NoSuch c_TooMany c_OnceError c_BadText c_Web c_ASKS c_AHEAD:Addr} {u_LETTERS u_LONGEST u_MOST_WORDS u_MOST_OF_A_WEB u_LONGEST_OF_A_WEB u_MOST_OF_A_RULE u_LONGEST_OF_A_RULE u_FIGURES u_MOST_FIGURES u_MOST_LETTERS u_MOST_OF_A_PIECE:Value}
  (h_0:HF K f_0 "looked_kinds" s_looked_kinds)
  (h_1:HF K f_1 "looked_length" s_looked_length)
  (h_2:HF K f_2 "letters" s_letters)
  (h_3:HF K f_3 "looked" s_looked)
  (h_4:HF K f_4 "word_total" s_word_total)
  (h_5:HF K f_5 "spelled" s_spelled)
  (h_6:HF K f_6 "turned" s_turned)
  (h_7:HF K f_7 "turn_by" s_turn_by)
  (h_8:HF K f_8 "least_turn" s_least_turn)
  (h_9:HF K f_9 "times_of" s_times_of)
  (h_10:HF K f_10 "root" s_root)
  (h_11:HF K f_11 "is_least" s_is_least)
  (h_12:HF K f_12 "filled" s_filled)
  (h_13:HF K f_13 "is_beginning" s_is_beginning)
  (h_14:HF K f_14 "least_from" s_least_from)
  (h_15:HF K f_15 "least_beginning" s_least_beginning)
  (h_16:HF K f_16 "next_least" s_next_least)
  (h_17:HF K f_17 "last_least" s_last_least)
  (h_18:HF K f_18 "rests" s_rests)
  (h_19:HF K f_19 "count_above" s_count_above)
  (h_20:HF K f_20 "up_to" s_up_to)
  (h_21:HF K f_21 "first_word_above" s_first_word_above)
  (h_22:HF K f_22 "looked_first" s_looked_first)
  (h_23:HF K f_23 "count_below" s_count_below)
  (h_24:HF K f_24 "begin_place" s_begin_place)
  (h_25:HF K f_25 "ring_size" s_ring_size)
  (h_26:HF K f_26 "put_together" s_put_together)
  (h_27:HF K f_27 "piece_at" s_piece_at)
  (h_28:HF K f_28 "looked_for" s_looked_for)
  (h_29:HF K f_29 "place_of" s_place_of)
  (h_30:HF K f_30 "all_words" s_all_words)
  (h_31:HF K f_31 "looked_web" s_looked_web)
  (h_32:HM K c_Web f_32 "__init__" "Web.__init__" s_Web_init)
  (h_33:HF K f_33 "looked_size" s_looked_size)
  (h_34:HF K f_34 "is_made_of" s_is_made_of)
  (h_35:HF K f_35 "is_number" s_is_number)
  (h_36:HF K f_36 "is_text" s_is_text)
  (h_37:HF K f_37 "form_of" s_form_of)
  (h_38:HF K f_38 "kind_of" s_kind_of)
  (h_39:HF K f_39 "looked_rows" s_looked_rows)
  (h_40:HF K f_40 "told_words" s_told_words)
  (h_41:HF K f_41 "read_page" s_read_page)
  (h_42:HF K f_42 "far_told" s_far_told)
  (h_43:HF K f_43 "far_or_refused" s_far_or_refused)
  (h_44:HF K f_44 "answered" s_answered)
  (h_45:HF K f_45 "answers" s_answers)
  (h_46:HF K f_46 "_law_stir" s__law_stir)
  (h_47:HF K f_47 "_law_text" s__law_text)
  (h_48:HF K f_48 "_law_least" s__law_least)
  (h_49:HF K f_49 "_law_ask" s__law_ask)
  (h_50:HF K f_50 "_law_due" s__law_due)
  (a_51:PySem.W.nsIn K mainGlobals "law" = some (some (.ref f_51))) (l_51:K.lookup f_51=some ⟨oc_51,od_51,.func (PySem.W.fnOf "law" "law" (defArgs s_law) (defBody s_law) (defScope s_law) .none kV_51 dc_51 pm_51 an_51 cd_51 ct_51),sl_51⟩) (c_51:PySem.W.codeIn K cd_51 "law" = true) (k_51:PySem.W.keepIn K (.ref f_51)=true)
  (z_all:PySem.W.nsIn K mainGlobals "all" = some none)
  (z_any:PySem.W.nsIn K mainGlobals "any" = some none)
  (z_enumerate:PySem.W.nsIn K mainGlobals "enumerate" = some none)
  (z_int:PySem.W.nsIn K mainGlobals "int" = some none)
  (z_isinstance:PySem.W.nsIn K mainGlobals "isinstance" = some none)
  (z_len:PySem.W.nsIn K mainGlobals "len" = some none)
  (z_max:PySem.W.nsIn K mainGlobals "max" = some none)
  (z_min:PySem.W.nsIn K mainGlobals "min" = some none)
  (z_range:PySem.W.nsIn K mainGlobals "range" = some none)
  (z_reversed:PySem.W.nsIn K mainGlobals "reversed" = some none)
  (z_set:PySem.W.nsIn K mainGlobals "set" = some none)
  (z_sorted:PySem.W.nsIn K mainGlobals "sorted" = some none)
  (z_str:PySem.W.nsIn K mainGlobals "str" = some none)
  (z_sum:PySem.W.nsIn K mainGlobals "sum" = some none)
  (z_tuple:PySem.W.nsIn K mainGlobals "tuple" = some none)
  (z_zip:PySem.W.nsIn K mainGlobals "zip" = some none)
  (y_BadKinds:PySem.W.nsIn K mainGlobals "BadKinds" = some (some (.ref c_BadKinds)))
  (y_BadWord:PySem.W.nsIn K mainGlobals "BadWord" = some (some (.ref c_BadWord)))
  (y_NoSuch:PySem.W.nsIn K mainGlobals "NoSuch" = some (some (.ref c_NoSuch)))
  (y_TooMany:PySem.W.nsIn K mainGlobals "TooMany" = some (some (.ref c_TooMany)))
  (y_OnceError:PySem.W.nsIn K mainGlobals "OnceError" = some (some (.ref c_OnceError)))
  (y_BadText:PySem.W.nsIn K mainGlobals "BadText" = some (some (.ref c_BadText)))
  (y_Web:PySem.W.nsIn K mainGlobals "Web" = some (some (.ref c_Web)))
  (y_ASKS:PySem.W.nsIn K mainGlobals "ASKS" = some (some (.ref c_ASKS)))
  (y_AHEAD:PySem.W.nsIn K mainGlobals "AHEAD" = some (some (.ref c_AHEAD)))
  (e_BadKinds:PySem.W.excIn K c_BadKinds bmVE "ValueError.__new__" = true)
  (e_BadWord:PySem.W.excIn K c_BadWord bmVE "ValueError.__new__" = true)
  (e_NoSuch:PySem.W.excIn K c_NoSuch bmVE "ValueError.__new__" = true)
  (e_TooMany:PySem.W.excIn K c_TooMany bmVE "ValueError.__new__" = true)
  (g_LETTERS:PySem.W.nsIn K mainGlobals "LETTERS" = some (some u_LETTERS)) (r_LETTERS:RelV (T [97,98,99,100,101,102]) u_LETTERS)
  (g_LONGEST:PySem.W.nsIn K mainGlobals "LONGEST" = some (some u_LONGEST)) (r_LONGEST:RelV (.int 24) u_LONGEST)
  (g_MOST_WORDS:PySem.W.nsIn K mainGlobals "MOST_WORDS" = some (some u_MOST_WORDS)) (r_MOST_WORDS:RelV (.int 4096) u_MOST_WORDS)
  (g_MOST_OF_A_WEB:PySem.W.nsIn K mainGlobals "MOST_OF_A_WEB" = some (some u_MOST_OF_A_WEB)) (r_MOST_OF_A_WEB:RelV (.int 64) u_MOST_OF_A_WEB)
  (g_LONGEST_OF_A_WEB:PySem.W.nsIn K mainGlobals "LONGEST_OF_A_WEB" = some (some u_LONGEST_OF_A_WEB)) (r_LONGEST_OF_A_WEB:RelV (.int 8) u_LONGEST_OF_A_WEB)
  (g_MOST_OF_A_RULE:PySem.W.nsIn K mainGlobals "MOST_OF_A_RULE" = some (some u_MOST_OF_A_RULE)) (r_MOST_OF_A_RULE:RelV (.int 64) u_MOST_OF_A_RULE)
  (g_LONGEST_OF_A_RULE:PySem.W.nsIn K mainGlobals "LONGEST_OF_A_RULE" = some (some u_LONGEST_OF_A_RULE)) (r_LONGEST_OF_A_RULE:RelV (.int 8) u_LONGEST_OF_A_RULE)
  (g_FIGURES:PySem.W.nsIn K mainGlobals "FIGURES" = some (some u_FIGURES)) (r_FIGURES:RelV (T [48,49,50,51,52,53,54,55,56,57]) u_FIGURES)
  (g_MOST_FIGURES:PySem.W.nsIn K mainGlobals "MOST_FIGURES" = some (some u_MOST_FIGURES)) (r_MOST_FIGURES:RelV (.int 60) u_MOST_FIGURES)
  (g_MOST_LETTERS:PySem.W.nsIn K mainGlobals "MOST_LETTERS" = some (some u_MOST_LETTERS)) (r_MOST_LETTERS:RelV (.int 200) u_MOST_LETTERS)
  (g_MOST_OF_A_PIECE:PySem.W.nsIn K mainGlobals "MOST_OF_A_PIECE" = some (some u_MOST_OF_A_PIECE)) (r_MOST_OF_A_PIECE:RelV (.int 200) u_MOST_OF_A_PIECE)
  (k_asks:tabIs K c_ASKS asksD=true)
  (k_ahead:tabIs K c_AHEAD aheadD=true)
  (e_KK:PySem.W.exmOne K (.ref c_BadKinds) (.ref c_BadKinds)=some true)
  (e_KW:PySem.W.exmOne K (.ref c_BadKinds) (.ref c_BadWord)=some false)
  (e_KM:PySem.W.exmOne K (.ref c_BadKinds) (.ref c_TooMany)=some false)
  (e_KS:PySem.W.exmOne K (.ref c_BadKinds) (.ref c_NoSuch)=some false)
  (e_WK:PySem.W.exmOne K (.ref c_BadWord) (.ref c_BadKinds)=some false)
  (e_WW:PySem.W.exmOne K (.ref c_BadWord) (.ref c_BadWord)=some true)
  (e_WM:PySem.W.exmOne K (.ref c_BadWord) (.ref c_TooMany)=some false)
  (e_WS:PySem.W.exmOne K (.ref c_BadWord) (.ref c_NoSuch)=some false)
  (e_MK:PySem.W.exmOne K (.ref c_TooMany) (.ref c_BadKinds)=some false)
  (e_MW:PySem.W.exmOne K (.ref c_TooMany) (.ref c_BadWord)=some false)
  (e_MM:PySem.W.exmOne K (.ref c_TooMany) (.ref c_TooMany)=some true)
  (e_MS:PySem.W.exmOne K (.ref c_TooMany) (.ref c_NoSuch)=some false)
  (e_SK:PySem.W.exmOne K (.ref c_NoSuch) (.ref c_BadKinds)=some false)
  (e_SW:PySem.W.exmOne K (.ref c_NoSuch) (.ref c_BadWord)=some false)
  (e_SM:PySem.W.exmOne K (.ref c_NoSuch) (.ref c_TooMany)=some false)
  (e_SS:PySem.W.exmOne K (.ref c_NoSuch) (.ref c_NoSuch)=some true)
  (pg_Web:PySem.W.plainGet K c_Web Str.empty=true) (hd_Web:PySem.W.hasDictIn K c_Web=true) (po_Web:PySem.W.plainOver K c_Web=true) (sa_Web:PySem.W.findIn K (.ref c_Web) "__setattr__" = some (some (.builtin "object.__setattr__"))) (mk_Web:PySem.W.makesIn K c_Web=true) (kc_Web:PySem.W.keepIn K (.ref c_Web)=true)
  (na_Web_words:PySem.W.findIn K (.ref c_Web) "words" = some none)
  (na_Web_length:PySem.W.findIn K (.ref c_Web) "length" = some none) :
  ∃ fd:FuncData,(∀ (s:Shared) (v:Value),BindsTo s fd ⟨[v],[]⟩ [("script",v)])∧∀ base:Heap,K.In base->base.Ns mainGlobals mg->FnOk l.prog w K mg base (CX1 l.prog w) 14 fa fd ["script"] (spLaw K):=by
 have e:=hfa.symm.trans (PySem.W.mg_of X G a_51)
 cases e
 obtain ⟨_,F_32,M_Web_init⟩:=h_32.go
 have tt:Txt K mg ⟨c_BadKinds,c_BadWord,c_NoSuch,c_TooMany,c_OnceError,c_BadText,c_Web,c_ASKS,c_AHEAD,u_LETTERS,u_LONGEST,u_MOST_WORDS,u_MOST_OF_A_WEB,u_LONGEST_OF_A_WEB,u_MOST_OF_A_RULE,u_LONGEST_OF_A_RULE,u_FIGURES,u_MOST_FIGURES,u_MOST_LETTERS,u_MOST_OF_A_PIECE⟩:=⟨PySem.W.mg_none_of X G z_all,PySem.W.mg_none_of X G z_any,PySem.W.mg_none_of X G z_enumerate,PySem.W.mg_none_of X G z_int,PySem.W.mg_none_of X G z_isinstance,PySem.W.mg_none_of X G z_len,PySem.W.mg_none_of X G z_max,PySem.W.mg_none_of X G z_min,PySem.W.mg_none_of X G z_range,PySem.W.mg_none_of X G z_reversed,PySem.W.mg_none_of X G z_set,PySem.W.mg_none_of X G z_sorted,PySem.W.mg_none_of X G z_str,PySem.W.mg_none_of X G z_sum,PySem.W.mg_none_of X G z_tuple,PySem.W.mg_none_of X G z_zip,PySem.W.mg_of X G y_BadKinds,PySem.W.mg_of X G y_BadWord,PySem.W.mg_of X G y_NoSuch,PySem.W.mg_of X G y_TooMany,PySem.W.mg_of X G y_OnceError,PySem.W.mg_of X G y_BadText,PySem.W.mg_of X G y_Web,PySem.W.mg_of X G y_ASKS,PySem.W.mg_of X G y_AHEAD,⟨PySem.W.mg_of X G y_BadKinds,e_BadKinds⟩,⟨PySem.W.mg_of X G y_BadWord,e_BadWord⟩,⟨PySem.W.mg_of X G y_NoSuch,e_NoSuch⟩,⟨PySem.W.mg_of X G y_TooMany,e_TooMany⟩,PySem.W.mg_of X G g_LETTERS,r_LETTERS,PySem.W.mg_of X G g_LONGEST,r_LONGEST,PySem.W.mg_of X G g_MOST_WORDS,r_MOST_WORDS,PySem.W.mg_of X G g_MOST_OF_A_WEB,r_MOST_OF_A_WEB,PySem.W.mg_of X G g_LONGEST_OF_A_WEB,r_LONGEST_OF_A_WEB,PySem.W.mg_of X G g_MOST_OF_A_RULE,r_MOST_OF_A_RULE,PySem.W.mg_of X G g_LONGEST_OF_A_RULE,r_LONGEST_OF_A_RULE,PySem.W.mg_of X G g_FIGURES,r_FIGURES,PySem.W.mg_of X G g_MOST_FIGURES,r_MOST_FIGURES,PySem.W.mg_of X G g_MOST_LETTERS,r_MOST_LETTERS,PySem.W.mg_of X G g_MOST_OF_A_PIECE,r_MOST_OF_A_PIECE,k_asks,k_ahead,e_KK,e_KW,e_KM,e_KS,e_WK,e_WW,e_WM,e_WS,e_MK,e_MW,e_MM,e_MS,e_SK,e_SW,e_SM,e_SS,⟨pg_Web,hd_Web,po_Web,sa_Web⟩,na_Web_words,na_Web_length⟩
 obtain ⟨_,F_0,a_0⟩:=h_0.go
 obtain ⟨_,F_1,a_1⟩:=h_1.go
 obtain ⟨_,F_2,a_2⟩:=h_2.go
 obtain ⟨_,F_3,a_3⟩:=h_3.go
 obtain ⟨_,F_4,a_4⟩:=h_4.go
 obtain ⟨_,F_5,a_5⟩:=h_5.go
 obtain ⟨_,F_6,a_6⟩:=h_6.go
 obtain ⟨_,F_7,a_7⟩:=h_7.go
 obtain ⟨_,F_8,a_8⟩:=h_8.go
 obtain ⟨_,F_9,a_9⟩:=h_9.go
 obtain ⟨_,F_10,a_10⟩:=h_10.go
 obtain ⟨_,F_11,a_11⟩:=h_11.go
 obtain ⟨_,F_12,a_12⟩:=h_12.go
 obtain ⟨_,F_13,a_13⟩:=h_13.go
 obtain ⟨_,F_14,a_14⟩:=h_14.go
 obtain ⟨_,F_15,a_15⟩:=h_15.go
 obtain ⟨_,F_16,a_16⟩:=h_16.go
 obtain ⟨_,F_17,a_17⟩:=h_17.go
 obtain ⟨_,F_18,a_18⟩:=h_18.go
 obtain ⟨_,F_19,a_19⟩:=h_19.go
 obtain ⟨_,F_20,a_20⟩:=h_20.go
 obtain ⟨_,F_21,a_21⟩:=h_21.go
 obtain ⟨_,F_22,a_22⟩:=h_22.go
 obtain ⟨_,F_23,a_23⟩:=h_23.go
 obtain ⟨_,F_24,a_24⟩:=h_24.go
 obtain ⟨_,F_25,a_25⟩:=h_25.go
 obtain ⟨_,F_26,a_26⟩:=h_26.go
 obtain ⟨_,F_27,a_27⟩:=h_27.go
 obtain ⟨_,F_28,a_28⟩:=h_28.go
 obtain ⟨_,F_29,a_29⟩:=h_29.go
 obtain ⟨_,F_30,a_30⟩:=h_30.go
 obtain ⟨_,F_31,a_31⟩:=h_31.go
 obtain ⟨_,F_33,a_33⟩:=h_33.go
 obtain ⟨_,F_34,a_34⟩:=h_34.go
 obtain ⟨_,F_35,a_35⟩:=h_35.go
 obtain ⟨_,F_36,a_36⟩:=h_36.go
 obtain ⟨_,F_37,a_37⟩:=h_37.go
 obtain ⟨_,F_38,a_38⟩:=h_38.go
 obtain ⟨_,F_39,a_39⟩:=h_39.go
 obtain ⟨_,F_40,a_40⟩:=h_40.go
 obtain ⟨_,F_41,a_41⟩:=h_41.go
 obtain ⟨_,F_42,a_42⟩:=h_42.go
 obtain ⟨_,F_43,a_43⟩:=h_43.go
 obtain ⟨_,F_44,a_44⟩:=h_44.go
 obtain ⟨_,F_45,a_45⟩:=h_45.go
 obtain ⟨_,F_46,a_46⟩:=h_46.go
 obtain ⟨_,F_47,a_47⟩:=h_47.go
 obtain ⟨_,F_48,a_48⟩:=h_48.go
 obtain ⟨_,F_49,a_49⟩:=h_49.go
 obtain ⟨_,F_50,a_50⟩:=h_50.go
 have F_51:=fun_mk (st:=s_law) l_51 c_51 k_51
 refine ⟨PySem.W.fnOf "law" "law" (defArgs s_law) (defBody s_law) (defScope s_law) .none kV_51 dc_51 pm_51 an_51 cd_51 ct_51,fun s v=>.of_eq rfl,fun base _ _=>?_⟩
 have C_0:=mkC l.prog w base X G a_0 F_0 (ok_looked_kinds F_0 tt) (bd1 F_0)
 have C_1:=mkC l.prog w base X G a_1 F_1 (ok_looked_length F_1 tt C_0) (bd2 F_1)
 have C_2:=mkC l.prog w base X G a_2 F_2 (ok_letters F_2 tt C_0) (bd1 F_2)
 have C_3:=mkC l.prog w base X G a_3 F_3 (ok_looked F_3 tt C_1 C_2) (bd2 F_3)
 have C_4:=mkC l.prog w base X G a_4 F_4 (ok_word_total F_4 tt) (bd2 F_4)
 have C_5:=mkC l.prog w base X G a_5 F_5 (ok_spelled F_5 tt) (bd3 F_5)
 have C_6:=mkC l.prog w base X G a_6 F_6 (ok_turned F_6 tt) (bd2 F_6)
 have C_7:=mkC l.prog w base X G a_7 F_7 (ok_turn_by F_7 tt C_6) (bd1 F_7)
 have C_8:=mkC l.prog w base X G a_8 F_8 (ok_least_turn F_8 tt C_6 C_7) (bd1 F_8)
 have C_9:=mkC l.prog w base X G a_9 F_9 (ok_times_of F_9 tt) (bd1 F_9)
 have C_10:=mkC l.prog w base X G a_10 F_10 (ok_root F_10 tt C_9) (bd1 F_10)
 have C_11:=mkC l.prog w base X G a_11 F_11 (ok_is_least F_11 tt C_7) (bd1 F_11)
 have C_12:=mkC l.prog w base X G a_12 F_12 (ok_filled F_12 tt C_2) (bd3 F_12)
 have C_13:=mkC l.prog w base X G a_13 F_13 (ok_is_beginning F_13 tt C_11 C_12) (bd3 F_13)
 have C_14:=mkC l.prog w base X G a_14 F_14 (ok_least_from F_14 tt C_2 C_13) (bd3 F_14)
 have C_15:=mkC l.prog w base X G a_15 F_15 (ok_least_beginning F_15 tt C_1 C_3 C_13 C_14) (bd3 F_15)
 have C_16:=mkC l.prog w base X G a_16 F_16 (ok_next_least F_16 tt C_3 C_2 C_13 C_14) (bd2 F_16)
 have C_17:=mkC l.prog w base X G a_17 F_17 (ok_last_least F_17 tt C_3 C_11 C_12) (bd2 F_17)
 have C_18:=mkC l.prog w base X G a_18 F_18 (ok_rests F_18 tt) (bd1 F_18)
 have C_19:=mkC l.prog w base X G a_19 F_19 (ok_count_above F_19 tt C_18) (bd2 F_19)
 have C_20:=mkC l.prog w base X G a_20 F_20 (ok_up_to F_20 tt C_3 C_4 C_19 C_17) (bd2 F_20)
 have C_21:=mkC l.prog w base X G a_21 F_21 (ok_first_word_above F_21 tt C_1 C_4 C_5) (bd4 F_21)
 have C_22:=mkC l.prog w base X G a_22 F_22 (ok_looked_first F_22 tt C_3 C_11) (bd2 F_22)
 have C_23:=mkC l.prog w base X G a_23 F_23 (ok_count_below F_23 tt C_20 C_10) (bd2 F_23)
 have C_24:=mkC l.prog w base X G a_24 F_24 (ok_begin_place F_24 tt C_23) (bd3 F_24)
 have C_25:=mkC l.prog w base X G a_25 F_25 (ok_ring_size F_25 tt C_22 C_4 C_23) (bd2 F_25)
 have C_26:=mkC l.prog w base X G a_26 F_26 (ok_put_together F_26 tt C_10 C_16) (bd4 F_26)
 have C_27:=mkC l.prog w base X G a_27 F_27 (ok_piece_at F_27 tt C_25 C_23 C_21 C_20 C_26) (bd4 F_27)
 have C_28:=mkC l.prog w base X G a_28 F_28 (ok_looked_for F_28 tt C_22 C_3 C_8) (bd3 F_28)
 have C_29:=mkC l.prog w base X G a_29 F_29 (ok_place_of F_29 tt C_28 C_25 C_2 C_7 C_8 C_24 C_10 C_15) (bd3 F_29)
 have C_30:=mkC l.prog w base X G a_30 F_30 (ok_all_words F_30 tt C_1 C_4 C_5) (bd2 F_30)
 have C_31:=mkC l.prog w base X G a_31 F_31 (ok_looked_web F_31 tt C_3) (bd1 F_31)
 have C_32:Cam l.prog w K mg base (CX1 l.prog w) "Web" c_Web 5 ["self", "words"] (spWebI K _):=⟨⟨_,_,ok_Web_init F_32 tt C_31,⟨mk_Web,M_Web_init.at_,M_Web_init.fn,kc_Web⟩,PySem.W.mg_of X G y_Web,(bd2 F_32)⟩⟩
 have C_33:=mkC l.prog w base X G a_33 F_33 (ok_looked_size F_33 tt C_0 C_4) (bd2 F_33)
 have C_34:=mkC l.prog w base X G a_34 F_34 (ok_is_made_of F_34 tt) (bd3 F_34)
 have C_35:=mkC l.prog w base X G a_35 F_35 (ok_is_number F_35 tt C_34) (bd1 F_35)
 have C_36:=mkC l.prog w base X G a_36 F_36 (ok_is_text F_36 tt C_34) (bd1 F_36)
 have C_37:=mkC l.prog w base X G a_37 F_37 (ok_form_of F_37 tt C_35 C_36) (bd1 F_37)
 have C_38:=mkC l.prog w base X G a_38 F_38 (ok_kind_of F_38 tt C_37) (bd1 F_38)
 have C_39:=mkC l.prog w base X G a_39 F_39 (ok_looked_rows F_39 tt C_38) (bd1 F_39)
 have C_40:=mkC l.prog w base X G a_40 F_40 (ok_told_words F_40 tt C_33 C_30) (bd1 F_40)
 have C_41:=mkC l.prog w base X G a_41 F_41 (ok_read_page F_41 tt C_39 C_40 C_32) (bd1 F_41)
 have C_42:=mkC l.prog w base X G a_42 F_42 (ok_far_told F_42 tt C_29 C_27) (bd1 F_42)
 have C_43:=mkC l.prog w base X G a_43 F_43 (ok_far_or_refused F_43 tt C_42) (bd1 F_43)
 have C_44:=mkC l.prog w base X G a_44 F_44 (ok_answered F_44 tt C_43) (bd2 F_44)
 have C_45:=mkC l.prog w base X G a_45 F_45 (ok_answers F_45 tt C_41 C_44) (bd1 F_45)
 have C_46:=mkC l.prog w base X G a_46 F_46 (ok__law_stir F_46 tt) (bd2 F_46)
 have C_47:=mkC l.prog w base X G a_47 F_47 (ok__law_text F_47 tt C_46) (bd3 F_47)
 have C_48:=mkC l.prog w base X G a_48 F_48 (ok__law_least F_48 tt) (bd1 F_48)
 have C_49:=mkC l.prog w base X G a_49 F_49 (ok__law_ask F_49 tt C_46 C_47 C_48) (bd2 F_49)
 have C_50:=mkC l.prog w base X G a_50 F_50 (ok__law_due F_50 tt C_27 C_29) (bd1 F_50)
 exact ok_law F_51 tt C_32 C_49 C_50 C_44 C_45
theorem walk {l : PySem.W.OpenLaw} {q : Program} {loose : List Str} {XP : (Str → Option Value) → Heap → Prop} {YP : World → Heap → Prop} {d : DefRec} {K : Params → PySem.W.Frag} (hn : l.most = some 63) (hdf : d.params.defaults = [])
  (hY : ∀ (w : World) (h : Heap), YP w h → (K w.params).In h)
  (F : ∀ (w : World) (mg : Str → Option Value) (fa : Addr) (h : Heap), (K w.params).In h → h.Ns mainGlobals mg → mg d.name = some (.ref fa) →
   ∃ fd : FuncData, (∀ (s : Shared) (u : Value), BindsTo s fd ⟨[u], []⟩ [("script", u)]) ∧ ∀ base : Heap, (K w.params).In base → base.Ns mainGlobals mg → FnOk l.prog w (K w.params) mg base (CX1 l.prog w) 14 fa fd ["script"] (spLaw (K w.params))) :
  PySem.W.WalkO q loose XP YP l.row.toRowW d [] (fun f vs => PySem.call f vs) :=
 L2.walk_of (n := 63) (k := 14) (x := "script") (CX := fun w => CX1 l.prog w) (sp := fun w => spLaw (K w.params)) hn (by decide) hdf ⟨rfl, by decide, by decide⟩ hY F (fun _ _ a ns hl _ hS => ⟨a, ns, rfl, hS, hl, fun _ => rfl⟩) fun _ _ _ _ _ ⟨_, _, _, _, _, z⟩ => z
end K81
theorem PySem.W.Fast.tw17628758370563360768:True:=trivial
theorem PySem.W.Fast.tw10603691263558791200:True:=trivial
theorem PySem.W.Fast.tw7044615006925747264:True:=trivial
theorem PySem.W.Fast.tw7778612373204074720:True:=trivial
theorem PySem.W.Fast.tw3261500929815024864:True:=trivial
theorem PySem.W.Fast.tw2974879651223995712:True:=trivial
theorem PySem.W.Fast.tw3078362085197020512:True:=trivial
theorem PySem.W.Fast.tw14706064743601067456:True:=trivial
theorem PySem.W.Fast.tw4622669890784297440:True:=trivial
theorem PySem.W.Fast.tw9802584329486562784:True:=trivial
theorem PySem.W.Fast.tw15569498945649467904:True:=trivial
theorem PySem.W.Fast.tw15462193684209914496:True:=trivial
theorem PySem.W.Fast.tw13308949414532817568:True:=trivial
theorem PySem.W.Fast.tw6767856690839957216:True:=trivial
theorem PySem.W.Fast.tw1178546722506696544:True:=trivial
theorem PySem.W.Fast.tw14376700608678222849:True:=trivial
theorem PySem.W.Fast.tw9276002062476954657:True:=trivial
theorem PySem.W.Fast.tw16465483955169307745:True:=trivial
theorem PySem.W.Fast.tw5528591405724783745:True:=trivial
theorem PySem.W.Fast.tw11308199398667498849:True:=trivial
theorem PySem.W.Fast.tw2778988340656300385:True:=trivial
theorem PySem.W.Fast.tw16503176501227854209:True:=trivial
theorem PySem.W.Fast.tw9254260057148430785:True:=trivial
theorem PySem.W.Fast.tw14515410557212801505:True:=trivial
theorem PySem.W.Fast.tw15012995243710045729:True:=trivial
theorem PySem.W.Fast.tw6043446284669726401:True:=trivial
theorem PySem.W.Fast.tw4270839138083341025:True:=trivial
theorem PySem.W.Fast.tw5599133474533149505:True:=trivial
theorem PySem.W.Fast.tw9847247539349033857:True:=trivial
theorem PySem.W.Fast.tw6404199548661262273:True:=trivial
theorem PySem.W.Fast.tw233136854214155394:True:=trivial
theorem PySem.W.Fast.tw11682852361566800258:True:=trivial
theorem PySem.W.Fast.tw6375584228355982882:True:=trivial
theorem PySem.W.Fast.tw2116524783264915042:True:=trivial
theorem PySem.W.Fast.tw11063198849846304386:True:=trivial
theorem PySem.W.Fast.tw2689157516531156642:True:=trivial
theorem PySem.W.Fast.tw11719085958875737890:True:=trivial
theorem PySem.W.Fast.tw5470856701325226818:True:=trivial
theorem PySem.W.Fast.tw13558804515278758947:True:=trivial
theorem PySem.W.Fast.tw7030232922164859011:True:=trivial
theorem PySem.W.Fast.tw6651513696055856291:True:=trivial
theorem PySem.W.Fast.tw11470504695526420803:True:=trivial
theorem PySem.W.Fast.tw3701075541417575811:True:=trivial
theorem PySem.W.Fast.tw10028490906370890275:True:=trivial
theorem PySem.W.Fast.tw7231971732371892867:True:=trivial
theorem PySem.W.Fast.tw17249669859338741443:True:=trivial
theorem PySem.W.Fast.tw1774888760408932099:True:=trivial
theorem PySem.W.Fast.tw320198742023105315:True:=trivial
theorem PySem.W.Fast.tw8674425140878262115:True:=trivial
theorem PySem.W.Fast.tw14812401235710503779:True:=trivial
theorem PySem.W.Fast.tw11256705072118494083:True:=trivial
theorem PySem.W.Fast.tw798183800701131683:True:=trivial
theorem PySem.W.Fast.tw13330252419738664899:True:=trivial
theorem PySem.W.Fast.tw11360545565147925475:True:=trivial
theorem PySem.W.Fast.tw11740731432772065251:True:=trivial
theorem PySem.W.Fast.tw8039523406861067268:True:=trivial
theorem PySem.W.Fast.tw193342412914065572:True:=trivial
theorem PySem.W.Fast.tw14526740446356773028:True:=trivial
theorem PySem.W.Fast.tw2154090519082360036:True:=trivial
theorem PySem.W.Fast.tw13599334244458164580:True:=trivial
theorem PySem.W.Fast.tw10420726686677268900:True:=trivial
theorem PySem.W.Fast.te15562981892174623236:True:=trivial
theorem PySem.W.Fast.tw3679808526123483684:True:=trivial
theorem PySem.W.Fast.tw5428846870446867012:True:=trivial
theorem PySem.W.Fast.tw6020977005357721188:True:=trivial
theorem PySem.W.Fast.tw8705312351118796484:True:=trivial
theorem PySem.W.Fast.tw15404610608300077764:True:=trivial
theorem PySem.W.Fast.tw9131307733362491108:True:=trivial
theorem PySem.W.Fast.tw7340185837017660132:True:=trivial
theorem PySem.W.Fast.tw15211133411410554692:True:=trivial
theorem PySem.W.Fast.tw3868820652775523172:True:=trivial
theorem PySem.W.Fast.tw4744136429095337860:True:=trivial
theorem PySem.W.Fast.tw13583961579784945797:True:=trivial
theorem PySem.W.Fast.tw1475632007055950981:True:=trivial
theorem PySem.W.Fast.tw18178199217144458437:True:=trivial
theorem PySem.W.Fast.tw6928311845724689637:True:=trivial
theorem PySem.W.Fast.tw2466439698389412069:True:=trivial
theorem PySem.W.Fast.tw7480139382309150949:True:=trivial
theorem PySem.W.Fast.tw8455083378888676613:True:=trivial
theorem PySem.W.Fast.tw11652204383383893253:True:=trivial
theorem PySem.W.Fast.tw8022461526972343589:True:=trivial
theorem PySem.W.Fast.tw9784340023518774629:True:=trivial
theorem PySem.W.Fast.tw10881817097164369317:True:=trivial
theorem PySem.W.Fast.tw13664071891876324869:True:=trivial
theorem PySem.W.Fast.tw5966895735655056965:True:=trivial
theorem PySem.W.Fast.tw13741146377526514277:True:=trivial
theorem PySem.W.Fast.tw5013901072907512581:True:=trivial
theorem PySem.W.Fast.tw1131503929935588101:True:=trivial
theorem PySem.W.Fast.tw1853453407964581765:True:=trivial
theorem PySem.W.Fast.tw7603402550205376421:True:=trivial
theorem PySem.W.Fast.tw7294564076658870342:True:=trivial
theorem PySem.W.Fast.tw4058019761534430278:True:=trivial
theorem PySem.W.Fast.tw15690401799153606854:True:=trivial
theorem PySem.W.Fast.tw1647113905334770918:True:=trivial
theorem PySem.W.Fast.tw4171646567232663814:True:=trivial
theorem PySem.W.Fast.tw1527848873197825318:True:=trivial
theorem PySem.W.Fast.tw7160467569466652038:True:=trivial
theorem PySem.W.Fast.tw6619291420029066694:True:=trivial
theorem PySem.W.Fast.tw355623368108805702:True:=trivial
theorem PySem.W.Fast.tw12504477087882169990:True:=trivial
theorem PySem.W.Fast.tw8669928328851244710:True:=trivial
theorem PySem.W.Fast.tw1052670207886534310:True:=trivial
theorem PySem.W.Fast.tw1522455772053624518:True:=trivial
theorem PySem.W.Fast.tw14599229458101115622:True:=trivial
theorem PySem.W.Fast.tw5199236939371377382:True:=trivial
theorem PySem.W.Fast.tw16923275546492509158:True:=trivial
theorem PySem.W.Fast.tw15522768497423240166:True:=trivial
theorem PySem.W.Fast.tw7079802883634720903:True:=trivial
theorem PySem.W.Fast.tw2140069556173309095:True:=trivial
theorem PySem.W.Fast.tw7418769527683619079:True:=trivial
theorem PySem.W.Fast.tw10756608808242577735:True:=trivial
theorem PySem.W.Fast.tw11129929867007709511:True:=trivial
theorem PySem.W.Fast.tw5134219193354287431:True:=trivial
theorem PySem.W.Fast.tw9671161697624483239:True:=trivial
theorem PySem.W.Fast.tw1907154252036126215:True:=trivial
theorem PySem.W.Fast.tw13821989977225350791:True:=trivial
theorem PySem.W.Fast.tw14280665480698489479:True:=trivial
theorem PySem.W.Fast.tw3780247011175464679:True:=trivial
theorem PySem.W.Fast.tw13947121418642819911:True:=trivial
theorem PySem.W.Fast.tw11222772841073304391:True:=trivial
theorem PySem.W.Fast.tw12759337036356301735:True:=trivial
theorem PySem.W.Fast.tw12632566695048148935:True:=trivial
theorem PySem.W.Fast.tw5334669650708112456:True:=trivial
theorem PySem.W.Fast.tw17015038321456436360:True:=trivial
theorem PySem.W.Fast.tw16467456882186268872:True:=trivial
theorem PySem.W.Fast.tw14824540383891375304:True:=trivial
theorem PySem.W.Fast.tw17573368847538338024:True:=trivial
theorem PySem.W.Fast.tw3426803976704167272:True:=trivial
theorem PySem.W.Fast.tw18405845784855480712:True:=trivial
theorem PySem.W.Fast.tw5728335950002633096:True:=trivial
theorem PySem.W.Fast.tw6103096299178351016:True:=trivial
theorem PySem.W.Fast.tw827302600172407272:True:=trivial
theorem PySem.W.Fast.tw796042279203827176:True:=trivial
theorem PySem.W.Fast.tw17847384966195900904:True:=trivial
theorem PySem.W.Fast.tw748234901967652392:True:=trivial
theorem PySem.W.Fast.tw1557729225004998216:True:=trivial
theorem PySem.W.Fast.tw3756279961388654216:True:=trivial
theorem PySem.W.Fast.tw12690770486028764040:True:=trivial
theorem PySem.W.Fast.tw5595842369768121320:True:=trivial
theorem PySem.W.Fast.tw4073204098429383721:True:=trivial
theorem PySem.W.Fast.tw17786406619474996361:True:=trivial
theorem PySem.W.Fast.tw9777915943613137129:True:=trivial
theorem PySem.W.Fast.tw3006078857811437801:True:=trivial
theorem PySem.W.Fast.tw4787828974447767945:True:=trivial
theorem PySem.W.Fast.tw1407915045059740041:True:=trivial
theorem PySem.W.Fast.tw2392660545478988233:True:=trivial
theorem PySem.W.Fast.tw12445217211000828489:True:=trivial
theorem PySem.W.Fast.tw2975199360783481417:True:=trivial
theorem PySem.W.Fast.tw6759949823301594729:True:=trivial
theorem PySem.W.Fast.tw5785699689581307529:True:=trivial
theorem PySem.W.Fast.tw4198619135368168105:True:=trivial
theorem PySem.W.Fast.tw1465022084387135145:True:=trivial
theorem PySem.W.Fast.tw9723401578356385545:True:=trivial
theorem PySem.W.Fast.tw13107059228316726217:True:=trivial
theorem PySem.W.Fast.tw16678894824485901322:True:=trivial
theorem PySem.W.Fast.tw15014076154151504938:True:=trivial
theorem PySem.W.Fast.tw3919134662696741930:True:=trivial
theorem PySem.W.Fast.tw13060455458468020394:True:=trivial
theorem PySem.W.Fast.tw8575888711497960714:True:=trivial
theorem PySem.W.Fast.tw2579100967824738602:True:=trivial
theorem PySem.W.Fast.tw3629938250136420746:True:=trivial
theorem PySem.W.Fast.tw13164287095684877738:True:=trivial
theorem PySem.W.Fast.tw136041512661229098:True:=trivial
theorem PySem.W.Fast.tw16543366164725105226:True:=trivial
theorem PySem.W.Fast.tw3594739350635057866:True:=trivial
theorem PySem.W.Fast.tw12485253733964325578:True:=trivial
theorem PySem.W.Fast.tw359722345090424618:True:=trivial
theorem PySem.W.Fast.tw14092152730852902730:True:=trivial
theorem PySem.W.Fast.tw18305891988076254026:True:=trivial
theorem PySem.W.Fast.tw15235300589191965546:True:=trivial
theorem PySem.W.Fast.tw7274527898905229419:True:=trivial
theorem PySem.W.Fast.tw18430601363133942923:True:=trivial
theorem PySem.W.Fast.tw1666916515908507883:True:=trivial
theorem PySem.W.Fast.tw11567976105270100267:True:=trivial
theorem PySem.W.Fast.tw2409706628681005355:True:=trivial
theorem PySem.W.Fast.tw3384848275762192715:True:=trivial
theorem PySem.W.Fast.tw5422298329010621771:True:=trivial
theorem PySem.W.Fast.tw9912874474978400779:True:=trivial
theorem PySem.W.Fast.tw9198741356557152779:True:=trivial
theorem PySem.W.Fast.tw17803921400422768363:True:=trivial
theorem PySem.W.Fast.tw14463660640034951947:True:=trivial
theorem PySem.W.Fast.tw11298423269797570315:True:=trivial
theorem PySem.W.Fast.tw5308281276109749003:True:=trivial
theorem PySem.W.Fast.tw15505979224791937899:True:=trivial
theorem PySem.W.Fast.tw6706670501532769163:True:=trivial
theorem PySem.W.Fast.tw13655459938943209484:True:=trivial
theorem PySem.W.Fast.tw9234760775379033228:True:=trivial
theorem PySem.W.Fast.tw5864681123785097356:True:=trivial
theorem PySem.W.Fast.tw13925017093203166380:True:=trivial
theorem PySem.W.Fast.tw13485885313670732012:True:=trivial
theorem PySem.W.Fast.tw9048605085359479116:True:=trivial
theorem PySem.W.Fast.tw2213155719516795372:True:=trivial
theorem PySem.W.Fast.tw17672519956292109836:True:=trivial
theorem PySem.W.Fast.tw1596737343400508012:True:=trivial
theorem PySem.W.Fast.tw12686115097374380684:True:=trivial
theorem PySem.W.Fast.tw8662881991692710668:True:=trivial
theorem PySem.W.Fast.tw8201927973710892844:True:=trivial
theorem PySem.W.Fast.tw6399589501910735724:True:=trivial
theorem PySem.W.Fast.tw7603614907800295404:True:=trivial
theorem PySem.W.Fast.tw18431051011878611948:True:=trivial
theorem PySem.W.Fast.tw8880635758735439981:True:=trivial
theorem PySem.W.Fast.tw9739801534121866445:True:=trivial
theorem PySem.W.Fast.tw47010322984171757:True:=trivial
theorem PySem.W.Fast.tw12297085582110472749:True:=trivial
theorem PySem.W.Fast.tw4888356527030313741:True:=trivial
theorem PySem.W.Fast.tw1289070673835643757:True:=trivial
theorem PySem.W.Fast.tw2337771368802818989:True:=trivial
theorem PySem.W.Fast.tw9082521955892364302:True:=trivial
theorem PySem.W.Fast.tw14933183794822440974:True:=trivial
theorem PySem.W.Fast.tw4687234047158043918:True:=trivial
theorem PySem.W.Fast.tw2434850176203014446:True:=trivial
theorem PySem.W.Fast.tw84617721252792846:True:=trivial
theorem PySem.W.Fast.tw17931915339715557070:True:=trivial
theorem PySem.W.Fast.tw10387756640159230670:True:=trivial
theorem PySem.W.Fast.tw18433745241015794542:True:=trivial
theorem PySem.W.Fast.tw7334429963881095118:True:=trivial
theorem PySem.W.Fast.tw14365939762021552143:True:=trivial
theorem PySem.W.Fast.tw15191970119403635759:True:=trivial
theorem PySem.W.Fast.tw1864607554680849487:True:=trivial
theorem PySem.W.Fast.tw7615576658997735503:True:=trivial
theorem PySem.W.Fast.tw8508252177093186703:True:=trivial
theorem PySem.W.Fast.tw10449261388462674127:True:=trivial
theorem PySem.W.Fast.tw13161696632879891695:True:=trivial
theorem PySem.W.Fast.tw16921250816737686895:True:=trivial
theorem PySem.W.Fast.tw15767269347754942895:True:=trivial
theorem PySem.W.Fast.tw8025930044762241519:True:=trivial
theorem PySem.W.Fast.tw6286881993254303279:True:=trivial
theorem PySem.W.Fast.tw13005780131381744303:True:=trivial
theorem PySem.W.Fast.tw6184833572561824495:True:=trivial
theorem PySem.W.Fast.tw14317670134011876079:True:=trivial
theorem PySem.W.Fast.tw7289857068541508335:True:=trivial
theorem PySem.W.Fast.tw17981175117518569199:True:=trivial
theorem PySem.W.Fast.tw6398705525210883887:True:=trivial
theorem PySem.W.Fast.tw1975280409226642319:True:=trivial
theorem PySem.W.Fast.tw5378577887386635312:True:=trivial
theorem PySem.W.Fast.tw8310747918562263184:True:=trivial
theorem PySem.W.Fast.tw13647274281478366512:True:=trivial
theorem PySem.W.Fast.tw5224473777891306800:True:=trivial
theorem PySem.W.Fast.tw1803837156487620944:True:=trivial
theorem PySem.W.Fast.tw540473003492470096:True:=trivial
theorem PySem.W.Fast.tw6925953892918398384:True:=trivial
theorem PySem.W.Fast.tw6195858893786179120:True:=trivial
theorem PySem.W.Fast.tw11722147638586588752:True:=trivial
theorem PySem.W.Fast.tw14372049668830415504:True:=trivial
theorem PySem.W.Fast.tw5761686024485164688:True:=trivial
theorem PySem.W.Fast.tw5245884071221647120:True:=trivial
theorem PySem.W.Fast.tw905099521875448656:True:=trivial
theorem PySem.W.Fast.tw2790610279979033681:True:=trivial
theorem PySem.W.Fast.tw14002817417753564273:True:=trivial
theorem PySem.W.Fast.tw15188688063873668209:True:=trivial
theorem PySem.W.Fast.tw13231022904619667665:True:=trivial
theorem PySem.W.Fast.tw12294465629820786897:True:=trivial
theorem PySem.W.Fast.tw13517411258008580337:True:=trivial
theorem PySem.W.Fast.tw10600170531183660433:True:=trivial
theorem PySem.W.Fast.tw17697540880248519153:True:=trivial
theorem PySem.W.Fast.tw10391112336232904209:True:=trivial
theorem PySem.W.Fast.tw13908854408814234193:True:=trivial
theorem PySem.W.Fast.tw3848465326266178225:True:=trivial
theorem PySem.W.Fast.tw10214985303544486577:True:=trivial
theorem PySem.W.Fast.tw15789888956186568401:True:=trivial
theorem PySem.W.Fast.tw8665704339158637425:True:=trivial
theorem PySem.W.Fast.tw8398242113140235121:True:=trivial
theorem PySem.W.Fast.tw546103225739466641:True:=trivial
theorem PySem.W.Fast.tw3443169422784089009:True:=trivial
theorem PySem.W.Fast.tw7463637407537249426:True:=trivial
theorem PySem.W.Fast.tw1543951757656040626:True:=trivial
theorem PySem.W.Fast.tw12960960527212972306:True:=trivial
theorem PySem.W.Fast.tw9296247697395361106:True:=trivial
theorem PySem.W.Fast.tw3272611130432759186:True:=trivial
theorem PySem.W.Fast.tw17789934249915659698:True:=trivial
theorem PySem.W.Fast.tw9379681649963614674:True:=trivial
theorem PySem.W.Fast.tw12420219003890394610:True:=trivial
theorem PySem.W.Fast.tw266206053720815090:True:=trivial
theorem PySem.W.Fast.tw18165689128992640530:True:=trivial
theorem PySem.W.Fast.tw16912409855915899474:True:=trivial
theorem PySem.W.Fast.tw8564128783581679314:True:=trivial
theorem PySem.W.Fast.tw12565932365720750866:True:=trivial
theorem PySem.W.Fast.tw4260297342524730258:True:=trivial
theorem PySem.W.Fast.tw18033869307580111858:True:=trivial
theorem PySem.W.Fast.tw9212061500526489683:True:=trivial
theorem PySem.W.Fast.tw2353580873048119411:True:=trivial
theorem PySem.W.Fast.tw613423532691201203:True:=trivial
theorem PySem.W.Fast.tw13828697798949913811:True:=trivial
theorem PySem.W.Fast.tw15424666748946550099:True:=trivial
theorem PySem.W.Fast.tw16286133469379105107:True:=trivial
theorem PySem.W.Fast.tw12905354765594280563:True:=trivial
theorem PySem.W.Fast.tw12058323087538130579:True:=trivial
theorem PySem.W.Fast.tw6550199157840357043:True:=trivial
theorem PySem.W.Fast.tw16149155226540500819:True:=trivial
theorem PySem.W.Fast.tw11425227131509893140:True:=trivial
theorem PySem.W.Fast.tw13504862851972143188:True:=trivial
theorem PySem.W.Fast.tw16833565086202270868:True:=trivial
theorem PySem.W.Fast.tw9131329307520268436:True:=trivial
theorem PySem.W.Fast.tw2404282876204205364:True:=trivial
theorem PySem.W.Fast.tw11215799163591488884:True:=trivial
theorem PySem.W.Fast.tw8062805051607900596:True:=trivial
theorem PySem.W.Fast.tw5755712231718165972:True:=trivial
theorem PySem.W.Fast.tw17920836007696735700:True:=trivial
theorem PySem.W.Fast.tw5383012417277770228:True:=trivial
theorem PySem.W.Fast.tw4211783533852617236:True:=trivial
theorem PySem.W.Fast.tw15950553214151810740:True:=trivial
theorem PySem.W.Fast.tw16301784172254709492:True:=trivial
theorem PySem.W.Fast.tw1761511171892169492:True:=trivial
theorem PySem.W.Fast.tw6941133668492677940:True:=trivial
theorem PySem.W.Fast.tw15210392611612642100:True:=trivial
theorem PySem.W.Fast.tw13775691324904658740:True:=trivial
theorem PySem.W.Fast.tw11206828336059241364:True:=trivial
theorem PySem.W.Fast.tw7098779095723749300:True:=trivial
theorem PySem.W.Fast.tw749783008930506805:True:=trivial
theorem PySem.W.Fast.tw10769335513974521269:True:=trivial
theorem PySem.W.Fast.tw2680487956930390485:True:=trivial
theorem PySem.W.Fast.tw478843815047309813:True:=trivial
theorem PySem.W.Fast.tw76110492024062485:True:=trivial
theorem PySem.W.Fast.tw17452215388673233493:True:=trivial
theorem PySem.W.Fast.tw12965823153542151925:True:=trivial
theorem PySem.W.Fast.tw1137354145574583157:True:=trivial
theorem PySem.W.Fast.tw3936380472896195573:True:=trivial
theorem PySem.W.Fast.tw8508742845044913270:True:=trivial
theorem PySem.W.Fast.tw1208667284027195574:True:=trivial
theorem PySem.W.Fast.tw7993172114761041302:True:=trivial
theorem PySem.W.Fast.tw12388304013132286358:True:=trivial
theorem PySem.W.Fast.tw11316431934495810006:True:=trivial
theorem PySem.W.Fast.tw435155501789931990:True:=trivial
theorem PySem.W.Fast.tw6278053405426792950:True:=trivial
theorem PySem.W.Fast.tw2615981702352365046:True:=trivial
theorem PySem.W.Fast.tw15415576482614038070:True:=trivial
theorem PySem.W.Fast.tw665553814916540022:True:=trivial
theorem PySem.W.Fast.tw483734755440811766:True:=trivial
theorem PySem.W.Fast.tw17207768843185330966:True:=trivial
theorem PySem.W.Fast.tw3937474043905821462:True:=trivial
theorem PySem.W.Fast.tw17336697550300653430:True:=trivial
theorem PySem.W.Fast.tw4145019865614264182:True:=trivial
theorem PySem.W.Fast.tw3583853152027348886:True:=trivial
theorem PySem.W.Fast.tw15041894793091767222:True:=trivial
theorem PySem.W.Fast.tw879587982526446550:True:=trivial
theorem PySem.W.Fast.tw4995527501672568919:True:=trivial
theorem PySem.W.Fast.tw9625437450677251159:True:=trivial
theorem PySem.W.Fast.tw746651843998787735:True:=trivial
theorem PySem.W.Fast.tw10862211425282468023:True:=trivial
theorem PySem.W.Fast.tw722309932659864855:True:=trivial
theorem PySem.W.Fast.tw10450820133996197143:True:=trivial
theorem PySem.W.Fast.tw18198455755477924311:True:=trivial
theorem PySem.W.Fast.tw14933715874968263127:True:=trivial
theorem PySem.W.Fast.tw11024429084168893111:True:=trivial
theorem PySem.W.Fast.tw5650165842128189207:True:=trivial
theorem PySem.W.Fast.tw10484097262707351511:True:=trivial
theorem PySem.W.Fast.tw5717876572767605784:True:=trivial
theorem PySem.W.Fast.tw6934354288848348216:True:=trivial
theorem PySem.W.Fast.tw4029836825674845336:True:=trivial
theorem PySem.W.Fast.tw8051638074091740312:True:=trivial
theorem PySem.W.Fast.tw4910865722603601336:True:=trivial
theorem PySem.W.Fast.tw9685301250492773848:True:=trivial
theorem PySem.W.Fast.tw10436376217139933752:True:=trivial
theorem PySem.W.Fast.tw6195428831091269208:True:=trivial
theorem PySem.W.Fast.tw15823054354763643544:True:=trivial
theorem PySem.W.Fast.tw2640515969753790200:True:=trivial
theorem PySem.W.Fast.tw4999628600053738264:True:=trivial
theorem PySem.W.Fast.tw4964459725878926136:True:=trivial
theorem PySem.W.Fast.tw15031170132792419128:True:=trivial
theorem PySem.W.Fast.tw5738229490372048728:True:=trivial
theorem PySem.W.Fast.tw4168366490484845528:True:=trivial
theorem PySem.W.Fast.tw15546325373168667608:True:=trivial
theorem PySem.W.Fast.tw1594517839518423065:True:=trivial
theorem PySem.W.Fast.tw16236824955151372377:True:=trivial
theorem PySem.W.Fast.tw370732626237087833:True:=trivial
theorem PySem.W.Fast.tw7034331701369599097:True:=trivial
theorem PySem.W.Fast.tw15926327428756727993:True:=trivial
theorem PySem.W.Fast.tw6605770235524436185:True:=trivial
theorem PySem.W.Fast.tw10237857828905270553:True:=trivial
theorem PySem.W.Fast.tw15965323803373198649:True:=trivial
theorem PySem.W.Fast.tw13323990415194806681:True:=trivial
theorem PySem.W.Fast.tw9517889464891145625:True:=trivial
theorem PySem.W.Fast.tw7685078170366169529:True:=trivial
theorem PySem.W.Fast.tw3367661306933204409:True:=trivial
theorem PySem.W.Fast.tw13361367307123527129:True:=trivial
theorem PySem.W.Fast.tw8062818946075037209:True:=trivial
theorem PySem.W.Fast.tw7216731597887225433:True:=trivial
theorem PySem.W.Fast.tw546022575272044153:True:=trivial
theorem PySem.W.Fast.tw327131709942078137:True:=trivial
theorem PySem.W.Fast.tw8965535075871437561:True:=trivial
theorem PySem.W.Fast.tw71004581327655673:True:=trivial
theorem PySem.W.Fast.tw5213797516075776857:True:=trivial
theorem PySem.W.Fast.tw5806147765229304761:True:=trivial
theorem PySem.W.Fast.tw2102278778011310009:True:=trivial
theorem PySem.W.Fast.tw7889085412803917817:True:=trivial
theorem PySem.W.Fast.tw11610184030488317945:True:=trivial
theorem PySem.W.Fast.tw12512000279395412026:True:=trivial
theorem PySem.W.Fast.tw11343610932720447578:True:=trivial
theorem PySem.W.Fast.tw15267032364173727866:True:=trivial
theorem PySem.W.Fast.tw14736081709923097818:True:=trivial
theorem PySem.W.Fast.tw2610046141264235770:True:=trivial
theorem PySem.W.Fast.tw1849433315593667866:True:=trivial
theorem PySem.W.Fast.tw5046146775107110234:True:=trivial
theorem PySem.W.Fast.tw3411638428123683194:True:=trivial
theorem PySem.W.Fast.tw4721736273630831002:True:=trivial
theorem PySem.W.Fast.tw12593309617537018458:True:=trivial
theorem PySem.W.Fast.tw15778341246666054298:True:=trivial
theorem PySem.W.Fast.tw15837265979366896346:True:=trivial
theorem PySem.W.Fast.tw10129714970728253210:True:=trivial
theorem PySem.W.Fast.tw8353426599171144506:True:=trivial
theorem PySem.W.Fast.tw16370667512890590138:True:=trivial
theorem PySem.W.Fast.tw16265465249685703739:True:=trivial
theorem PySem.W.Fast.tw3177812210815432795:True:=trivial
theorem PySem.W.Fast.tw2107685269181514907:True:=trivial
theorem PySem.W.Fast.tw1335558034992554235:True:=trivial
theorem PySem.W.Fast.tw3001185638797796603:True:=trivial
theorem PySem.W.Fast.tw8234649225807009051:True:=trivial
theorem PySem.W.Fast.tw10196817204268644667:True:=trivial
theorem PySem.W.Fast.tw16392835375538431291:True:=trivial
theorem PySem.W.Fast.tw15504587636946000251:True:=trivial
theorem PySem.W.Fast.tw4430702575275783579:True:=trivial
theorem PySem.W.Fast.tw17900748720725905947:True:=trivial
theorem PySem.W.Fast.tw5973931764081172027:True:=trivial
theorem PySem.W.Fast.tw9970463234598791771:True:=trivial
theorem PySem.W.Fast.tw18253147908392051323:True:=trivial
theorem PySem.W.Fast.tw4241338900865268603:True:=trivial
theorem PySem.W.Fast.tw14639181982799789979:True:=trivial
theorem PySem.W.Fast.tw14666406585216119803:True:=trivial
theorem PySem.W.Fast.tw1000329917134877916:True:=trivial
theorem PySem.W.Fast.tw4031815428847954140:True:=trivial
theorem PySem.W.Fast.tw17175478034313595292:True:=trivial
theorem PySem.W.Fast.tw2306649705806506460:True:=trivial
theorem PySem.W.Fast.tw17513471154443035196:True:=trivial
theorem PySem.W.Fast.tw4874840732766776028:True:=trivial
theorem PySem.W.Fast.tw10486445776945901436:True:=trivial
theorem PySem.W.Fast.tw4172287968111020956:True:=trivial
theorem PySem.W.Fast.tw7020996443337085884:True:=trivial
theorem PySem.W.Fast.tw9854857789785844797:True:=trivial
theorem PySem.W.Fast.tw6562473210580379741:True:=trivial
theorem PySem.W.Fast.tw157498292790375581:True:=trivial
theorem PySem.W.Fast.tw5519201249479753917:True:=trivial
theorem PySem.W.Fast.tw6730816222912715965:True:=trivial
theorem PySem.W.Fast.tw4951363438479938781:True:=trivial
theorem PySem.W.Fast.tw4197464735389154525:True:=trivial
theorem PySem.W.Fast.tw14101449792972370269:True:=trivial
theorem PySem.W.Fast.tw12379679523727394301:True:=trivial
theorem PySem.W.Fast.tw14542698753771307549:True:=trivial
theorem PySem.W.Fast.tw8110862323730039389:True:=trivial
theorem PySem.W.Fast.tw6759348795433499389:True:=trivial
theorem PySem.W.Fast.tw10905903294618182429:True:=trivial
theorem PySem.W.Fast.tw3123047602797881149:True:=trivial
theorem PySem.W.Fast.tw940974482380363645:True:=trivial
theorem PySem.W.Fast.tw15133487345481129885:True:=trivial
theorem PySem.W.Fast.tw1900090706365642910:True:=trivial
theorem PySem.W.Fast.tw7899999377104632094:True:=trivial
theorem PySem.W.Fast.tw11588668543228223870:True:=trivial
theorem PySem.W.Fast.tw9646896338090981758:True:=trivial
theorem PySem.W.Fast.tw11151251805592108446:True:=trivial
theorem PySem.W.Fast.tw5586122900476525022:True:=trivial
theorem PySem.W.Fast.tw8507829048562591326:True:=trivial
theorem PySem.W.Fast.tw8440805292214174302:True:=trivial
theorem PySem.W.Fast.tw15811526010577180318:True:=trivial
theorem PySem.W.Fast.tw5810973294314384126:True:=trivial
theorem PySem.W.Fast.tw5960746765134811966:True:=trivial
theorem PySem.W.Fast.tw11171806045851306846:True:=trivial
theorem PySem.W.Fast.tw15550811488100265918:True:=trivial
theorem PySem.W.Fast.tw13093874429888370654:True:=trivial
theorem PySem.W.Fast.tw13940389197076868127:True:=trivial
theorem PySem.W.Fast.tw1095393300849208415:True:=trivial
theorem PySem.W.Fast.tw7217012416713478399:True:=trivial
theorem PySem.W.Fast.tw15313172485324140863:True:=trivial
theorem PySem.W.Fast.tw17409947514112007519:True:=trivial
theorem PySem.W.Fast.tw17401763770329298335:True:=trivial
theorem PySem.W.Fast.tw10869710207475815903:True:=trivial
theorem PySem.W.Fast.tw14933954481537332703:True:=trivial
theorem PySem.W.Fast.tw1856451733144975871:True:=trivial
theorem PySem.W.Fast.tw6206233381614538239:True:=trivial
theorem PySem.W.Fast.tw13199661190178279007:True:=trivial
theorem PySem.W.Fast.tw62006601597644447:True:=trivial
theorem PySem.W.Fast.tw8870793215798195903:True:=trivial
theorem PySem.W.Fast.tw17222392865840886463:True:=trivial
theorem PySem.W.Fast.tw15643305548455568095:True:=trivial
theorem PySem.W.Fast.tw17936801420327295839:True:=trivial
theorem PySem.W.Fast.tw14006525794693624671:True:=trivial
theorem PySem.W.Fast.tw12291502246317330335:True:=trivial
theorem PySem.W.Fast.tw16305613472644044735:True:=trivial
theorem PySem.W.Fast.tw9035046091960212447:True:=trivial
theorem PySem.W.Fast.tw17334096433891404767:True:=trivial
def PySem.W.Fast.tw13104958936450362863:=PySem.Challenge.pw_onceround_k81_answers_from_far
theorem PySem.W.Fast.te13104958936450362863:PySem.Challenge.pw_onceround_k81_answers_from_far=PySem.W.Fast.tw13104958936450362863:=rfl
end
open PySem PySem.W PyProof.Rows
set_option maxRecDepth 100000 in
set_option maxHeartbeats 0 in
theorem PySem.Challenge.cw_onceround_k81_answers_from_far_holds : PySem.Challenge.rw_onceround_k81_answers_from_far.Holds := by
  w_on; o_law; k_head; (case hw => w_witness2)
  k_fill
  refine K81.walk (l := PySem.Challenge.rw_onceround_k81_answers_from_far) rfl rfl (fun w h Y => PySem.W.kIn_of Y) ?F
  case F =>
    intro w mg fa h KX G hmg
    refine' K81.all_mk KX G hmg ?h_0 ?h_1 ?h_2 ?h_3 ?h_4 ?h_5 ?h_6 ?h_7 ?h_8 ?h_9 ?h_10 ?h_11 ?h_12 ?h_13 ?h_14 ?h_15 ?h_16 ?h_17 ?h_18 ?h_19 ?h_20 ?h_21 ?h_22 ?h_23 ?h_24 ?h_25 ?h_26 ?h_27 ?h_28 ?h_29 ?h_30 ?h_31 ?h_32 ?h_33 ?h_34 ?h_35 ?h_36 ?h_37 ?h_38 ?h_39 ?h_40 ?h_41 ?h_42 ?h_43 ?h_44 ?h_45 ?h_46 ?h_47 ?h_48 ?h_49 ?h_50 ?a_51 ?l_51 ?c_51 ?k_51 ?z_all ?z_any ?z_enumerate ?z_int ?z_isinstance ?z_len ?z_max ?z_min ?z_range ?z_reversed ?z_set ?z_sorted ?z_str ?z_sum ?z_tuple ?z_zip ?y_BadKinds ?y_BadWord ?y_NoSuch ?y_TooMany ?y_OnceError ?y_BadText ?y_Web ?y_ASKS ?y_AHEAD ?e_BadKinds ?e_BadWord ?e_NoSuch ?e_TooMany ?g_LETTERS ?r_LETTERS ?g_LONGEST ?r_LONGEST ?g_MOST_WORDS ?r_MOST_WORDS ?g_MOST_OF_A_WEB ?r_MOST_OF_A_WEB ?g_LONGEST_OF_A_WEB ?r_LONGEST_OF_A_WEB ?g_MOST_OF_A_RULE ?r_MOST_OF_A_RULE ?g_LONGEST_OF_A_RULE ?r_LONGEST_OF_A_RULE ?g_FIGURES ?r_FIGURES ?g_MOST_FIGURES ?r_MOST_FIGURES ?g_MOST_LETTERS ?r_MOST_LETTERS ?g_MOST_OF_A_PIECE ?r_MOST_OF_A_PIECE ?k_asks ?k_ahead ?e_KK ?e_KW ?e_KM ?e_KS ?e_WK ?e_WW ?e_WM ?e_WS ?e_MK ?e_MW ?e_MM ?e_MS ?e_SK ?e_SW ?e_SM ?e_SS ?pg_Web ?hd_Web ?po_Web ?sa_Web ?mk_Web ?kc_Web ?na_Web_words ?na_Web_length
    (case y_Web => k_is)
    (all_goals try (apply K81.hf_mk <;> k_is))
    (case h_32 => apply K81.hm_mk <;> k_is)
    (case a_51 => k_is)
    (case l_51 => k_is)
    (case c_51 => k_is)
    (case k_51 => k_is)
    (case z_all => k_is)
    (case z_any => k_is)
    (case z_enumerate => k_is)
    (case z_int => k_is)
    (case z_isinstance => k_is)
    (case z_len => k_is)
    (case z_max => k_is)
    (case z_min => k_is)
    (case z_range => k_is)
    (case z_reversed => k_is)
    (case z_set => k_is)
    (case z_sorted => k_is)
    (case z_str => k_is)
    (case z_sum => k_is)
    (case z_tuple => k_is)
    (case z_zip => k_is)
    (case y_BadKinds => k_is)
    (case y_BadWord => k_is)
    (case y_NoSuch => k_is)
    (case y_TooMany => k_is)
    (case y_OnceError => k_is)
    (case y_BadText => k_is)
    (case y_ASKS => k_is)
    (case y_AHEAD => k_is)
    (case e_BadKinds => kernel_rfl)
    (case e_BadWord => kernel_rfl)
    (case e_NoSuch => kernel_rfl)
    (case e_TooMany => kernel_rfl)
    (case g_LETTERS => k_is)
    (case r_LETTERS => exact ⟨_, rfl⟩)
    (case g_LONGEST => k_is)
    (case r_LONGEST => exact ⟨_, rfl⟩)
    (case g_MOST_WORDS => k_is)
    (case r_MOST_WORDS => exact ⟨_, rfl⟩)
    (case g_MOST_OF_A_WEB => k_is)
    (case r_MOST_OF_A_WEB => exact ⟨_, rfl⟩)
    (case g_LONGEST_OF_A_WEB => k_is)
    (case r_LONGEST_OF_A_WEB => exact ⟨_, rfl⟩)
    (case g_MOST_OF_A_RULE => k_is)
    (case r_MOST_OF_A_RULE => exact ⟨_, rfl⟩)
    (case g_LONGEST_OF_A_RULE => k_is)
    (case r_LONGEST_OF_A_RULE => exact ⟨_, rfl⟩)
    (case g_FIGURES => k_is)
    (case r_FIGURES => exact ⟨_, rfl⟩)
    (case g_MOST_FIGURES => k_is)
    (case r_MOST_FIGURES => exact ⟨_, rfl⟩)
    (case g_MOST_LETTERS => k_is)
    (case r_MOST_LETTERS => exact ⟨_, rfl⟩)
    (case g_MOST_OF_A_PIECE => k_is)
    (case r_MOST_OF_A_PIECE => exact ⟨_, rfl⟩)
    (case k_asks => kernel_rfl)
    (case k_ahead => kernel_rfl)
    (case e_KK => kts_exm)
    (case e_KW => kts_exm)
    (case e_KM => kts_exm)
    (case e_KS => kts_exm)
    (case e_WK => kts_exm)
    (case e_WW => kts_exm)
    (case e_WM => kts_exm)
    (case e_WS => kts_exm)
    (case e_MK => kts_exm)
    (case e_MW => kts_exm)
    (case e_MM => kts_exm)
    (case e_MS => kts_exm)
    (case e_SK => kts_exm)
    (case e_SW => kts_exm)
    (case e_SM => kts_exm)
    (case e_SS => kts_exm)
    (case pg_Web => k_is)
    (case hd_Web => k_is)
    (case po_Web => k_is)
    (case sa_Web => k_is)
    (case mk_Web => k_is)
    (case kc_Web => k_is)
    (case na_Web_words => k_is)
    (case na_Web_length => k_is)
#print axioms PySem.Challenge.cw_onceround_k81_answers_from_far_holds
