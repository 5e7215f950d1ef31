import PyProof.Rows.All
import Wide.All
import OpenK.AllK
import Wide.FinOn
import Lean
import PyProof.EqAt
import PyProof.EqKinds
import PyProof.TupleCall
import PySem.Challenge.RW_onceround_k42_whole_parts_there_and_back
set_option genSizeOfSpec false
set_option bootstrap.genMatcherCode false
set_option Elab.async false
set_option linter.all false
set_option maxRecDepth 100000
set_option maxHeartbeats 4000000
noncomputable section
namespace L2
open PySem PySem.Spec PyProof.Rows
abbrev Key:=Sum Int Str
def keyIs:Key->Value->Bool
 | .inl k,v=>Value.isInt k v
 | .inr x,v=>Value.isStrOf x v
def keyH (w:World):Key->Int
 | .inl k=>hashInt k
 | .inr x=>hashStr w x
theorem keyIs_shape:∀ {k:Key} {v:Value},keyIs k v=true->(∃ i t,k=Sum.inl i∧v=Value.int i t)∨(∃ x t,k=Sum.inr x∧v=Value.str x t)
 | .inl i,v,h=>by
  obtain ⟨t,e⟩:=Value.isInt_shape (k:=i) (v:=v) h
  exact .inl ⟨i,t,rfl,e⟩
 | .inr x,v,h=>by
  obtain ⟨t,e⟩:=Value.isStrOf_shape (x:=x) (v:=v) h
  exact .inr ⟨x,t,rfl,e⟩
theorem keyIs_int (i:Int)(t:Tok):keyIs (.inl i) (.int i t)=true:=by simp [keyIs,Value.isInt]
theorem keyIs_str (x:Str)(t:Tok):keyIs (.inr x) (.str x t)=true:=by simp [keyIs,Value.isStrOf]
theorem key_ll (a b:Int):decide ((Sum.inl a:Key)=Sum.inl b)=(a==b):=by
 by_cases e:a=b
 ·subst e;simp
 ·have h:¬ (Sum.inl a:Key)=Sum.inl b:=fun q=>e (Sum.inl.inj q)
  rw [decide_eq_false h]
  exact (beq_eq_false_iff_ne.mpr e).symm
theorem key_rr (a b:Str):decide ((Sum.inr a:Key)=Sum.inr b)=decide (a=b):=by
 by_cases e:a=b
 ·subst e;simp
 ·have h:¬ (Sum.inr a:Key)=Sum.inr b:=fun q=>e (Sum.inr.inj q)
  rw [decide_eq_false h,decide_eq_false e]
theorem key_lr (a:Int)(b:Str):decide ((Sum.inl a:Key)=Sum.inr b)=false:=decide_eq_false (fun q=>nomatch q)
theorem key_rl (a:Str)(b:Int):decide ((Sum.inr a:Key)=Sum.inl b)=false:=decide_eq_false (fun q=>nomatch q)
def mixKind (prog:Program)(w:World):PySem.KeyKind prog w Key where
 is:=keyIs
 hash:=keyH w
 inj:=fun v a b ha hb=>by
  rcases keyIs_shape ha with ⟨i,t,rfl,rfl⟩ | ⟨x,t,rfl,rfl⟩
  ·rcases keyIs_shape hb with ⟨j,u,rfl,e⟩ | ⟨y,u,rfl,e⟩
   ·injection e with e1 _;rw [e1]
   ·exact nomatch e
  ·rcases keyIs_shape hb with ⟨j,u,rfl,e⟩ | ⟨y,u,rfl,e⟩
   ·exact nomatch e
   ·injection e with e1 _;rw [e1]
 byValue:=fun k v h=>by
  rcases keyIs_shape h with ⟨i,t,rfl,rfl⟩ | ⟨x,t,rfl,rfl⟩ <;> rfl
 pyHash:=fun hv h=>by
  rcases keyIs_shape hv with ⟨i,t,rfl,rfl⟩ | ⟨x,t,rfl,rfl⟩
  ·exact wpAny_pyHash_int h
  ·exact wpAny_pyHash_str h
 eqBool:=fun hu hv h=>by
  rcases keyIs_shape hu with ⟨i,t,rfl,rfl⟩ | ⟨x,t,rfl,rfl⟩
  ·rcases keyIs_shape hv with ⟨j,u,rfl,rfl⟩ | ⟨y,u,rfl,rfl⟩
   ·rw [key_ll] at h;exact wpAny_eqBool_int h
   ·rw [key_lr] at h;exact SeqAt.EqAt.int_str i t y u _ _ _ _ h
  ·rcases keyIs_shape hv with ⟨j,u,rfl,rfl⟩ | ⟨y,u,rfl,rfl⟩
   ·rw [key_rl] at h;exact SeqAt.EqAt.str_int x t j u _ _ _ _ h
   ·rw [key_rr] at h;exact wpAny_eqBool_str h
 «strs» := fun k x t v h=>by
  rcases keyIs_shape h with ⟨i,u,rfl,e⟩ | ⟨y,u,rfl,e⟩
  ·exact nomatch e
  ·injection e with e1 _
   subst e1
   cases v <;> rfl
theorem mixKind_int (prog:Program)(w:World)(i:Int)(t:Tok):(mixKind prog w).is (.inl i) (.int i t)=true:=keyIs_int i t
theorem mixKind_str (prog:Program)(w:World)(x:Str)(t:Tok):(mixKind prog w).is (.inr x) (.str x t)=true:=keyIs_str x t
end L2
namespace L2
open PySem PySem.Spec PyProof.Rows
inductive V where
 | non | bl (b:Bool) | int (i:Int) | str (x:Str) | byt (b:Array UInt8) | flt (b:UInt64) | ref (a:Addr) | ty (n:String)
 deriving DecidableEq
def RelV:V->Value->Prop
 | .non,u=>u=Value.none
 | .bl b,u=>u=Value.bool b
 | .int i,u=>∃ t,u=Value.int i t
 | .str x,u=>∃ t,u=Value.str x t
 | .byt b,u=>∃ t,u=Value.bytes b t
 | .flt b,u=>∃ t,u=Value.float b t
 | .ref a,u=>u=Value.ref a
 | .ty n,u=>u=Value.type n
abbrev Vals:List V->List Value->Prop:=Paired RelV
theorem Vals.length {xs:List V}{us:List Value}(r:Vals xs us):xs.length=us.length:=Paired.length r
theorem Vals.get:∀ {xs:List V} {us:List Value} {i:Nat} {x:V},Vals xs us->xs[i]?=some x->∃ u,us[i]?=some u∧RelV x u
 | _,_,_,_,.nil,e=>by simp at e
 | _,_,0,_,.cons r _,e=>by simp at e;subst e;exact ⟨_,rfl,r⟩
 | _,_,i+1,x,.cons _ t,e=>by
  obtain ⟨u,h1,h2⟩:=Vals.get (i:=i) (x:=x) t (by simpa using e)
  exact ⟨u,by simpa using h1,h2⟩
theorem Vals.append:∀ {xs ys:List V} {us ws:List Value},Vals xs us->Vals ys ws->Vals (xs++ys) (us++ws)
 | _,_,_,_,.nil,s=>s
 | _,_,_,_,.cons r t,s=>.cons r (Vals.append t s)
theorem Vals.take:∀ {xs:List V} {us:List Value} (n:Nat),Vals xs us->Vals (xs.take n) (us.take n)
 | _,_,0,_=>.nil
 | _,_,_+1,.nil=>.nil
 | _,_,n+1,.cons r t=>.cons r (Vals.take n t)
theorem Vals.drop:∀ {xs:List V} {us:List Value} (n:Nat),Vals xs us->Vals (xs.drop n) (us.drop n)
 | _,_,0,r=>r
 | _,_,_+1,.nil=>.nil
 | _,_,n+1,.cons _ t=>Vals.drop n t
def RelO:Option V->Option Value->Prop
 | some v,some u=>RelV v u
 | none,none=>True
 | _,_=>False
def KV {κ:Type}:List (κ×V)->List (κ×Value)->Prop:=Paired fun (p:κ×V) (q:κ×Value)=>p.1=q.1∧RelV p.2 q.2
def kV:Key->V
 | .inl i=>.int i
 | .inr x=>.str x
inductive HO where
 | lst (xs:List V)
 | tup (xs:List V)
 | dK (kvs:List (Key×V)) | dT (kvs:List (List Key×V))
 | set (S:Int->Bool) (n:Nat)
 | ins (C dx:Addr) (fs:List (Str×V))
 | own (x:Addr)
 | xd (fs:List (Str×V))
 | met (f x:Addr)
 | rng (lo hi:Int)
 | frz (o:Obj) (u:HO)
 | tbl (ps:Array Value)
 | ext (φ:Heap->Prop)
abbrev Hp:=Addr->Option HO
def upd (H:Hp)(a:Addr)(o:HO):Hp:=fun b=>if b=a then some o else H b
theorem upd_same {H:Hp}{a:Addr}{o:HO}:upd H a o a=some o:=by unfold upd;rw [if_pos rfl]
theorem upd_ne {H:Hp}{a b:Addr}{o:HO}(h:b≠a):upd H a o b=H b:=by unfold upd;rw [if_neg h]
theorem upd_upd {H:Hp}{a:Addr}{o u:HO}:upd (upd H a o) a u=upd H a u:=by
 funext b;unfold upd;split <;> rfl
theorem ne_of {H:Hp}{a b:Addr}{o u:HO}(h:H a=some o)(h':H b=some u)(d:o≠u):a≠b:=by
 intro e;subst e;rw [h] at h';exact d (Option.some.inj h')
theorem ne_of_none {H:Hp}{a b:Addr}{o:HO}(h:H a=some o)(h':H b=none):a≠b:=by
 intro e;subst e;rw [h] at h';cases h'
section
variable (P:Program)(w:World)
def ObjOk (H:Hp)(h:Heap)(a:Addr):HO->Prop
 | .lst xs=>xs.length<=sizeLine∧∃ (its:List Value) (n:Nat),Vals xs its∧h.get? a=some { cls:=.type "list",data:=.seq its.toArray n }
 | .tup xs=>xs.length<=sizeLine∧∃ its:List Value,Vals xs its∧IsTup h a its.toArray
 | .dK kvs=>kvs.length<=sizeLine∧(a==sysModules)=false∧∃ vs,KV kvs vs∧h.DictOf (mixKind P w) a vs
 | .dT kvs=>kvs.length<=sizeLine∧(a==sysModules)=false∧∃ xs:List (List Key×Addr×Value),
  Paired (fun (p:List Key×V) (q:List Key×Addr×Value)=>p.1=q.1∧H q.2.1=some (.tup (p.1.map kV))∧RelV p.2 q.2.2) kvs xs ∧
  ∃ o es ep,h.get? a=some o∧o.ExactDict∧o.data = .dict es ep∧es.toList=xs.map (entryOfKey (tupleKind (mixKind P w)))∧(xs.map (·.1)).Nodup
 | .set S n=>h.SetOf (intKind P w) a S n
 | .ins C dx fs=>H dx=some (.own a)∧fs.length<=1000∧dx≠a∧h.get? a=some (PySem.W.instObj C dx) ∧
  ∃ mA,h.Ns1 dx mA∧(∀ f,RelO (fs.lookup f) (mA f))∧PySem.Within mA (fs.map (·.1))
 | .own _=>∃ o,h.get? a=some o
 | .xd fs=>∃ mA,h.Ns1 a mA∧∀ f,RelO (fs.lookup f) (mA f)
 | .rng lo hi=>∃ t u v,h.get? a=some { cls:=.type "range",data:=.fields #[.int lo t,.int hi u,.int 1 v] }
 | .frz o u=>h.get? a=some o∧ObjOk H h a u
 | .tbl ps=>h.get? a=some { cls:=.none,data:=.fields ps }
 | .met f x=>h.get? a=some (PySem.W.methodObj (.ref f) (.ref x))
 | .ext φ=>φ h∧(∃ o,h.get? a=some o)∧∀ h1 h2:Heap,φ h1->(∀ o,h1.get? a=some o->h2.get? a=some o)->φ h2
def HOk (H:Hp)(h:Heap):Prop:=∀ a o,H a=some o->ObjOk P w H h a o
end
section
variable {P:Program}{w:World}{H H':Hp}{h h':Heap}{a:Addr}{o:HO}
theorem ObjOk.lt (x:ObjOk P w H h a o):a<h.objs.size:=by
 cases o with
 | lst xs=>obtain ⟨_,_,_,_,e⟩:=x;exact Heap.lt_size e
 | tup xs=>obtain ⟨_,_,_,p⟩:=x;exact p.lt
 | dK kvs=>obtain ⟨_,_,_,_,o,_,_,e,_⟩:=x;exact Heap.lt_size e
 | dT kvs=>obtain ⟨_,_,_,_,o,_,_,e,_⟩:=x;exact Heap.lt_size e
 | set S n=>obtain ⟨o,_,_,_,e,_⟩:=x;exact Heap.lt_size e
 | ins C dx fs=>obtain ⟨_,_,_,e,_⟩:=x;exact Heap.lt_size e
 | own y=>obtain ⟨_,e⟩:=x;exact Heap.lt_size e
 | xd fs=>obtain ⟨_,⟨_,_,_,e,_⟩,_⟩:=x;exact Heap.lt_size e
 | rng lo hi=>obtain ⟨_,_,_,e⟩:=x;exact Heap.lt_size e
 | frz ob u=>obtain ⟨e,_⟩:=x;exact Heap.lt_size e
 | tbl ps=>exact Heap.lt_size (show h.get? a=some _ from x)
 | met f y=>exact Heap.lt_size (show h.get? a=some _ from x)
 | ext φ=>obtain ⟨_,⟨_,e⟩,_⟩:=x;exact Heap.lt_size e
theorem Paired.mapP {α β:Type}{F G:α->β->Prop}:∀ {l₁:List α} {l₂:List β},Paired F l₁ l₂->(∀ a b,F a b->G a b)->Paired G l₁ l₂
 | _,_,.nil,_=>.nil
 | _,_,.cons r t,f=>.cons (f _ _ r) (Paired.mapP t f)
theorem ObjOk.stay (x:ObjOk P w H h a o)(k:∀ b u,(b=a∨H b=some (.own a))->h.get? b=some u->h'.get? b=some u)
  (ho:∀ b,H b=some (.own a)->H' b=some (.own a)) (ht:∀ b xs,H b=some (.tup xs)->H' b=some (.tup xs)):ObjOk P w H' h' a o:=by
 induction o with
 | lst xs=>obtain ⟨z,its,n,r,e⟩:=x;exact ⟨z,its,n,r,k _ _ (.inl rfl) e⟩
 | tup xs=>obtain ⟨z,its,r,ob,e,c⟩:=x;exact ⟨z,its,r,ob,k _ _ (.inl rfl) e,c⟩
 | dK kvs=>obtain ⟨z,y,vs,r,ob,es,ep,e,c⟩:=x;exact ⟨z,y,vs,r,ob,es,ep,k _ _ (.inl rfl) e,c⟩
 | dT kvs =>
  obtain ⟨z,y,xs,r,ob,es,ep,e,c⟩:=x
  exact ⟨z,y,xs,Paired.mapP r fun p q z=>⟨z.1,ht _ _ z.2.1,z.2.2⟩,ob,es,ep,k _ _ (.inl rfl) e,c⟩
 | set S n=>obtain ⟨ob,es,ep,t,e,c⟩:=x;exact ⟨ob,es,ep,t,k _ _ (.inl rfl) e,c⟩
 | ins C dx fs =>
  obtain ⟨d,z,ne,e,mA,⟨od,es,ep,e2,c⟩,r⟩:=x
  exact ⟨ho _ d,z,ne,k _ _ (.inl rfl) e,mA,⟨od,es,ep,k _ _ (.inr d) e2,c⟩,r⟩
 | own y=>obtain ⟨ob,e⟩:=x;exact ⟨ob,k _ _ (.inl rfl) e⟩
 | xd fs=>obtain ⟨mA,⟨od,es,ep,e,c⟩,r⟩:=x;exact ⟨mA,⟨od,es,ep,k _ _ (.inl rfl) e,c⟩,r⟩
 | rng lo hi=>obtain ⟨t,u,v,e⟩:=x;exact ⟨t,u,v,k _ _ (.inl rfl) e⟩
 | frz ob u ih=>obtain ⟨e,q⟩:=x;exact ⟨k _ _ (.inl rfl) e,ih q⟩
 | tbl ps =>
  have e:h.get? a=some { cls:=.none,data:=.fields ps }:=x
  show h'.get? a=some { cls:=.none,data:=.fields ps }
  exact k a _ (.inl rfl) e
 | met f y =>
  have e:h.get? a=some (PySem.W.methodObj (.ref f) (.ref y)):=x
  show h'.get? a=some (PySem.W.methodObj (.ref f) (.ref y))
  exact k a _ (.inl rfl) e
 | ext φ=>obtain ⟨p,⟨o,e⟩,st⟩:=x;exact ⟨st _ _ p fun o q=>k _ _ (.inl rfl) q,⟨o,k _ _ (.inl rfl) e⟩,st⟩
theorem HOk.lt (x:HOk P w H h)(e:H a=some o):a<h.objs.size:=(x a o e).lt
theorem HOk.fresh (x:HOk P w H h)(e:h.objs.size<=a):H a=none:=by
 cases q:H a with
 | none=>rfl
 | some u=>exact absurd (Nat.lt_of_lt_of_le (x.lt q) e) (Nat.lt_irrefl _)
theorem HOk.kept (x:HOk P w H h)(k:∀ b u,h.get? b=some u->h'.get? b=some u):HOk P w H h':=fun a o e =>
 (x a o e).stay (fun b u _ q=>k b u q) (fun _ q=>q) fun _ _ q=>q
theorem HOk.laid (x:HOk P w H h)(k:∀ b u,h.get? b=some u->h'.get? b=some u)(hp:h.objs.size<=a)(new:ObjOk P w (upd H a o) h' a o):HOk P w (upd H a o) h':=fun b u e=>by
 have hn:=x.fresh hp
 by_cases hb:b=a
 ·subst hb;rw [upd_same] at e;cases e;exact new
 ·rw [upd_ne hb] at e
  exact (x b u e).stay (fun c v _ q=>k c v q) (fun c q=>by rw [upd_ne (ne_of_none q hn)];exact q) fun c xs q=>by rw [upd_ne (ne_of_none q hn)];exact q
end
def Rd (H:Hp)(a:Addr)(u:HO):Prop:=H a=some u∨∃ o,H a=some (.frz o u)
theorem Rd.ok {P:Program}{w:World}{H:Hp}{h:Heap}{a:Addr}{u:HO}(r:Rd H a u)(x:HOk P w H h):ObjOk P w H h a u:=by
 rcases r with r | ⟨o,r⟩
 ·exact x a u r
 ·obtain ⟨_,q⟩:=x a _ r
  exact q
def Mut:Option HO->Prop
 | some (.lst _)=>True
 | some (.dK _)=>True
 | some (.dT _)=>True
 | some (.set _ _)=>True
 | some (.ins _ _ _)=>True
 | some (.ext _)=>True
 | _=>False
section
variable {P:Program}{w:World}{H:Hp}{h h':Heap}{x e:Addr}{o':HO}
theorem HOk.write (ok:HOk P w H h)(mu:Mut (H x))(he:e=x∨H e=some (.own x))(k:∀ b u,b≠e->h.get? b=some u->h'.get? b=some u)(heo:∃ u,h'.get? e=some u)
  (new:ObjOk P w (upd H x o') h' x o'):HOk P w (upd H x o') h':=fun b u q=>by
 have nown:∀ c y,H c=some (.own y)->c≠x:=fun c y r z=>by subst z;rw [r] at mu;exact mu
 have ntup:∀ c xs,H c=some (.tup xs)->c≠x:=fun c xs r z=>by subst z;rw [r] at mu;exact mu
 by_cases hb:b=x
 ·subst hb;rw [upd_same] at q;cases q;exact new
 ·rw [upd_ne hb] at q
  by_cases hbe:b=e
  ·have q':H b=some (.own x):=by
    rcases he with z | z
    ·exact absurd (hbe.trans z) hb
    ·rw [hbe];exact z
   rw [q] at q';cases q'
   obtain ⟨v,hv⟩:=heo
   exact ⟨v,by rw [hbe];exact hv⟩
  ·refine (ok b u q).stay (fun c v hc r=>k c v ?_ r) (fun c r=>by rw [upd_ne (nown c b r)];exact r) fun c xs r=>by rw [upd_ne (ntup c xs r)];exact r
   rcases hc with rfl | hc
   ·exact hbe
   ·rintro rfl
    rcases he with z | z
    ·exact nown c b hc z
    ·rw [hc] at z;cases z;exact hb rfl
end
set_option genInjectivity false in
structure Un (fs ex:List Addr)(H H':Hp)(h h':Heap):Prop where
 keep:∀ b o,h.get? b=some o->H b=none->b∉fs->b∉ex->h'.get? b=some o
 slot:∀ b o,h.get? b=some o->H b=none->b∈fs->b∉ex->∃ sl,h'.get? b=some { o with slots:=sl }
 free:∀ b o,h.get? b=some o->H b=none->b∉ex->H' b=none
 there:∀ b o,h.get? b=some o->b∉ex->∃ o',h'.get? b=some o'
 tups:∀ b xs,H b=some (.tup xs)->H' b=some (.tup xs)
 frzs:∀ b o u,H b=some (.frz o u)->H' b=some (.frz o u)
 tbls:∀ b ps,H b=some (.tbl ps)->∃ more,H' b=some (.tbl (ps++more))
section
variable {fs fs' ex ex':List Addr}{H H1 H2:Hp}{h h1 h2 h':Heap}{a x e:Addr}{o:HO}
theorem Un.any (u:Un fs ex H H1 h h1){b:Addr}{ob:Obj}(q:h.get? b=some ob)(n:H b=none)(hx:b∉ex):∃ sl,h1.get? b=some { ob with slots:=sl }:=by
 by_cases hb:b∈fs
 ·exact u.slot b ob q n hb hx
 ·exact ⟨ob.slots,u.keep b ob q n hb hx⟩
theorem Un.kept (k:∀ b u,h.get? b=some u->h'.get? b=some u):Un fs ex H H h h' :=
 ⟨fun b ob q _ _ _=>k b ob q,fun b ob q _ _ _=>⟨ob.slots,k b ob q⟩,fun _ _ _ n _=>n,fun b ob q _=>⟨ob,k b ob q⟩,fun _ _ q=>q,fun _ _ _ q=>q,fun _ ps q=>⟨#[],by rw [q];simp⟩⟩
theorem Un.refl:Un fs ex H H h h:=Un.kept fun _ _ q=>q
theorem Un.laid (k:∀ b u,h.get? b=some u->h'.get? b=some u)(hp:h.objs.size<=a)(hn:H a=none):Un fs ex H (upd H a o) h h' where
 keep:=fun b u q _ _ _=>k b u q
 slot:=fun b u q _ _ _=>⟨u.slots,k b u q⟩
 free:=fun b u q n _=>by rw [upd_ne (Nat.ne_of_lt (Nat.lt_of_lt_of_le (Heap.lt_size q) hp))];exact n
 there:=fun b u q _=>⟨u,k b u q⟩
 tups:=fun b xs q=>by rw [upd_ne (ne_of_none q hn)];exact q
 frzs:=fun b u xs q=>by rw [upd_ne (ne_of_none q hn)];exact q
 tbls:=fun b ps q=>⟨#[],by rw [upd_ne (ne_of_none q hn),q];simp⟩
theorem Un.write (mu:Mut (H x))(he:e=x∨H e=some (.own x))(k:∀ b u,b≠e->h.get? b=some u->h'.get? b=some u)(heo:∃ u,h'.get? e=some u):Un fs ex H (upd H x o) h h':=by
 have hx:∀ b,H b=none->b≠x:=fun b n z=>by subst z;rw [n] at mu;exact mu
 have hb:∀ b,H b=none->b≠e:=fun b n z=>by
  subst z
  rcases he with r | r
  ·exact hx b n r
  ·rw [n] at r;cases r
 have hm:∀ b u,H b=some u->¬ Mut (some u)->b≠x:=fun b u q nm z=>by subst z;rw [q] at mu;exact nm mu
 refine ⟨fun b u q n _ _=>k b u (hb b n) q,fun b u q n _ _=>⟨u.slots,k b u (hb b n) q⟩,fun b u q n _=>by rw [upd_ne (hx b n)];exact n,fun b u q _=>?_,
  fun b xs q=>by rw [upd_ne (hm b _ q fun z=>z)];exact q,fun b u xs q=>by rw [upd_ne (hm b _ q fun z=>z)];exact q,fun b ps q=>⟨#[],by rw [upd_ne (hm b _ q fun z=>z),q];simp⟩⟩
 by_cases hbe:b=e
 ·subst hbe;exact heo
 ·exact ⟨u,k b u hbe q⟩
end
def trk (h:Heap)(H:Hp):List Addr:=(List.range h.objs.size).filter fun a=>(H a).isSome
def hidT (h:Heap)(H:Hp):Heap:=PySem.W.hideAll h (trk h H)
theorem hidT_size (h:Heap)(H:Hp):(hidT h H).objs.size=h.objs.size:=PySem.W.hideAll_size _ _
theorem hidT_get {h:Heap}{H:Hp}{b:Addr}{o:Obj}(e:h.get? b=some o)(n:H b=none):(hidT h H).get? b=some o :=
 PySem.W.hideAll_get _ e fun hm=>by
  have q:(H b).isSome=true:=(List.mem_filter.mp hm).2
  rw [n] at q;simp at q
theorem of_hidT {h:Heap}{H:Hp}{b:Addr}{o:Obj}(e:(hidT h H).get? b=some o):h.get? b=some o∧H b=none:=by
 have e':h.get? b=some o:=PySem.W.of_hideAll (trk h H) e
 refine ⟨e',?_⟩
 cases q:H b with
 | none=>rfl
 | some x =>
  have hm:b∈trk h H:=List.mem_filter.mpr ⟨List.mem_range.mpr (Heap.lt_size e'),by simp [q]⟩
  have z:(hidT h H).get? b=none:=PySem.W.hideAll_none (trk h H) hm
  rw [z] at e;cases e
def allNews (g h:Heap)(L:Addr):List (Addr×Obj):=(List.range h.objs.size).filterMap fun a=>if a=L∨(g.get? a).isSome=true then none else (h.get? a).map fun o=>(a,o)
def rest (g h:Heap)(L d:Addr):List (Addr×Obj):=(allNews g h L).filter fun p=>decide (p.1≠d)
end L2
namespace L2
open PySem PySem.Spec PyProof.Rows
set_option genInjectivity false in
structure Mod (K:PySem.W.Frag)(mg:Str->Option Value)(base:Heap):Prop where
 kin:K.In base
 glob:base.Ns mainGlobals mg
 blt:∃ mb,base.Ns builtinsNs mb∧∀ x:Str,x ≠ "__name__" -> mb x=bootBuiltins x
 nolimit:base.NoLimit
set_option genInjectivity false in
structure Cx where
 prog:Program
 w:World
 K:PySem.W.Frag
 mg:Str->Option Value
 base:Heap
 A:Around
 N:List Str
 s₀:Shared
 H₀:Hp
 env:Env
 outer:List Env
 stack:List Env
 ex:List Addr
 fn:Str->Bool
 calm:Bool
 pn:List (Addr×Obj)
 xe:Value->Shared->Prop
def frs (l:List Env):List Addr:=l.filterMap (·.frame)
abbrev Cx.fs (X:Cx):List Addr:=frs X.outer
def Vis (sc:Scope)(x:Str):Prop:=sc.names.lookup x=some .local∨sc.names.lookup x=some .cell∨sc.names.lookup x=some .free
def Loc (sc:Scope)(x:Str):Prop:=sc.names.lookup x=some .local∨sc.names.lookup x=some .cell
def Look (env:Env)(h:Heap)(m:Str->Option Value)(x:Str)(u:Value):Prop :=
 (env.kindOf x=some .local∧m x=some u)∨((env.kindOf x=some .cell∨env.kindOf x=some .free)∧∃ c,env.cells.lookup x=some c∧h.IsCell c (some u))
set_option genInjectivity false in
structure Cx.Ok (X:Cx):Prop where
 mod:Mod X.K X.mg X.base
 kind:X.env.scope.kind = .function
 glob:X.env.globals=mainGlobals
 blt:X.env.builtins=builtinsNs
 above:X.s₀.heap.objs.size<=X.env.locals
 inj:∀ x y c,X.env.cells.lookup x=some c->X.env.cells.lookup y=some c->x=y
 has:∀ x,(X.env.kindOf x=some .cell∨X.env.kindOf x=some .free)->∃ c,X.env.cells.lookup x=some c
 cab:∀ x c,X.fn x=true->X.env.cells.lookup x=some c->X.s₀.heap.objs.size<=c
 hd:X.calm=true->X.A.handled=none
 frames:X.A.frames=some X.stack
 stk:X.stack=X.outer∨(X.stack=X.env::X.outer∧X.env.frame=some X.env.locals)
 exf:∀ b∈X.ex,b≠X.env.locals∧∀ x c,X.env.cells.lookup x=some c->c≠b
 bs:∀ b o,X.base.get? b=some o->X.s₀.heap.get? b=some o∧X.H₀ b=none
 bsz:X.base.objs.size<=X.s₀.heap.objs.size
 noex:∀ b o,X.base.get? b=some o->b∉X.ex
 exfs:∀ b∈X.ex,b∉X.fs
 funs:X.s₀.heap.FunFrames X.base X.outer
 frf:∀ b∈X.fs,X.H₀ b=none
set_option genInjectivity false in
structure Inv (X:Cx)(pins:List (Addr×Obj))(σ:List (Option V))(H:Hp)(s:Shared):Prop where
 ok:X.Ok
 os:s.os=X.s₀.os
 bare:AllBare s.gens
 base:Un X.fs X.ex X.H₀ H X.s₀.heap s.heap
 loc:∃ m,s.heap.Ns X.env.locals m∧∀ (i:Nat) (x:Str) (v:V),X.N[i]?=some x->σ[i]?=some (some v)->Vis X.env.scope x->∃ u,RelV v u∧Look X.env s.heap m x u
 cell:∀ x c,X.env.cells.lookup x=some c->∃ v,s.heap.IsCell c v
 free:H X.env.locals=none
 freeC:∀ x c,X.env.cells.lookup x=some c->H c=none
 pin:∀ p∈X.pn++pins,s.heap.get? p.1=some p.2∧H p.1=none∧p.1≠X.env.locals∧p.1∉X.fs∧∀ v,p.2.data≠.cell v
 hok:HOk X.prog X.w H s.heap
 len:σ.length=X.N.length
section
variable {X:Cx}{pins:List (Addr×Obj)}{σ:List (Option V)}{H H':Hp}{s:Shared}{h':Heap}
theorem Cx.Ok.nofr (ok:X.Ok){b:Addr}{o:Obj}(e:X.base.get? b=some o):b∉X.fs:=fun hb=>by
 have:=(ok.funs.mem hb).1
 rw [e] at this;cases this
theorem Inv.bs (I:Inv X pins σ H s):∀ b o,X.base.get? b=some o->s.heap.get? b=some o∧H b=none:=fun b o e =>
 ⟨I.base.keep b o (I.ok.bs b o e).1 (I.ok.bs b o e).2 (I.ok.nofr e) (I.ok.noex b o e),I.base.free b o (I.ok.bs b o e).1 (I.ok.bs b o e).2 (I.ok.noex b o e)⟩
theorem Inv.bk (I:Inv X pins σ H s):∀ b o,X.base.get? b=some o->s.heap.get? b=some o:=fun b o e=>(I.bs b o e).1
theorem Inv.mod (I:Inv X pins σ H s):Mod X.K X.mg X.base:=I.ok.mod
theorem Inv.kIn (I:Inv X pins σ H s):X.K.In s.heap:=I.ok.mod.kin.keeps I.bk
theorem Inv.lt (I:Inv X pins σ H s):X.env.locals<s.heap.objs.size:=let ⟨_,hn,_⟩:=I.loc;hn.lt
theorem Inv.sz (I:Inv X pins σ H s):X.s₀.heap.objs.size<=s.heap.objs.size:=Nat.le_trans I.ok.above (Nat.le_of_lt I.lt)
theorem Inv.nofs (I:Inv X pins σ H s){a:Addr}(h:s.heap.objs.size<=a):a∉X.fs:=fun hb=>by
 obtain ⟨_,o,ho,_⟩:=I.ok.funs.mem hb
 exact absurd (Nat.lt_of_lt_of_le (Heap.lt_size ho) (Nat.le_trans I.sz h)) (Nat.lt_irrefl _)
theorem Inv.cne (I:Inv X pins σ H s):∀ x c,X.env.cells.lookup x=some c->c≠X.env.locals:=fun x c e z=>by
 obtain ⟨v,o,ho,hd⟩:=I.cell x c e
 obtain ⟨m,⟨o',es,ep,ho',hd',_⟩,_⟩:=I.loc
 rw [z,ho'] at ho;cases ho;rw [hd'] at hd;cases hd
theorem Inv.funs (I:Inv X pins σ H s):s.heap.FunFrames X.base X.outer:=by
 have all:∀ (l:List Env),(∀ b∈frs l,b∈X.fs)->X.s₀.heap.FunFrames X.base l->s.heap.FunFrames X.base l:=by
  intro l
  induction l with
  | nil=>intro _ _;trivial
  | cons env r ih =>
   intro hs hl
   obtain ⟨hk,⟨L,o,hf,hn,ho,hd⟩,hr⟩:=hl
   have hL:L∈X.fs:=hs L (by unfold frs;rw [List.filterMap_cons,hf];exact List.mem_cons_self)
   obtain ⟨sl,e⟩:=I.base.slot L o ho (I.ok.frf L hL) hL fun z=>I.ok.exfs L z hL
   exact ⟨hk,⟨L,_,hf,hn,e,hd⟩,ih (fun b hb=>hs b (by unfold frs;rw [List.filterMap_cons,hf];exact List.mem_cons_of_mem _ hb)) hr⟩
 exact all X.outer (fun _ hb=>hb) I.ok.funs
theorem Inv.stack (I:Inv X pins σ H s):s.heap.FunFrames X.base X.stack:=by
 rcases I.ok.stk with e | ⟨e,hf⟩
 ·rw [e];exact I.funs
 ·rw [e]
  obtain ⟨m,hn,_⟩:=I.loc
  refine .cons (by rw [I.ok.kind];decide) hf hn ?_ I.funs
  exact Heap.get?_none_of_le (Nat.le_trans I.ok.bsz I.ok.above)
theorem Inv.stkSub (I:Inv X pins σ H s):∀ b∈frs X.stack,b∈X.env.locals::X.fs:=fun b hb=>by
 rcases I.ok.stk with e | ⟨e,hf⟩
 ·rw [e] at hb;exact List.mem_cons_of_mem _ hb
 ·rw [e] at hb
  unfold frs at hb
  rw [List.filterMap_cons,hf] at hb
  exact hb
theorem Inv.stkFree (I:Inv X pins σ H s):∀ b∈frs X.stack,H b=none:=fun b hb=>by
 rcases List.mem_cons.mp (I.stkSub b hb) with e | hb
 ·rw [e];exact I.free
 ·obtain ⟨_,o,ho,_⟩:=I.ok.funs.mem hb
  exact I.base.free b o ho (I.ok.frf b hb) fun z=>I.ok.exfs b z hb
theorem Inv.step {g':Array GenState}{t':Nat}{d':Drawn}{ch:List Addr}(I:Inv X pins σ H s)
  (hch:∀ b∈ch,(b∈X.ex∨X.s₀.heap.objs.size<=b)∧b≠X.env.locals∧(∀ x c,X.env.cells.lookup x=some c->c≠b)∧∀ p∈X.pn++pins,p.1≠b)
  (keep:∀ b o,b≠X.env.locals->b∉X.fs->b∉ch->s.heap.get? b=some o->H b=none->h'.get? b=some o)
  (slot:∀ b o,b≠X.env.locals->b∈X.fs->b∉ch->s.heap.get? b=some o->H b=none->∃ sl,h'.get? b=some { o with slots:=sl }) (free:∀ b o,b∉ch->s.heap.get? b=some o->H b=none->H' b=none)
  (there:∀ b o,b∉ch->s.heap.get? b=some o->∃ o',h'.get? b=some o')
  (tups:∀ b xs,H b=some (.tup xs)->H' b=some (.tup xs)) (frzs:∀ b o u,H b=some (.frz o u)->H' b=some (.frz o u)) (tbls:∀ b ps,H b=some (.tbl ps)->∃ more,H' b=some (.tbl (ps++more)))
  (ns:∀ m,s.heap.Ns X.env.locals m->h'.Ns X.env.locals m) (hok:HOk X.prog X.w H' h') (hg:AllBare g') :
  Inv X pins σ H' { s with heap:=h',gens:=g',drawn:=d',toks:=t' }:=by
 have neL:∀ b o,X.s₀.heap.get? b=some o->b≠X.env.locals:=fun b o e=>Nat.ne_of_lt (Nat.lt_of_lt_of_le (Heap.lt_size e) I.ok.above)
 have neC:∀ b o,X.s₀.heap.get? b=some o->b∉X.ex->b∉ch:=fun b o e hx hb=>by
  rcases (hch b hb).1 with z | z
  ·exact hx z
  ·exact absurd (Nat.lt_of_lt_of_le (Heap.lt_size e) z) (Nat.lt_irrefl _)
 have cellK:∀ x c,X.env.cells.lookup x=some c->∀ v,s.heap.IsCell c v->h'.IsCell c v:=fun x c e v ⟨o,ho,hd⟩=>by
  have nch:c∉ch:=fun z=>(hch c z).2.2.1 x c e rfl
  by_cases hc:c∈X.fs
  ·obtain ⟨sl,q⟩:=slot c o (I.cne x c e) hc nch ho (I.freeC x c e)
   exact ⟨_,q,hd⟩
  ·exact ⟨o,keep c o (I.cne x c e) hc nch ho (I.freeC x c e),hd⟩
 refine ⟨I.ok,I.os,hg,⟨fun b o e n hb hx=>?_,fun b o e n hb hx=>?_,fun b o e n hx=>?_,fun b o e hx=>?_,fun b xs e=>tups b xs (I.base.tups b xs e),fun b o xs e=>frzs b o xs (I.base.frzs b o xs e),fun b ps e=>?_⟩,?_,fun x c e=>?_,?_,fun x c e=>?_,fun p hp=>?_,hok,I.len⟩
 ·exact keep b o (neL b o e) hb (neC b o e hx) (I.base.keep b o e n hb hx) (I.base.free b o e n hx)
 ·obtain ⟨sl,e1⟩:=I.base.slot b o e n hb hx
  obtain ⟨sl',e2⟩:=slot b _ (neL b o e) hb (neC b o e hx) e1 (I.base.free b o e n hx)
  exact ⟨sl',e2⟩
 ·obtain ⟨o',e1⟩:=I.base.there b o e hx
  exact free b o' (neC b o e hx) e1 (I.base.free b o e n hx)
 ·obtain ⟨o',e1⟩:=I.base.there b o e hx
  exact there b o' (neC b o e hx) e1
 ·obtain ⟨m1,e1⟩:=I.base.tbls b ps e
  obtain ⟨m2,e2⟩:=tbls b _ e1
  exact ⟨m1++m2,by rw [e2,Array.append_assoc]⟩
 ·obtain ⟨m,hn,hl⟩:=I.loc
  refine ⟨m,ns m hn,fun i x v e1 e2 e3=>?_⟩
  obtain ⟨u,r,l⟩:=hl i x v e1 e2 e3
  refine ⟨u,r,?_⟩
  rcases l with l | ⟨k,c,e,z⟩
  ·exact .inl l
  ·exact .inr ⟨k,c,e,cellK x c e _ z⟩
 ·obtain ⟨v,z⟩:=I.cell x c e
  exact ⟨v,cellK x c e v z⟩
 ·obtain ⟨m,⟨o,_,_,ho,_⟩,_⟩:=I.loc
  exact free _ o (fun z=>(hch _ z).2.1 rfl) ho I.free
 ·obtain ⟨v,o,ho,hd⟩:=I.cell x c e
  exact free c o (fun z=>(hch c z).2.2.1 x c e rfl) ho (I.freeC x c e)
 ·obtain ⟨e,n,ne,nf,d⟩:=I.pin p hp
  have nch:p.1∉ch:=fun z=>(hch p.1 z).2.2.2 p hp rfl
  exact ⟨keep p.1 p.2 ne nf nch e n,free p.1 p.2 nch e n,ne,nf,d⟩
theorem Inv.un {t':Nat}(I:Inv X pins σ H s)(u:Un X.fs [] H H' s.heap h')(hok:HOk X.prog X.w H' h'):Inv X pins σ H' { s with heap:=h',toks:=t' }:=by
 obtain ⟨m,⟨o,es,ep,ho,r⟩,_⟩:=id I.loc
 obtain ⟨sl,hL⟩:=u.any ho I.free (by simp)
 exact I.step (g':=s.gens) (d':=s.drawn) (ch:=[]) (fun _ z=>nomatch z) (fun b o _ hb _ e n=>u.keep b o e n hb (by simp)) (fun b o _ hb _ e n=>u.slot b o e n hb (by simp)) (fun b o _ e n=>u.free b o e n (by simp)) (fun b o _ e=>u.there b o e (by simp)) u.tups u.frzs u.tbls (fun m' hm=>by
  obtain ⟨o',es',ep',ho',r'⟩:=hm
  rw [ho] at ho';cases ho'
  exact ⟨_,es',ep',hL,r'⟩) hok I.bare
theorem Inv.call {g':Array GenState}{t':Nat}{d':Drawn}{ch:List Addr}(I:Inv X pins σ H s)(u:Un (frs X.stack) ch H H' s.heap h')(hok:HOk X.prog X.w H' h')(hg:AllBare g')
  (hch:∀ b∈ch,(b∈X.ex∨X.s₀.heap.objs.size<=b)∧b≠X.env.locals∧(∀ x c,X.env.cells.lookup x=some c->c≠b)∧∀ p∈X.pn++pins,p.1≠b) :
  Inv X pins σ H' { s with heap:=h',gens:=g',drawn:=d',toks:=t' }:=by
 obtain ⟨m,⟨o,es,ep,ho,r⟩,_⟩:=id I.loc
 obtain ⟨sl,hL⟩:=u.any ho I.free fun z=>(hch _ z).2.1 rfl
 exact I.step (ch:=ch) hch (fun b o hL hb hc e n=>u.keep b o e n (fun z=>(List.mem_cons.mp (I.stkSub b z)).elim hL hb) hc) (fun b o _ _ hc e n=>u.any e n hc) (fun b o hc e n=>u.free b o e n hc) (fun b o hc e=>u.there b o e hc) u.tups u.frzs u.tbls (fun m' hm=>by
  obtain ⟨o',es',ep',ho',r'⟩:=hm
  rw [ho] at ho';cases ho'
  exact ⟨_,es',ep',hL,r'⟩) hok hg
theorem Inv.turned {t':Nat}{it:Addr}(I:Inv X pins σ H s)(k:∀ b o,b≠it->s.heap.get? b=some o->h'.get? b=some o)(hn:H it=none)(hL:it≠X.env.locals)
  (h1:it∈X.ex∨X.s₀.heap.objs.size<=it) (h2:∀ x c,X.env.cells.lookup x=some c->c≠it) (h3:∀ p∈X.pn++pins,p.1≠it):Inv X pins σ H { s with heap:=h',toks:=t' }:=by
 have nit:∀ b u,H b=some u->b≠it:=fun b u e z=>by rw [z,hn] at e;cases e
 refine I.step (g':=s.gens) (d':=s.drawn) (ch:=[it]) (fun b hb=>?_) (fun b o _ _ hc e _=>k b o (fun z=>hc (by simp [z])) e) (fun b o _ _ hc e _=>⟨o.slots,k b o (fun z=>hc (by simp [z])) e⟩) (fun _ _ _ _ n=>n)
  (fun b o hc e=>⟨o,k b o (fun z=>hc (by simp [z])) e⟩) (fun _ _ e=>e) (fun _ _ _ e=>e) (fun b ps e=>⟨#[],by rw [e];simp⟩) (fun m hm=>?_) (fun b u e=>?_) I.bare
 ·have e:b=it:=by simpa using hb
  subst e
  exact ⟨h1,hL,h2,h3⟩
 ·obtain ⟨o,es,ep,ho,r⟩:=hm
  exact ⟨o,es,ep,k _ o (Ne.symm hL) ho,r⟩
 ·refine (I.hok b u e).stay (fun c v hc q=>k c v ?_ q) (fun _ q=>q) fun _ _ q=>q
  rcases hc with z | z
  ·rw [z];exact nit b u e
  ·exact nit c _ z
theorem Inv.tok (I:Inv X pins σ H s)(t:Nat):Inv X pins σ H { s with toks:=t }:=I.un (h':=s.heap) (t':=t) Un.refl I.hok
theorem Inv.kept {t':Nat}(I:Inv X pins σ H s)(k:∀ b u,s.heap.get? b=some u->h'.get? b=some u):Inv X pins σ H { s with heap:=h',toks:=t' }:=I.un (Un.kept k) (I.hok.kept k)
theorem Inv.laid {a:Addr}{o:HO}{t':Nat}(I:Inv X pins σ H s)(k:∀ b u,s.heap.get? b=some u->h'.get? b=some u)(hp:s.heap.objs.size<=a)(new:ObjOk X.prog X.w (upd H a o) h' a o) :
 Inv X pins σ (upd H a o) { s with heap:=h',toks:=t' }:=I.un (Un.laid k hp (I.hok.fresh hp)) (I.hok.laid k hp new)
theorem Inv.write {x e:Addr}{o:HO}{t':Nat}(I:Inv X pins σ H s)(mu:Mut (H x))(he:e=x∨H e=some (.own x))(k:∀ b u,b≠e->s.heap.get? b=some u->h'.get? b=some u)(heo:∃ u,h'.get? e=some u)
 (new:ObjOk X.prog X.w (upd H x o) h' x o):Inv X pins σ (upd H x o) { s with heap:=h',toks:=t' }:=I.un (Un.write mu he k heo) (I.hok.write mu he k heo new)
theorem Inv.pins_of {pins':List (Addr×Obj)}(I:Inv X pins σ H s)(h:∀ p∈pins',s.heap.get? p.1=some p.2∧H p.1=none∧p.1≠X.env.locals∧p.1∉X.fs∧∀ v,p.2.data≠.cell v):Inv X pins' σ H s :=
 ⟨I.ok,I.os,I.bare,I.base,I.loc,I.cell,I.free,I.freeC,fun p hp=>(List.mem_append.mp hp).elim (fun z=>I.pin p (List.mem_append_left _ z)) (h p),I.hok,I.len⟩
theorem nodup_ix {N:List Str}(hN:N.Nodup){i j:Nat}{x:Str}(a:N[i]?=some x)(b:N[j]?=some x):i=j:=by
 obtain ⟨h1,e1⟩:=List.getElem?_eq_some_iff.mp a
 obtain ⟨h2,e2⟩:=List.getElem?_eq_some_iff.mp b
 exact (List.getElem_inj hN).mp (e1.trans e2.symm)
theorem store_ok2 {M:Model}{A:Around}{E:Value->Shared->Prop}{i:Nat}{x:Str}{v:V}{u:Value}{Q:Unit->Shared->Prop}(I:Inv X pins σ H s)(hN:X.N.Nodup)(hi:X.N[i]?=some x)(hx:Loc X.env.scope x)(r:RelV v u)
  (h:∀ s',Inv X pins (σ.set i (some v)) H s'->(∃ a,Heap.SameBut a s.heap s'.heap∧(a=X.env.locals∨X.env.cells.lookup x=some a))->Q () s') (hf:X.fn x=true∨X.env.scope.names.lookup x=some .local:=by first | exact .inl rfl | exact .inr rfl | assumption):wpAny M A (storeName X.env x u) Q E s:=by
 obtain ⟨m,hn,hl⟩:=id I.loc
 have hcls:(X.env.scope.kind == .class||(X.env.scope.kind == .module&&X.env.locals != X.env.globals))=false:=by rw [I.ok.kind];rfl
 have hiσ:i<σ.length:=by rw [I.len];exact (List.getElem?_eq_some_iff.mp hi).1
 have cne:=I.cne
 have tracked:∀ {a:Addr} {h':Heap},(∃ o,s.heap.get? a=some o∧H a=none)->Heap.SameBut a s.heap h'->HOk X.prog X.w H h':=fun {a h'} ha hs b ob e=>by
  obtain ⟨_,_,hfree⟩:=ha
  refine (I.hok b ob e).stay (fun c w' hc q=>(hs.2 c ?_).trans q) (fun _ q=>q) fun _ _ q=>q
  rintro rfl
  rcases hc with rfl | hc
  ·rw [hfree] at e;cases e
  ·rw [hfree] at hc;cases hc
 rcases hx with hk | hk
 ·refine wpAny_storeName_local hk hn (fun h' hn' hs=>?_) hcls
  obtain ⟨oL,_,_,hoL,_⟩:=id hn
  refine h _ ⟨I.ok,I.os,I.bare,⟨fun b o e n hb hx=>?_,fun b o e n hb hx=>?_,I.base.free,fun b o e hx=>?_,I.base.tups,I.base.frzs,I.base.tbls⟩,⟨_,hn',fun j y v' e1 e2 e3=>?_⟩,fun y c e=>?_,I.free,I.freeC,fun p hp=>?_,tracked ⟨oL,hoL,I.free⟩ hs,by simpa using I.len⟩ ⟨_,hs,.inl rfl⟩
  ·exact (hs.2 b (Nat.ne_of_lt (Nat.lt_of_lt_of_le (Heap.lt_size e) I.ok.above))).trans (I.base.keep b o e n hb hx)
  ·obtain ⟨sl,e1⟩:=I.base.slot b o e n hb hx
   exact ⟨sl,(hs.2 b (Nat.ne_of_lt (Nat.lt_of_lt_of_le (Heap.lt_size e) I.ok.above))).trans e1⟩
  ·obtain ⟨o',e1⟩:=I.base.there b o e hx
   exact ⟨o',(hs.2 b (Nat.ne_of_lt (Nat.lt_of_lt_of_le (Heap.lt_size e) I.ok.above))).trans e1⟩
  ·by_cases hj:j=i
   ·subst hj
    rw [hi] at e1;cases e1
    rw [List.getElem?_set_self hiσ] at e2
    cases e2
    exact ⟨u,r,.inl ⟨hk,by simp⟩⟩
   ·rw [List.getElem?_set_ne (Ne.symm hj)] at e2
    obtain ⟨u',r',q⟩:=hl j y v' e1 e2 e3
    refine ⟨u',r',?_⟩
    rcases q with ⟨k,e⟩ | ⟨k,c,e,z⟩
    ·refine .inl ⟨k,?_⟩
     have:y≠x:=fun e=>hj (nodup_ix hN e1 (e▸hi))
     simp [this,e]
    ·exact .inr ⟨k,c,e,z.sameBut hs (cne y c e)⟩
  ·obtain ⟨w',z⟩:=I.cell y c e
   exact ⟨w',z.sameBut hs (cne y c e)⟩
  ·obtain ⟨e,n,ne,nf,d⟩:=I.pin p hp
   exact ⟨(hs.2 p.1 ne).trans e,n,ne,nf,d⟩
 ·have hfn:X.fn x=true:=by
   rcases hf with z | z
   ·exact z
   ·rw [z] at hk;cases hk
  obtain ⟨c,hc⟩:=I.ok.has x (.inl hk)
  obtain ⟨w',z⟩:=I.cell x c hc
  refine wpAny_storeName_cell I.ok.kind hk hc z (fun h' hc' hs=>?_)
  obtain ⟨oc,hoc,hocd⟩:=id z
  refine h { s with heap:=h' } ⟨I.ok,I.os,I.bare,⟨fun b o e n hb hx=>?_,fun b o e n hb hx=>?_,I.base.free,fun b o e hx=>?_,I.base.tups,I.base.frzs,I.base.tbls⟩,⟨m,hn.sameBut hs (Ne.symm (cne x c hc)),fun j y v' e1 e2 e3=>?_⟩,fun y c' e=>?_,I.free,I.freeC,fun p hp=>?_,tracked ⟨oc,hoc,I.freeC x c hc⟩ hs,by simpa using I.len⟩ ⟨c,hs,.inr hc⟩
  ·exact (hs.2 b (Nat.ne_of_lt (Nat.lt_of_lt_of_le (Heap.lt_size e) (I.ok.cab x c hfn hc)))).trans (I.base.keep b o e n hb hx)
  ·obtain ⟨sl,e1⟩:=I.base.slot b o e n hb hx
   exact ⟨sl,(hs.2 b (Nat.ne_of_lt (Nat.lt_of_lt_of_le (Heap.lt_size e) (I.ok.cab x c hfn hc)))).trans e1⟩
  ·obtain ⟨o',e1⟩:=I.base.there b o e hx
   exact ⟨o',(hs.2 b (Nat.ne_of_lt (Nat.lt_of_lt_of_le (Heap.lt_size e) (I.ok.cab x c hfn hc)))).trans e1⟩
  ·by_cases hj:j=i
   ·subst hj
    rw [hi] at e1;cases e1
    rw [List.getElem?_set_self hiσ] at e2
    cases e2
    exact ⟨u,r,.inr ⟨.inl hk,c,hc,hc'⟩⟩
   ·rw [List.getElem?_set_ne (Ne.symm hj)] at e2
    obtain ⟨u',r',q⟩:=hl j y v' e1 e2 e3
    refine ⟨u',r',?_⟩
    rcases q with q | ⟨k,c',e,z'⟩
    ·exact .inl q
    ·refine .inr ⟨k,c',e,z'.sameBut hs ?_⟩
     rintro rfl
     exact hj (nodup_ix hN e1 (I.ok.inj _ _ _ e hc▸hi))
  ·by_cases hcc:c'=c
   ·subst hcc;exact ⟨_,hc'⟩
   ·obtain ⟨w2,z2⟩:=I.cell y c' e
    exact ⟨w2,z2.sameBut hs hcc⟩
  ·obtain ⟨e,n,ne,nf,d⟩:=I.pin p hp
   refine ⟨(hs.2 p.1 ?_).trans e,n,ne,nf,d⟩
   intro q
   rw [q,hoc] at e
   have q':oc=p.2:=Option.some.inj e
   exact d w' (by rw [<- q'];exact hocd)
theorem store_ok {M:Model}{A:Around}{E:Value->Shared->Prop}{i:Nat}{x:Str}{v:V}{u:Value}{Q:Unit->Shared->Prop}(I:Inv X pins σ H s)(hN:X.N.Nodup)(hi:X.N[i]?=some x)(hx:Loc X.env.scope x)(r:RelV v u)
  (h:∀ s',Inv X pins (σ.set i (some v)) H s'->Q () s') (hf:X.fn x=true∨X.env.scope.names.lookup x=some .local:=by first | exact .inl rfl | exact .inr rfl | assumption):wpAny M A (storeName X.env x u) Q E s :=
 store_ok2 I hN hi hx r (fun s' I' _=>h s' I') hf
theorem Inv.call' {s':Shared}{ch:List Addr}(I:Inv X pins σ H s)(ho:s'.os=s.os)(u:Un (frs X.stack) ch H H' s.heap s'.heap)(hok:HOk X.prog X.w H' s'.heap)(hg:AllBare s'.gens)
  (hch:∀ b∈ch,(b∈X.ex∨X.s₀.heap.objs.size<=b)∧b≠X.env.locals∧(∀ x c,X.env.cells.lookup x=some c->c≠b)∧∀ p∈X.pn++pins,p.1≠b):Inv X pins σ H' s':=by
 obtain ⟨h',g',d',t',o'⟩:=s'
 have e:o'=s.os:=ho
 subst e
 exact I.call (g':=g') (t':=t') (d':=d') u hok hg hch
end
abbrev XK:=Value->Option Addr->Hp->Prop
abbrev St:=List (Option V)
abbrev VK:=V->Hp->Prop
abbrev TE:=St->Hp->VK->Prop
abbrev TT:=St->Hp->(Bool->Hp->Prop)->Prop
abbrev TA:=St->Hp->(List V->Hp->Prop)->Prop
set_option genInjectivity false in
structure Ends where
 nx:St->Hp->Prop
 rt:VK
 bk:St->Hp->Prop:=fun _ _=>False
 ct:St->Hp->Prop:=fun _ _=>False
abbrev TS:=Ends->St->Hp->Prop
def EP (X:Cx)(pins:List (Addr×Obj))(σ:St)(Q:VK)(u:Value)(s':Shared):Prop:=∃ v H',Inv X pins σ H' s'∧RelV v u∧Q v H'
def TP (X:Cx)(pins:List (Addr×Obj))(σ:St)(Q:Bool->Hp->Prop)(b:Bool)(s':Shared):Prop:=∃ H',Inv X pins σ H' s'∧Q b H'
def AP (X:Cx)(pins:List (Addr×Obj))(σ:St)(Q:List V->Hp->Prop)(us:List Value)(s':Shared):Prop:=∃ vs H',Inv X pins σ H' s'∧Vals vs us∧Q vs H'
def SP (X:Cx)(pins:List (Addr×Obj))(D:Ends)(f:Flow)(s':Shared):Prop :=
 match f with
 | .next=>∃ σ' H',Inv X pins σ' H' s'∧D.nx σ' H'
 | .brk=>∃ σ' H',Inv X pins σ' H' s'∧D.bk σ' H'
 | .cont=>∃ σ' H',Inv X pins σ' H' s'∧D.ct σ' H'
 | .ret u=>∃ v σ' H',Inv X pins σ' H' s'∧RelV v u∧D.rt v H'
def PE (X:Cx)(e:Expr)(t:TE):Prop :=
 ∀ (pins:List (Addr×Obj)) (s:Shared) (σ:St) (H:Hp) (Q:VK),Inv X pins σ H s->t σ H Q->wpAny (model X.prog X.w) X.A (eval e X.env) (EP X pins σ Q) X.xe s
def PT (X:Cx)(e:Expr)(t:TT):Prop :=
 ∀ (pins:List (Addr×Obj)) (s:Shared) (σ:St) (H:Hp) (Q:Bool->Hp->Prop),Inv X pins σ H s->t σ H Q->wpAny (model X.prog X.w) X.A (isTrue e X.env (eval e X.env)) (TP X pins σ Q) X.xe s
def PW (X:Cx)(e:Expr)(t:TT):Prop :=
 ∀ (whole:Sem Value) (pins:List (Addr×Obj)) (s:Shared) (σ:St) (H:Hp) (Q:Bool->Hp->Prop),Inv X pins σ H s->t σ H Q->wpAny (model X.prog X.w) X.A (isTrue e X.env whole) (TP X pins σ Q) X.xe s
theorem PW.pt {X:Cx}{e:Expr}{t:TT}(h:PW X e t):PT X e t:=h _
def PA (X:Cx)(es:List Expr)(t:TA):Prop :=
 ∀ (pos:Pos) (pins:List (Addr×Obj)) (s:Shared) (σ:St) (H:Hp) (Q:List V->Hp->Prop),Inv X pins σ H s->t σ H Q->wpAny (model X.prog X.w) X.A (spliced (backTo pos (starEach es X.env))) (AP X pins σ Q) X.xe s
def PS (X:Cx)(st:Stmt)(t:TS):Prop :=
 ∀ (pins:List (Addr×Obj)) (s:Shared) (σ:St) (H:Hp) (D:Ends),Inv X pins σ H s->t D σ H->wpAny (model X.prog X.w) X.A (exec st X.env) (SP X pins D) X.xe s
def PSs (X:Cx)(st:List Stmt)(t:TS):Prop :=
 ∀ (pins:List (Addr×Obj)) (s:Shared) (σ:St) (H:Hp) (D:Ends),Inv X pins σ H s->t D σ H->wpAny (model X.prog X.w) X.A (execs st X.env) (SP X pins D) X.xe s
theorem thn {α:Type}{t:Sem α}{Q Q':α->Shared->Prop}{M:Model}{A:Around}{E:Value->Shared->Prop}{s:Shared}(h:wpAny M A t Q E s)(hQ:∀ a s,Q a s->Q' a s):wpAny M A t Q' E s:=wpAny_mono h hQ fun _ _ x=>x
end L2
namespace L2
open PySem PySem.Spec PyProof.Rows
section
variable {X:Cx}
def tVar (i:Nat):TE:=fun σ H Q=>∃ v,σ[i]?=some (some v)∧Q v H
def tC (v:V):TE:=fun _ H Q=>Q v H
theorem pe_var {i:Nat}{x:Str}{pos:Pos}(hN:X.N[i]?=some x)(hv:Vis X.env.scope x)(hd:(x==("__debug__" : Str))=false:=by decide)(hcd:(x==("__classdict__" : Str))=false:=by decide):PE X (.Name x pos) (tVar i):=by
 intro pins s σ H Q I h
 obtain ⟨v,e,h⟩:=h
 obtain ⟨m,hn,hl⟩:=I.loc
 obtain ⟨u,r,l⟩:=hl i x v hN e hv
 have fin:EP X pins σ Q u s:=⟨v,H,I,r,h⟩
 rcases l with ⟨hk,hm⟩ | ⟨hk,c,hc,hcell⟩
 ·exact wpAny_Name (wpAny_loadName_local I.ok.kind hk hn hm fin) hd
 ·rcases hk with hk | hk
  ·exact wpAny_Name (wpAny_loadName_cell I.ok.kind hk hc hcell fin) hd
  ·exact wpAny_Name (wpAny_loadName_free I.ok.kind hk hc hcell fin hcd) hd
theorem pe_int {i j pos}:PE X (.Constant (.int i) j pos) (tC (.int i)):=fun _ _ _ H _ I h=>wpAny_Constant_int ⟨.int i,H,I.tok _,⟨_,rfl⟩,h⟩
theorem pe_bl {b j pos}:PE X (.Constant (.bool b) j pos) (tC (.bl b)):=fun _ _ _ H _ I h=>Constant_bool ⟨.bl b,H,I,rfl,h⟩
theorem pe_non {j pos}:PE X (.Constant .none j pos) (tC .non):=fun _ _ _ H _ I h=>Constant_none ⟨.non,H,I,rfl,h⟩
theorem pe_str {x j pos}:PE X (.Constant (.str x) j pos) (tC (.str x)):=fun _ _ _ H _ I h=>Calls.Constant_str ⟨.str x,H,I.tok _,⟨_,rfl⟩,h⟩
def Gl (X:Cx)(x:Str):Prop:=X.env.kindOf x=some .globalImplicit
theorem ld_glob {E:Value->Shared->Prop}{pins:List (Addr×Obj)}{s:Shared}{σ:St}{H:Hp}{x:Str}{u:Value}{pos:Pos}{Q:Value->Shared->Prop}(I:Inv X pins σ H s)(hg:Gl X x)(hm:X.mg x=some u)(h:Q u s)
  (hd:(x==("__debug__" : Str))=false:=by decide):wpAny (model X.prog X.w) X.A (eval (.Name x pos) X.env) Q E s :=
 Calls.Name_function_global I.ok.kind hg (Calls.loadGlobal_global (by rw [I.ok.glob];exact I.mod.glob.keeps I.bk) hm h) hd
theorem ld_blt {E:Value->Shared->Prop}{pins:List (Addr×Obj)}{s:Shared}{σ:St}{H:Hp}{x:Str}{u:Value}{pos:Pos}{Q:Value->Shared->Prop}(I:Inv X pins σ H s)(hg:Gl X x)(hm:X.mg x=none)(hv:bootBuiltins x=some u)(h:Q u s)
  (hn:x ≠ "__name__" := by decide) (hd:(x==("__debug__" : Str))=false:=by decide):wpAny (model X.prog X.w) X.A (eval (.Name x pos) X.env) Q E s:=by
 obtain ⟨mb,h1,h2⟩:=I.mod.blt
 exact Calls.Name_function_global I.ok.kind hg (Calls.loadGlobal_builtin (by rw [I.ok.glob];exact I.mod.glob.keeps I.bk) hm (by rw [I.ok.blt];exact h1.keeps I.bk) ((h2 x hn).trans hv) h) hd
theorem pe_glob {x:Str}{v:V}{u:Value}{pos:Pos}(hg:Gl X x)(hm:X.mg x=some u)(r:RelV v u)(hd:(x==("__debug__" : Str))=false:=by decide):PE X (.Name x pos) (tC v) :=
 fun _ _ _ H _ I h=>ld_glob I hg hm ⟨v,H,I,r,h⟩ hd
theorem pe_bltn {x:Str}{v:V}{u:Value}{pos:Pos}(hg:Gl X x)(hm:X.mg x=none)(hv:bootBuiltins x=some u)(r:RelV v u)(hn:x ≠ "__name__" := by decide)(hd:(x==("__debug__" : Str))=false:=by decide):PE X (.Name x pos) (tC v) :=
 fun _ _ _ H _ I h=>ld_blt I hg hm hv ⟨v,H,I,r,h⟩ hn hd
variable {a b:Expr}{ta tb:TE}{pos:Pos}
def PC (X:Cx)(op:CmpOp)(a b:Expr)(t:TE):Prop :=
 ∀ (pins:List (Addr×Obj)) (s:Shared) (σ:St) (H:Hp) (Q:VK),Inv X pins σ H s->t σ H Q ->
  wpAny (model X.prog X.w) X.A (eval a X.env) (fun v s₁=>wpAny (model X.prog X.w) X.A (eval b X.env) (fun u s₂=>wpAny (model X.prog X.w) X.A (compareOp op v u) (EP X pins σ Q) X.xe s₂) X.xe s₁) X.xe s
theorem nobehind (b:Expr){op:CmpOp}(h:op≠.In)(h2:op≠.NotIn):behindInMarks op b=false:=by
 have e1:(op==CmpOp.In)=false:=by cases op <;> first | rfl | exact absurd rfl h
 have e2:(op==CmpOp.NotIn)=false:=by cases op <;> first | rfl | exact absurd rfl h2
 cases b <;> simp [behindInMarks,e1,e2]
def tNotN (ta:TE):TE:=fun σ H Q=>ta σ H fun x H1=>Q (.bl (!decide (x = .non))) H1
theorem RelV.none_iff {x:V}{v:Value}(r:RelV x v):(v==Value.none)=decide (x = .non):=by
 cases x with
 | non=>cases r;rfl
 | bl _=>cases r;rfl
 | int _=>obtain ⟨t,rfl⟩:=r;rfl
 | str _=>obtain ⟨t,rfl⟩:=r;rfl
 | byt _=>obtain ⟨t,rfl⟩:=r;rfl
 | flt _=>obtain ⟨t,rfl⟩:=r;rfl
 | ref _=>cases r;rfl
 | ty _=>cases r;rfl
theorem pc_notN {j pos'}(ha:PE X a ta):PC X .IsNot a (.Constant .none j pos') (tNotN ta):=by
 intro pins s σ H Q I h
 refine thn (ha pins s σ H _ I h) fun v s1 ⟨x,H1,I1,r1,q1⟩=>?_
 exact Constant_none (isnot_none_gen ⟨.bl _,H1,I1,by rw [r1.none_iff];rfl,q1⟩)
def tB (t:TE):TT:=fun σ H Q=>t σ H fun x H1=>∃ c,x = .bl c∧Q c H1
theorem pt_cmp {op:CmpOp}{t:TE}(h:PC X op a b t)(h1:behindInMarks op b=false:=by first | exact nobehind _ (by decide) (by decide) | rfl):PT X (.Compare a [op] [b] pos) (tB t):=by
 intro pins s σ H Q I hw
 refine wpAny_isTrue_Compare1 (thn (h pins s σ H _ I hw) fun v s1 h1=>thn h1 fun u s2 h2=>thn h2 fun c s3 ⟨x,H1,I1,r1,q1⟩=>?_) h1
 obtain ⟨d,rfl,q⟩:=q1
 cases r1
 exact wpAny_truthy_bool ⟨H1,I1,q⟩
theorem pt_val {e:Expr}{t:TE}(h:PE X e t)(he:∀ whole,isTrue e X.env whole=(do let v <- whole;standAt e.pos;holding [v] (truthy v)):=by intro _;rfl):PT X e (tB t):=by
 intro pins s σ H Q I hw
 refine isTrue_plain (thn (h pins s σ H _ I hw) fun v s1 ⟨x,H1,I1,r1,q1⟩=>?_) (he _)
 obtain ⟨d,rfl,q⟩:=q1
 cases r1
 exact wpAny_truthy_bool ⟨H1,I1,q⟩
variable {tA tB':TT}{rest:List Expr}
def tAnd (t u:TT):TT:=fun σ H Q=>t σ H fun c H1=>if c=true then u σ H1 Q else Q false H1
def tOr (t u:TT):TT:=fun σ H Q=>t σ H fun c H1=>if c=true then Q true H1 else u σ H1 Q
def tNot (t:TT):TT:=fun σ H Q=>t σ H fun c H1=>Q (!c) H1
theorem pw_and1 (ha:PT X a tA):PW X (.BoolOp .And [a] pos) tA:=by
 intro wh pins s σ H Q I h
 refine isTrue_and (thn (ha pins s σ H Q I h) fun c s1 e=>?_)
 cases c with
 | true=>exact isTrue_and_nil e
 | false=>exact e
theorem pw_or1 (ha:PT X a tA):PW X (.BoolOp .Or [a] pos) tA:=by
 intro wh pins s σ H Q I h
 refine isTrue_or (thn (ha pins s σ H Q I h) fun c s1 e=>?_)
 cases c with
 | false=>exact isTrue_or_nil e
 | true=>exact e
theorem pw_and (ha:PT X a tA)(hb:PW X (.BoolOp .And (b::rest) pos) tB'):PW X (.BoolOp .And (a::b::rest) pos) (tAnd tA tB'):=by
 intro wh pins s σ H Q I h
 refine isTrue_and (thn (ha pins s σ H _ I h) fun c s1 ⟨H1,I1,q1⟩=>?_)
 cases c with
 | true=>exact hb wh pins s1 σ H1 Q I1 q1
 | false=>exact ⟨H1,I1,q1⟩
theorem pw_or (ha:PT X a tA)(hb:PW X (.BoolOp .Or (b::rest) pos) tB'):PW X (.BoolOp .Or (a::b::rest) pos) (tOr tA tB'):=by
 intro wh pins s σ H Q I h
 refine isTrue_or (thn (ha pins s σ H _ I h) fun c s1 ⟨H1,I1,q1⟩=>?_)
 cases c with
 | true=>exact ⟨H1,I1,q1⟩
 | false=>exact hb wh pins s1 σ H1 Q I1 q1
theorem pt_not (ha:PT X a tA):PT X (.UnaryOp .Not a pos) (tNot tA):=by
 intro pins s σ H Q I h
 exact isTrue_not (ha pins s σ H (fun c H1=>Q (!c) H1) I h)
def tAndV (ta tb:TE):TE:=fun σ H Q=>ta σ H fun x H1=>∃ c,x = .bl c∧if c=true then tb σ H1 Q else Q (.bl false) H1
theorem pe_one {op}{t:TE}(h:PE X a t):PE X (.BoolOp op [a] pos) t:=fun pins s σ H Q I hw=>BoolOp_one (h pins s σ H Q I hw)
theorem pe_and (ha:PE X a ta)(hb:PE X (.BoolOp .And (b::rest) pos) tb):PE X (.BoolOp .And (a::b::rest) pos) (tAndV ta tb):=by
 intro pins s σ H Q I h
 refine BoolOp_and (thn (ha pins s σ H _ I h) fun v s1 ⟨x,H1,I1,r1,q1⟩=>?_)
 obtain ⟨c,rfl,q1⟩:=q1
 cases r1
 refine wpAny_truthy_bool ?_
 cases c with
 | true=>exact hb pins s1 σ H1 Q I1 q1
 | false=>exact ⟨.bl false,H1,I1,rfl,q1⟩
end
end L2
namespace L2
open PySem PySem.Spec PyProof.Rows
def SqL (K:PySem.W.Frag)(H:Hp)(a:Addr)(xs:List V):Prop :=
 Rd H a (.lst xs) ∨
  ∃ (o:Obj) (its:Array Value) (n:Nat),K.lookup a=some o∧o.cls = .type "list" ∧ o.dict=none∧o.data = .seq its n∧its.size<=sizeLine∧Vals xs its.toList
def SqT (K:PySem.W.Frag)(H:Hp)(a:Addr)(xs:List V):Prop :=
 Rd H a (.tup xs) ∨
  ∃ (o:Obj) (its:Array Value) (n:Nat),K.lookup a=some o∧o.cls = .type "tuple" ∧ o.data = .seq its n∧its.size<=sizeLine∧Vals xs its.toList
def absV:Value->Option V
 | .none=>some .non
 | .bool b=>some (.bl b)
 | .int i _=>some (.int i)
 | .str x _=>some (.str x)
 | .bytes b _=>some (.byt b)
 | .float b _=>some (.flt b)
 | .ref a=>some (.ref a)
 | .type n=>some (.ty n)
 | _=>none
theorem RelV.abs {x:V}{u:Value}(r:RelV x u):absV u=some x:=by
 cases x with
 | non=>cases r;rfl
 | bl _=>cases r;rfl
 | int _=>obtain ⟨t,rfl⟩:=r;rfl
 | str _=>obtain ⟨t,rfl⟩:=r;rfl
 | byt _=>obtain ⟨t,rfl⟩:=r;rfl
 | flt _=>obtain ⟨t,rfl⟩:=r;rfl
 | ref _=>cases r;rfl
 | ty _=>cases r;rfl
theorem RelV.inj {x y:V}{u:Value}(r:RelV x u)(q:RelV y u):x=y:=Option.some.inj (r.abs.symm.trans q.abs)
theorem Vals.inj:∀ {xs ys:List V} {us:List Value},Vals xs us->Vals ys us->xs=ys
 | _,_,_,.nil,.nil=>rfl
 | _,_,_,.cons r t,.cons r' t'=>by rw [r.inj r',Vals.inj t t']
section
variable {X:Cx}{pins:List (Addr×Obj)}{σ:St}{H:Hp}{s:Shared}{a:Addr}{xs ys:List V}
theorem SqL.of {K:PySem.W.Frag}(h:H a=some (.lst xs)):SqL K H a xs:=.inl (.inl h)
theorem SqT.of {K:PySem.W.Frag}(h:H a=some (.tup xs)):SqT K H a xs:=.inl (.inl h)
theorem Inv.list (I:Inv X pins σ H s)(h:SqL X.K H a xs):∃ its:List Value,Vals xs its∧PlainL s.heap a its.toArray∧xs.length<=sizeLine:=by
 rcases h with h | ⟨o,its,n,hk,hc,hd,hs,hz,r⟩
 ·obtain ⟨z,its,n,r,e⟩:=h.ok I.hok
  exact ⟨its,r,⟨_,n,e,rfl,rfl,rfl⟩,z⟩
 ·refine ⟨its.toList,r,⟨o,n,I.kIn a o hk,hc,hd,by simpa using hs⟩,?_⟩
  have e:=r.length
  simp only [Array.length_toList] at e
  omega
theorem Inv.tuple (I:Inv X pins σ H s)(h:SqT X.K H a xs):∃ its:List Value,Vals xs its∧IsTup s.heap a its.toArray∧xs.length<=sizeLine:=by
 rcases h with h | ⟨o,its,n,hk,hc,hs,hz,r⟩
 ·obtain ⟨z,its,r,p⟩:=h.ok I.hok
  exact ⟨its,r,p,z⟩
 ·refine ⟨its.toList,r,⟨o,I.kIn a o hk,hc,n,by simpa using hs⟩,?_⟩
  have e:=r.length
  simp only [Array.length_toList] at e
  omega
theorem Inv.list_inj (I:Inv X pins σ H s)(h:SqL X.K H a xs)(h':SqL X.K H a ys):xs=ys:=by
 obtain ⟨its,r,⟨o,n,e,_,_,d⟩,_⟩:=I.list h
 obtain ⟨its',r',⟨o',n',e',_,_,d'⟩,_⟩:=I.list h'
 rw [e] at e';cases e'
 rw [d] at d'
 injection d' with d1 _
 have:its=its':=by simpa using congrArg Array.toList d1
 subst this
 exact r.inj r'
theorem Inv.tuple_inj (I:Inv X pins σ H s)(h:SqT X.K H a xs)(h':SqT X.K H a ys):xs=ys:=by
 obtain ⟨its,r,⟨o,e,_,n,d⟩,_⟩:=I.tuple h
 obtain ⟨its',r',⟨o',e',_,n',d'⟩,_⟩:=I.tuple h'
 rw [e] at e';cases e'
 rw [d] at d'
 injection d' with d1 _
 have:its=its':=by simpa using congrArg Array.toList d1
 subst this
 exact r.inj r'
end
abbrev Cx.wish (X:Cx)(E:Value->Shared->Prop):Cx:={ X with xe:=E }
abbrev Cx.nox (X:Cx):Cx:=X.wish fun _ _=>False
theorem Cx.Ok.wish {X:Cx}(ok:X.Ok)(E:Value->Shared->Prop):(X.wish E).Ok :=
 ⟨ok.mod,ok.kind,ok.glob,ok.blt,ok.above,ok.inj,ok.has,ok.cab,ok.hd,ok.frames,ok.stk,ok.exf,ok.bs,ok.bsz,ok.noex,ok.exfs,ok.funs,ok.frf⟩
theorem Cx.Ok.unwish {X:Cx}{E:Value->Shared->Prop}(ok:(X.wish E).Ok):X.Ok :=
 ⟨ok.mod,ok.kind,ok.glob,ok.blt,ok.above,ok.inj,ok.has,ok.cab,ok.hd,ok.frames,ok.stk,ok.exf,ok.bs,ok.bsz,ok.noex,ok.exfs,ok.funs,ok.frf⟩
section
variable {X:Cx}{pins:List (Addr×Obj)}{σ:St}{H:Hp}{s:Shared}{E:Value->Shared->Prop}
theorem Inv.wish (I:Inv X pins σ H s)(E:Value->Shared->Prop):Inv (X.wish E) pins σ H s:=⟨I.ok.wish E,I.os,I.bare,I.base,I.loc,I.cell,I.free,I.freeC,I.pin,I.hok,I.len⟩
theorem Inv.unwish (I:Inv (X.wish E) pins σ H s):Inv X pins σ H s:=⟨I.ok.unwish,I.os,I.bare,I.base,I.loc,I.cell,I.free,I.freeC,I.pin,I.hok,I.len⟩
theorem SP.unwish {D:Ends}{f:Flow}{s':Shared}(h:SP (X.wish E) pins D f s'):SP X pins D f s':=by
 cases f with
 | next=>obtain ⟨σ',H',I,q⟩:=h;exact ⟨σ',H',I.unwish,q⟩
 | brk=>obtain ⟨σ',H',I,q⟩:=h;exact ⟨σ',H',I.unwish,q⟩
 | cont=>obtain ⟨σ',H',I,q⟩:=h;exact ⟨σ',H',I.unwish,q⟩
 | ret u=>obtain ⟨v,σ',H',I,r,q⟩:=h;exact ⟨v,σ',H',I.unwish,r,q⟩
theorem PSs.nox {st:List Stmt}{t:TS}(h:PSs X.nox st t):PSs X st t:=fun pins s σ H D I hw =>
 wpAny_mono (h pins s σ H D (I.wish _) hw) (fun _ _ q=>q.unwish) fun _ _ z=>False.elim z
end
section
variable {X:Cx}{st:Stmt}{rest:List Stmt}{t u:TS}{e:Expr}{te:TE}{pos:Pos}
def tNext:TS:=fun D σ H=>D.nx σ H
def tSeq (t u:TS):TS:=fun D σ H=>t { D with nx:=u D } σ H
theorem pss_nil:PSs X [] tNext:=fun _ _ σ H _ I h=>wpAny_execs_nil ⟨σ,H,I,h⟩
theorem pss_cons (h1:PS X st t)(h2:PSs X rest u):PSs X (st::rest) (tSeq t u):=by
 intro pins s σ H D I h
 refine wpAny_execs_cons (thn (h1 pins s σ H { D with nx:=u D } I h) fun f s1 q=>?_)
 cases f with
 | next =>
  obtain ⟨σ',H',I',q⟩:=q
  exact h2 pins s1 σ' H' D I' q
 | ret v=>exact q
 | brk=>exact q
 | cont=>exact q
theorem pss_one (h1:PS X st t):PSs X [st] t:=by
 intro pins s σ H D I h
 refine wpAny_execs_cons (thn (h1 pins s σ H D I h) fun f s1 q=>?_)
 cases f with
 | next=>exact wpAny_execs_nil q
 | ret v=>exact q
 | brk=>exact q
 | cont=>exact q
def tBreak:TS:=fun D σ H=>D.bk σ H
theorem ps_break:PS X (.Break pos) tBreak:=fun _ _ σ H _ I h=>wpAny_Break ⟨σ,H,I,h⟩
theorem Inv.quiet {pins:List (Addr×Obj)}{σ:St}{H:Hp}{s:Shared}(I:Inv X pins σ H s):interactive X.env=false:=by simp [interactive,I.ok.kind]
def tDrop (te:TE):TS:=fun D σ H=>te σ H fun _ H1=>D.nx σ H1
theorem ps_expr (he:PE X e te)(hs:swapsWith e none pos.line X.env=pure false:=by rfl):PS X (.Expr e pos) (tDrop te):=by
 intro pins s σ H D I h
 exact wpAny_Expr_any (thn (he pins s σ H _ I h) fun v s1 ⟨x,H1,I1,r1,q1⟩=>⟨σ,H1,I1,q1⟩) I.quiet hs
def tRet (te:TE):TS:=fun D σ H=>te σ H D.rt
theorem ps_ret (he:PE X e te):PS X (.Return (some e) pos) (tRet te):=by
 intro pins s σ H D I h
 exact wpAny_Return_some (thn (he pins s σ H _ I h) fun v s1 ⟨x,H1,I1,r1,q1⟩=>⟨x,σ,H1,I1,r1,q1⟩)
def tIfS (c:TT)(t u:TS):TS:=fun D σ H=>c σ H fun b H1=>if b=true then t D σ H1 else u D σ H1
theorem ps_if {c:Expr}{a b:List Stmt}{tc:TT}(hc:PT X c tc)(ha:PSs X a t)(hb:PSs X b u):PS X (.If c a b pos) (tIfS tc t u):=by
 intro pins s σ H D I h
 refine wpAny_If (thn (hc pins s σ H _ I h) fun d s1 ⟨H1,I1,q1⟩=>?_)
 cases d with
 | true=>exact ha pins s1 σ H1 D I1 q1
 | false=>exact hb pins s1 σ H1 D I1 q1
end
abbrev TG:=V->St->Hp->(St->Hp->Prop)->Prop
abbrev TGs:=List V->St->Hp->(St->Hp->Prop)->Prop
def PG (X:Cx)(target:Expr)(t:TG):Prop :=
 ∀ (pins:List (Addr×Obj)) (s:Shared) (σ:St) (H:Hp) (v:V) (u:Value) (Q:St->Hp->Prop),Inv X pins σ H s->RelV v u->t v σ H Q ->
  wpAny (model X.prog X.w) X.A (assign target X.env u) (fun _ s'=>∃ σ' H',Inv X pins σ' H' s'∧Q σ' H') X.xe s
def PGs (X:Cx)(ts:List Expr)(t:TGs):Prop :=
 ∀ (pins:List (Addr×Obj)) (s:Shared) (σ:St) (H:Hp) (vs:List V) (us:List Value) (Q:St->Hp->Prop),Inv X pins σ H s->Vals vs us->t vs σ H Q ->
  wpAny (model X.prog X.w) X.A (assignInOrder ((assignEach ts X.env).map (·.2)) us) (fun _ s'=>∃ σ' H',Inv X pins σ' H' s'∧Q σ' H') X.xe s
abbrev TSet:=V->V->V->Hp->(Hp->Prop)->Prop
def PSet (X:Cx)(t:TSet):Prop :=
 ∀ (pins:List (Addr×Obj)) (s:Shared) (σ:St) (H:Hp) (o i v:V) (ov iv u:Value) (Q:Hp->Prop),Inv X pins σ H s->RelV o ov->RelV i iv->RelV v u->t o i v H Q ->
  wpAny (model X.prog X.w) X.A (setItem ov iv u) (fun _ s'=>∃ H',Inv X pins σ H' s'∧Q H') X.xe s
section
variable {X:Cx}{pos:Pos}
def gName (i:Nat):TG:=fun v σ H Q=>Q (σ.set i (some v)) H
theorem pg_name {i:Nat}{x:Str}(hN:X.N.Nodup)(hi:X.N[i]?=some x)(hx:Loc X.env.scope x)(hf:X.fn x=true∨X.env.scope.names.lookup x=some .local:=by first | exact .inl rfl | exact .inr rfl | assumption):PG X (.Name x pos) (gName i):=by
 intro pins s σ H v u Q I r h
 exact wpAny_assign_Name (store_ok I hN hi hx r (fun s' I'=>⟨_,H,I',h⟩) hf)
def gNil:TGs:=fun vs σ H Q=>vs=[]∧Q σ H
def gCons (t:TG)(u:TGs):TGs:=fun vs σ H Q=>∃ v r,vs=v::r∧t v σ H fun σ' H'=>u r σ' H' Q
theorem pgs_nil:PGs X [] gNil:=by
 intro pins s σ H vs us Q I r h
 obtain ⟨e,h⟩:=h
 subst e
 cases r
 exact assignInOrder_nil ⟨σ,H,I,h⟩
theorem pgs_cons {e:Expr}{es:List Expr}{t:TG}{u:TGs}(h1:PG X e t)(h2:PGs X es u)
  (hs:(assignEach (e::es) X.env).map (·.2)=assign e X.env::(assignEach es X.env).map (·.2):=by rfl):PGs X (e::es) (gCons t u):=by
 intro pins s σ H vs us Q I r h
 obtain ⟨v,vr,e1,h⟩:=h
 subst e1
 cases r with
 | cons r rr =>
  rw [hs]
  refine assignInOrder_cons (thn (h1 pins s σ H _ _ _ I r h) fun _ s1 ⟨σ1,H1,I1,q1⟩=>?_)
  exact h2 pins s1 σ1 H1 _ _ Q I1 rr q1
def gTup (K:PySem.W.Frag)(n:Nat)(t:TGs):TG:=fun v σ H Q=>∃ a xs,v = .ref a∧SqT K H a xs∧xs.length=n∧t xs σ H Q
theorem pg_tup {es:List Expr}{k:Nat}{t:TGs}{n:Nat}(hc:X.calm=true)(h:PGs X es t)
  (hn:(assignEach es X.env).length=n:=by rfl) (hst:(assignEach es X.env).findIdx? (·.1)=none:=by rfl):PG X (.Tuple es k pos) (gTup X.K n t):=by
 intro pins s σ H v u Q I r hw
 obtain ⟨a,xs,e1,hq,hl,hw⟩:=hw
 subst e1
 cases r
 obtain ⟨its,rv,ht,hz⟩:=I.tuple hq
 refine assign_Tuple_tuple (I.ok.hd hc) ht (by simp [hn,<- hl,rv.length]) hst fun h' hx=>?_
 have I1:Inv X pins σ H { s with heap:=h' }:=I.kept (t':=s.toks) fun b o e=>hx b o (Nat.ne_of_lt (Heap.lt_size e)) e
 exact h pins _ σ H xs _ Q I1 (by simpa using rv) hw
def tAsg (te:TE)(g:TG):TS:=fun D σ H=>te σ H fun x H1=>g x σ H1 D.nx
theorem ps_set {i:Nat}{x:Str}{e:Expr}{te:TE}{pos':Pos}(hN:X.N.Nodup)(hi:X.N[i]?=some x)(hx:Loc X.env.scope x)(he:PE X e te)(hs:swapsWith e (some (.Name x pos')) pos.line X.env=pure false:=by rfl)(hf:X.fn x=true∨X.env.scope.names.lookup x=some .local:=by first | exact .inl rfl | exact .inr rfl | assumption) :
  PS X (.Assign [.Name x pos'] e pos) (tAsg te (gName i)):=by
 intro pins s σ H D I h
 refine wpAny_Assign_Name (thn (he pins s σ H _ I h) fun v s1 ⟨y,H1,I1,r1,q1⟩=>?_) hs
 exact store_ok I1 hN hi hx r1 (fun s2 I2=>⟨_,H1,I2,q1⟩) hf
end
section
variable {X:Cx}{pos:Pos}
def tWhile (c:TT)(tb:TS):TS:=fun D σ H=>∃ W:Nat->St->Hp->Prop,(∃ m,W m σ H)∧∀ m σ H,W m σ H ->
 c σ H fun b H1=>if b=true then ∃ N:St->Hp->Prop,(∀ σ' H',N σ' H'->∃ m',m'<m∧W m' σ' H')∧tb { D with nx:=N,ct:=N,bk:=D.nx } σ H1 else D.nx σ H1
theorem ps_while {c:Expr}{body:List Stmt}{tc:TT}{tb:TS}(hp:PassesOwn (model X.prog X.w) X.A X.env X.xe)(hc:PT X c tc)(hb:PSs X body tb):PS X (.While c body [] pos) (tWhile tc tb):=by
 intro pins s σ H D I h
 obtain ⟨W,⟨m0,w0⟩,turn⟩:=h
 refine wpAny_While (codeAny_whileLoop (fun n s'=>∃ σ' H',Inv X pins σ' H' s'∧W n σ' H') ?_ m0 ⟨σ,H,I,w0⟩)
 rintro n s1 ⟨σ1,H1,I1,w1⟩
 refine wpAny_passesOwn hp (thn (hc pins s1 σ1 H1 _ I1 (turn n σ1 H1 w1)) fun b s2 ⟨H2,I2,q2⟩=>?_)
 cases b with
 | true =>
  obtain ⟨N,hN,q2⟩:=q2
  rw [if_pos rfl]
  refine wpAny_passesOwn hp (thn (hb pins s2 σ1 H2 _ I2 q2) fun f s3 q3=>?_)
  cases f with
  | next =>
   obtain ⟨σ3,H3,I3,n3⟩:=q3
   obtain ⟨m',hm,w3⟩:=hN σ3 H3 n3
   exact ⟨m',hm,σ3,H3,I3,w3⟩
  | cont =>
   obtain ⟨σ3,H3,I3,n3⟩:=q3
   obtain ⟨m',hm,w3⟩:=hN σ3 H3 n3
   exact ⟨m',hm,σ3,H3,I3,w3⟩
  | brk=>exact q3
  | ret v=>exact q3
 | false =>
  rw [if_neg Bool.false_ne_true]
  exact wpAny_execs_nil ⟨σ1,H2,I2,q2⟩
end
set_option genInjectivity false in
structure It where
 go:Nat->Hp->Prop
 yld:Nat->Hp->V->Hp->Prop
 stop:Nat->Hp->Prop
def FpOk (X:Cx)(pins:List (Addr×Obj))(H:Hp)(b:Addr):Prop :=
 H b=none∧b≠X.env.locals∧b∉X.fs∧(b∈X.ex∨X.s₀.heap.objs.size<=b)∧(∀ x c,X.env.cells.lookup x=some c->c≠b)∧∀ p∈X.pn++pins,p.1≠b
theorem Inv.fpOk {X:Cx}{pins:List (Addr×Obj)}{σ:St}{H H':Hp}{s:Shared}{b:Addr}(I:Inv X pins σ H s)(hb:s.heap.objs.size<=b)(hn:H' b=none):FpOk X pins H' b:=by
 refine ⟨hn,Nat.ne_of_gt (Nat.lt_of_lt_of_le I.lt hb),I.nofs hb,.inr (Nat.le_trans I.sz hb),fun x c e z=>?_,fun p hp z=>?_⟩
 ·obtain ⟨v,q⟩:=I.cell x c e
  exact absurd (Nat.lt_of_lt_of_le q.lt (by rw [z];exact hb)) (Nat.lt_irrefl _)
 ·exact absurd (Nat.lt_of_lt_of_le (Heap.lt_size (I.pin p hp).1) (by rw [z];exact hb)) (Nat.lt_irrefl _)
set_option genInjectivity false in
structure Turn (P:Program)(w:World)(K:PySem.W.Frag)(tg:Expr)(J:It)(fp:List Addr)(it:Addr)(tn:Nat->Heap->Prop):Prop where
 mem:it∈fp
 obj:∀ i h,tn i h->∀ b∈fp,∃ o,h.get? b=some o∧∀ v,o.data≠.cell v
 keep:∀ i h h',tn i h->(∀ b∈fp,∀ o,h.get? b=some o->h'.get? b=some o)->tn i h'
 item:∀ (X:Cx),X.prog=P->X.w=w->X.K=K->X.calm=true->∀ (i:Nat) (pins:List (Addr×Obj)) (s:Shared) (σ:St) (H:Hp) (E:Value->Shared->Prop),Inv X pins σ H s->(∀ b∈fp,FpOk X pins H b)->tn i s.heap->J.go i H ->
  wpAny (model P w) X.A (pyNext (.ref it)) (fun r s1=>∃ u,r=some u ∧
   wpAny (model P w) X.A (letOwnedTupleGo tg (.ref it) u) (fun _ s2=>∃ x H',Inv X pins σ H' s2∧RelV x u∧J.yld i H x H'∧tn (i+1) s2.heap∧∀ b∈fp,H' b=none) E s1) E s
 done:∀ (X:Cx),X.prog=P->X.w=w->X.K=K->X.calm=true->∀ (i:Nat) (pins:List (Addr×Obj)) (s:Shared) (σ:St) (H:Hp) (E:Value->Shared->Prop),Inv X pins σ H s->(∀ b∈fp,FpOk X pins H b)->tn i s.heap->J.stop i H ->
  wpAny (model P w) X.A (pyNext (.ref it)) (fun r s1=>r=none∧Inv X pins σ H s1) E s
 self:∀ (A:Around) (i:Nat) (s:Shared) (Q:Value->Shared->Prop) (E:Value->Shared->Prop),tn i s.heap->Q (.ref it) s->wpAny (model P w) A (pyIter (.ref it)) Q E s
abbrev TI:=St->Hp->(It->Hp->Prop)->Prop
def PIE (X:Cx)(pins:List (Addr×Obj))(σ:St)(tg:Expr)(R:It->Hp->Prop)(itv:Value)(s2:Shared):Prop :=
 ∃ (it:Addr) (fp:List Addr) (tn:Nat->Heap->Prop) (J:It) (H':Hp),itv = .ref it∧Inv X pins σ H' s2∧Turn X.prog X.w X.K tg J fp it tn∧tn 0 s2.heap∧(∀ b∈fp,FpOk X pins H' b)∧R J H'
def PI (X:Cx)(tg iter:Expr)(wi:TI):Prop :=
 ∀ (pins:List (Addr×Obj)) (s:Shared) (σ:St) (H:Hp) (R:It->Hp->Prop),Inv X pins σ H s->wi σ H R ->
  wpAny (model X.prog X.w) X.A (eval iter X.env) (fun v s1=>wpAny (model X.prog X.w) X.A (pyIter v) (PIE X pins σ tg R) X.xe s1) X.xe s
theorem go_of {M : Model} {A : Around} {E : Value → Shared → Prop} {s : Shared} {tg : Expr} {it : Addr} {u : Value} {o : Obj} {n : String} {vs : Array Value} {Q : Unit → Shared → Prop} (ho : s.heap.get? it = some o) (hc : o.cls = .type n) (hd : o.data = .fields vs)
    (hn : ["enumerate", "zip", "dict_itemiterator", "dict_reverseitemiterator", "odict_iterator", "itertools.zip_longest", "itertools.pairwise"].contains n = false) (hQ : Q () s) : wpAny M A (letOwnedTupleGo tg (.ref it) u) Q E s := by
  unfold letOwnedTupleGo
  cases tg <;> first
    | exact wpAny_pure hQ
    | (cases u <;> first
        | exact wpAny_pure hQ
        | (refine wpAny_bind (wpAny_load ho ?_)
           rw [hc, hd]
           show wpAny M A (if (["enumerate", "zip", "dict_itemiterator", "dict_reverseitemiterator", "odict_iterator", "itertools.zip_longest", "itertools.pairwise"].contains n && vs[0]? == some (rawInt _)) = true then _ else _) Q E s
           rw [if_neg (by intro h; rw [hn, Bool.false_and] at h; cases h)]
           exact wpAny_pure hQ))
def Itl (K:PySem.W.Frag)(a:Addr):It :=
 ⟨fun i H=>∃ xs x,SqL K H a xs∧xs[i]?=some x,fun i H x H'=>H'=H∧∀ xs,SqL K H a xs->xs[i]?=some x,fun i H=>∃ xs,SqL K H a xs∧xs.length<=i⟩
def Itt (K:PySem.W.Frag)(a:Addr):It :=
 ⟨fun i H=>∃ xs x,SqT K H a xs∧xs[i]?=some x,fun i H x H'=>H'=H∧∀ xs,SqT K H a xs->xs[i]?=some x,fun i H=>∃ xs,SqT K H a xs∧xs.length<=i⟩
def Itr (lo:Int)(n:Nat):It:=⟨fun i _=>i<n,fun i H x H'=>H'=H∧x = .int (lo+i),fun i _=>n<=i⟩
theorem turn_list {P:Program}{w:World}{K:PySem.W.Frag}{tg:Expr}(a it:Addr):Turn P w K tg (Itl K a) [it] it (fun i h=>h.IsListIter it a i) where
 mem:=by simp
 obj:=fun i h st b hb=>by
  have e:b=it:=by simpa using hb
  subst e
  obtain ⟨o,e,c,d⟩:=st
  exact ⟨o,e,fun v z=>by rw [d] at z;cases z⟩
 keep:=fun i h h' st k=>st.at fun o e=>k it (by simp) o e
 item:=by
  intro X hP hw hK hc i pins s σ H E I hf st hg
  subst hP hw hK
  obtain ⟨xs,x,hq,hx⟩:=hg
  obtain ⟨its,rv,p,hz⟩:=I.list hq
  obtain ⟨u,hu,ru⟩:=rv.get hx
  obtain ⟨f0,f1,f2,f3,f4,f5⟩:=hf it (by simp)
  refine wpAny_pyNext_list_item st p.isList (x:=u) (by simpa using hu) fun h' st' sb=>?_
  have I1:Inv X pins σ H { s with heap:=h' }:=I.turned (t':=s.toks) (fun b o hb e=>(sb.2 b hb).trans e) f0 f1 f3 f4 f5
  obtain ⟨o,e,c,d⟩:=id st'
  exact ⟨u,rfl,go_of (s:={ s with heap:=h' }) e c d (by decide) ⟨x,H,I1,ru,⟨rfl,fun ys hy=>by rw [I.list_inj hy hq];exact hx⟩,st',fun b hb=>(hf b hb).1⟩⟩
 done:=by
  intro X hP hw hK hc i pins s σ H E I hf st hg
  subst hP hw hK
  obtain ⟨xs,hq,hx⟩:=hg
  obtain ⟨its,rv,p,hz⟩:=I.list hq
  obtain ⟨f0,f1,f2,f3,f4,f5⟩:=hf it (by simp)
  have hl:=rv.length
  exact wpAny_pyNext_list_end (I.ok.hd hc) st p.isList (by simp;omega) fun h' eb=>⟨rfl,I.turned (t':=s.toks) (fun b o hb e=>eb b o hb e) f0 f1 f3 f4 f5⟩
 self:=fun _ _ _ _ _ st h=>wpAny_pyIter_listiter st h
theorem turn_tuple {P:Program}{w:World}{K:PySem.W.Frag}{tg:Expr}(a it:Addr):Turn P w K tg (Itt K a) [it] it (fun i h=>h.IsTupleIter it a i) where
 mem:=by simp
 obj:=fun i h st b hb=>by
  have e:b=it:=by simpa using hb
  subst e
  obtain ⟨o,e,c,d⟩:=st
  exact ⟨o,e,fun v z=>by rw [d] at z;cases z⟩
 keep:=fun i h h' st k=>st.at fun o e=>k it (by simp) o e
 item:=by
  intro X hP hw hK hc i pins s σ H E I hf st hg
  subst hP hw hK
  obtain ⟨xs,x,hq,hx⟩:=hg
  obtain ⟨its,rv,p,hz⟩:=I.tuple hq
  obtain ⟨u,hu,ru⟩:=rv.get hx
  obtain ⟨f0,f1,f2,f3,f4,f5⟩:=hf it (by simp)
  refine wpAny_pyNext_tuple_item st (show s.heap.IsTuple a its.toArray from p) (x:=u) (by simpa using hu) fun h' st' sb=>?_
  have I1:Inv X pins σ H { s with heap:=h' }:=I.turned (t':=s.toks) (fun b o hb e=>(sb.2 b hb).trans e) f0 f1 f3 f4 f5
  obtain ⟨o,e,c,d⟩:=id st'
  exact ⟨u,rfl,go_of (s:={ s with heap:=h' }) e c d (by decide) ⟨x,H,I1,ru,⟨rfl,fun ys hy=>by rw [I.tuple_inj hy hq];exact hx⟩,st',fun b hb=>(hf b hb).1⟩⟩
 done:=by
  intro X hP hw hK hc i pins s σ H E I hf st hg
  subst hP hw hK
  obtain ⟨xs,hq,hx⟩:=hg
  obtain ⟨its,rv,p,hz⟩:=I.tuple hq
  obtain ⟨f0,f1,f2,f3,f4,f5⟩:=hf it (by simp)
  have hl:=rv.length
  exact wpAny_pyNext_tuple_end (I.ok.hd hc) st (show s.heap.IsTuple a its.toArray from p) (by simp;omega) fun h' eb=>⟨rfl,I.turned (t':=s.toks) (fun b o hb e=>eb b o hb e) f0 f1 f3 f4 f5⟩
 self:=fun _ _ _ _ _ st h=>wpAny_pyIter_tupleiter st h
theorem turn_range {P:Program}{w:World}{K:PySem.W.Frag}{tg:Expr}(it:Addr)(lo:Int)(n:Nat):Turn P w K tg (Itr lo n) [it] it (fun i h=>IsRangeIter h it (lo+(i:Nat)*1) ((n:Int)-(i:Nat)) 1) where
 mem:=by simp
 obj:=fun i h st b hb=>by
  have e:b=it:=by simpa using hb
  subst e
  exact ⟨_,st,fun v z=>by
   have z':Data.fields _=Data.cell v:=z
   cases z'⟩
 keep:=fun i h h' st k=>k it (by simp) _ st
 item:=by
  intro X hP hw hK hc i pins s σ H E I hf st hg
  subst hP hw hK
  obtain ⟨f0,f1,f2,f3,f4,f5⟩:=hf it (by simp)
  have W:=Walks.range (prog:=X.prog) (w:=X.w) (I.ok.hd hc) it lo 1 n
  refine W.item i s _ _ hg st fun v h' tk hv st' kk=>?_
  obtain ⟨t,rfl⟩:=hv
  have I1:Inv X pins σ H { s with heap:=h',toks:=tk }:=I.turned (fun b o hb e=>kk b o (by simpa using hb) e) f0 f1 f3 f4 f5
  refine ⟨_,rfl,go_of (s:={ s with heap:=h',toks:=tk }) (n := "range_iterator") st' rfl rfl (by decide) ⟨.int (lo+i),H,I1,⟨t,?_⟩,⟨rfl,rfl⟩,st',fun b hb=>(hf b hb).1⟩⟩
  rw [Int.mul_one]
 done:=by
  intro X hP hw hK hc i pins s σ H E I hf st hg
  subst hP hw hK
  obtain ⟨f0,f1,f2,f3,f4,f5⟩:=hf it (by simp)
  exact wpAny_pyNext_range_end (I.ok.hd hc) st (by have:n<=i:=hg;omega) fun h' eb=>⟨rfl,I.turned (t':=s.toks) (fun b o hb e=>eb b o hb e) f0 f1 f3 f4 f5⟩
 self:=fun _ _ _ _ _ st h=>wpAny_pyIter_rangeiter st h
end L2
namespace L2
open PySem PySem.Spec PyProof.Rows
section
variable {X:Cx}{tg:Expr}
def iList (K:PySem.W.Frag)(tl:TE):TI:=fun σ H R=>tl σ H fun x H1=>∃ a,x = .ref a∧(∃ xs,SqL K H1 a xs)∧R (Itl K a) H1
def iTup (K:PySem.W.Frag)(tl:TE):TI:=fun σ H R=>tl σ H fun x H1=>∃ a,x = .ref a∧(∃ xs,SqT K H1 a xs)∧R (Itt K a) H1
theorem pi_list {l:Expr}{tl:TE}(hl:PE X l tl):PI X tg l (iList X.K tl):=by
 intro pins s σ H R I h
 refine thn (hl pins s σ H _ I h) fun v s1 ⟨x,H1,I1,r1,q1⟩=>?_
 obtain ⟨a,e,⟨xs,hq⟩,q⟩:=q1
 subst e
 cases r1
 obtain ⟨its,rv,p,hz⟩:=I1.list hq
 refine wpAny_pyIter_list p.isList ?_
 refine ⟨s1.heap.objs.size,[s1.heap.objs.size],_,_,H1,rfl,I1.kept (t':=s1.toks) fun b o e=>Heap.get?_push_of_some _ e,turn_list a _,⟨_,Heap.get?_push_size _ rfl,rfl,rfl⟩,fun b hb=>?_,q⟩
 have e:b=s1.heap.objs.size:=by simpa using hb
 subst e
 exact I1.fpOk (Nat.le_refl _) (I1.hok.fresh (Nat.le_refl _))
theorem pi_tup {l:Expr}{tl:TE}(hl:PE X l tl):PI X tg l (iTup X.K tl):=by
 intro pins s σ H R I h
 refine thn (hl pins s σ H _ I h) fun v s1 ⟨x,H1,I1,r1,q1⟩=>?_
 obtain ⟨a,e,⟨xs,hq⟩,q⟩:=q1
 subst e
 cases r1
 obtain ⟨its,rv,p,hz⟩:=I1.tuple hq
 refine wpAny_pyIter_tuple (show s1.heap.IsTuple a its.toArray from p) ?_
 refine ⟨s1.heap.objs.size,[s1.heap.objs.size],_,_,H1,rfl,I1.kept (t':=s1.toks) fun b o e=>Heap.get?_push_of_some _ e,turn_tuple a _,⟨_,Heap.get?_push_size _ rfl,rfl,rfl⟩,fun b hb=>?_,q⟩
 have e:b=s1.heap.objs.size:=by simpa using hb
 subst e
 exact I1.fpOk (Nat.le_refl _) (I1.hok.fresh (Nat.le_refl _))
theorem range_it {pins:List (Addr×Obj)}{σ:St}{H:Hp}{s:Shared}{R:It->Hp->Prop}{E:Value->Shared->Prop}{lo hi:Int}{t u v:Tok}{tk:Nat}(I:Inv X pins σ H s)(h1 : -(2 ^ 62)<=lo)(h2:lo<2 ^ 62)(h3 : -(2 ^ 62)<=hi)(h4:hi<2 ^ 62)
  (q:R (Itr lo (hi-lo).toNat) H):wpAny (model X.prog X.w) X.A (pyIter (.ref s.heap.objs.size)) (PIE X pins σ tg R) E { s with heap:=s.heap.push { cls:=.type "range",data:=.fields #[.int lo t,.int hi u,.int 1 v] },toks:=tk }:=by
 refine wpAny_pyIter_range (IsRange.new ..) (small_one h1 h2 h3 h4) ?_
 have I1:Inv X pins σ H { s with heap:=s.heap.push { cls:=.type "range",data:=.fields #[.int lo t,.int hi u,.int 1 v] },toks:=tk }:=I.kept fun b o e=>Heap.get?_push_of_some _ e
 refine ⟨(s.heap.push { cls:=.type "range",data:=.fields #[.int lo t,.int hi u,.int 1 v] }).objs.size,[(s.heap.push { cls:=.type "range",data:=.fields #[.int lo t,.int hi u,.int 1 v] }).objs.size],_,_,H,rfl,
  I1.kept (t':=tk) fun b o e=>Heap.get?_push_of_some _ e,turn_range _ lo (hi-lo).toNat,?_,fun b hb=>?_,q⟩
 ·have e1:lo+((0:Nat):Int)*1=lo:=by simp
  have e2:(((hi-lo).toNat:Nat):Int)-((0:Nat):Int)=Builtin.Range.rangeSize lo hi 1:=by rw [rangeSize_one];split <;> omega
  show IsRangeIter _ _ (lo+((0:Nat):Int)*1) ((((hi-lo).toNat:Nat):Int)-((0:Nat):Int)) 1
  rw [e1,e2]
  exact Heap.get?_push_size _ rfl
 ·have e:b=(s.heap.push { cls:=.type "range",data:=.fields #[.int lo t,.int hi u,.int 1 v] }).objs.size:=by simpa using hb
  subst e
  exact I1.fpOk (Nat.le_refl _) (I1.hok.fresh (Nat.le_refl _))
def iRng1 (ta:TA):TI:=fun σ H R=>ta σ H fun vs H1=>∃ j:Int,vs=[.int j]∧-(2 ^ 62)<=j∧j<2 ^ 62∧R (Itr 0 j.toNat) H1
theorem pi_range1 {a:Expr}{ta:TA}{p pos:Pos}(hg:Gl X "range")(hm:X.mg "range" = none)(ha:PA X [a] ta)(hs:starEach [a] X.env=[(false,eval a X.env)]:=by rfl):PI X tg (.Call (.Name "range" p) [a] [] pos) (iRng1 ta):=by
 intro pins s σ H R I h
 refine Call_ (ld_blt I hg hm boot_range (PyProof.Rows.callWith_type1 (thn (ha pos pins s σ H _ I h) fun us s1 ⟨vs,H1,I1,r1,q1⟩=>?_) hs rfl))
 obtain ⟨j,e,q1,q2,q⟩:=q1
 subst e
 cases r1 with
 | cons r rr =>
  cases rr
  obtain ⟨t,rfl⟩:=r
  exact call_range_1 (range_it I1 (by omega) (by omega) q1 q2 (by simpa using q))
def tFor (wi:TI)(g:TG)(tb:TS):TS:=fun D σ H=>wi σ H fun J H1=>∃ W:Nat->Nat->St->Hp->Prop,(∃ m,W 0 m σ H1)∧∀ i m σ H,W i m σ H ->
 (J.stop i H∧D.nx σ H)∨(J.go i H∧∃ N:St->Hp->Prop,(∀ σ' H',N σ' H'->∃ m',m'<m∧W (i+1) m' σ' H')∧∀ x H',J.yld i H x H'->g x σ H' fun σ2 H2=>tb { D with nx:=N,ct:=N,bk:=D.nx } σ2 H2)
def pinsAt (fp:List Addr)(h:Heap):List (Addr×Obj):=fp.filterMap fun b=>(h.get? b).map fun o=>(b,o)
theorem mem_pinsAt {fp:List Addr}{h:Heap}{b:Addr}{o:Obj}(hb:b∈fp)(e:h.get? b=some o):(b,o)∈pinsAt fp h:=List.mem_filterMap.mpr ⟨b,hb,by rw [e];rfl⟩
theorem of_pinsAt {fp:List Addr}{h:Heap}{p:Addr×Obj}(hp:p∈pinsAt fp h):p.1∈fp∧h.get? p.1=some p.2:=by
 obtain ⟨b,hb,e⟩:=List.mem_filterMap.mp hp
 cases q:h.get? b with
 | none=>rw [q] at e;cases e
 | some o =>
  rw [q] at e
  have e':(b,o)=p:=Option.some.inj e
  subst e'
  exact ⟨hb,q⟩
theorem Inv.pinned {pins:List (Addr×Obj)}{σ:St}{H:Hp}{s:Shared}{fp:List Addr}(I:Inv X pins σ H s)(hf:∀ b∈fp,FpOk X pins H b)(ho:∀ b∈fp,∃ o,s.heap.get? b=some o∧∀ v,o.data≠.cell v):Inv X (pins++pinsAt fp s.heap) σ H s :=
 I.pins_of fun p hp=>(List.mem_append.mp hp).elim (fun z=>I.pin p (List.mem_append_right _ z)) fun z=>by
  obtain ⟨hb,e⟩:=of_pinsAt z
  obtain ⟨f0,f1,f2,_⟩:=hf p.1 hb
  obtain ⟨o,e',d⟩:=ho p.1 hb
  rw [e] at e';cases e'
  exact ⟨e,f0,f1,f2,d⟩
theorem Inv.unpinned {pins pl:List (Addr×Obj)}{σ:St}{H:Hp}{s:Shared}(I:Inv X (pins++pl) σ H s):Inv X pins σ H s:=I.pins_of fun p hp=>I.pin p (List.mem_append_right _ (List.mem_append_left _ hp))
theorem ps_for {iter:Expr}{body:List Stmt}{wi:TI}{g:TG}{tb:TS}{pos:Pos}(hp:PassesOwn (model X.prog X.w) X.A X.env X.xe)(hc:X.calm=true)(hi:PI X tg iter wi)(hg:PG X tg g)(hb:PSs X body tb)
  (hs:∀ x,foldedSetIterable iter X.env x=pure x:=by intro _;rfl):PS X (.For tg iter body [] pos) (tFor wi g tb):=by
 intro pins s σ H D I h
 refine wpAny_For (thn (hi pins s σ H _ I h) fun v s1 h1=>thn h1 fun itv s2 h2=>?_) hs
 obtain ⟨it,fp,tn,J,H2,e,I2,T,st2,f2,W,⟨m0,w0⟩,turn⟩:=h2
 subst e
 have stat:∀ {H':Hp},(∀ b∈fp,H' b=none)->∀ b∈fp,FpOk X pins H' b:=fun hn b hb=>⟨hn b hb,(f2 b hb).2⟩
 refine codeAny_forLoop_any (fun n s'=>∃ i σ' H',Inv X pins σ' H' s'∧tn i s'.heap∧(∀ b∈fp,H' b=none)∧W i n σ' H') ?_ m0 ⟨0,σ,H2,I2,st2,fun b hb=>(f2 b hb).1,w0⟩
 rintro n s3 ⟨i,σ3,H3,I3,st3,fr3,w3⟩
 rcases turn i n σ3 H3 w3 with ⟨stop,qn⟩ | ⟨go,N,hN,step⟩
 ·refine wpAny_passesOwn hp (thn (T.done X rfl rfl rfl hc i pins s3 σ3 H3 X.xe I3 (stat fr3) st3 stop) fun r s4 ⟨hr,I4⟩=>?_)
  subst hr
  exact wpAny_execs_nil ⟨σ3,H3,I4,qn⟩
 ·refine wpAny_passesOwn hp (thn (T.item X rfl rfl rfl hc i pins s3 σ3 H3 X.xe I3 (stat fr3) st3 go) fun r s4 ⟨u,hr,h4⟩=>?_)
  subst hr
  refine wpAny_passesOwn hp (thn h4 fun _ s5 ⟨x,H5,I5,r5,y5,st5,fr5⟩=>?_)
  have I5':=I5.pinned (stat fr5) (T.obj _ _ st5)
  refine wpAny_passesOwn hp (thn (hg _ s5 σ3 H5 x u _ I5' r5 (step x H5 y5)) fun _ s6 ⟨σ6,H6,I6,q6⟩=>?_)
  refine wpAny_passesOwn hp (thn (hb _ s6 σ6 H6 _ I6 q6) fun f s7 q7=>?_)
  have again:∀ {σ7:St} {H7:Hp},Inv X (pins++pinsAt fp s5.heap) σ7 H7 s7->N σ7 H7->∃ m,m<n∧∃ i σ' H',Inv X pins σ' H' s7∧tn i s7.heap∧(∀ b∈fp,H' b=none)∧W i m σ' H':=fun {σ7 H7} I7 n7=>by
   obtain ⟨m',hm,w7⟩:=hN σ7 H7 n7
   refine ⟨m',hm,i+1,σ7,H7,I7.unpinned,T.keep _ _ _ st5 fun b hb o e=>(I7.pin (b,o) (List.mem_append_right _ (List.mem_append_right _ (mem_pinsAt hb e)))).1,fun b hb=>?_,w7⟩
   obtain ⟨o,e,d⟩:=T.obj _ _ st5 b hb
   exact (I7.pin (b,o) (List.mem_append_right _ (List.mem_append_right _ (mem_pinsAt hb e)))).2.1
  cases f with
  | next=>obtain ⟨σ7,H7,I7,n7⟩:=q7;exact again I7 n7
  | cont=>obtain ⟨σ7,H7,I7,n7⟩:=q7;exact again I7 n7
  | brk=>obtain ⟨σ7,H7,I7,q7⟩:=q7;exact ⟨σ7,H7,I7.unpinned,q7⟩
  | ret v=>obtain ⟨x7,σ7,H7,I7,r7,q7⟩:=q7;exact ⟨x7,σ7,H7,I7.unpinned,r7,q7⟩
end
theorem for_list {K:PySem.W.Frag}{a:Addr}{xs:List V}{g:TG}{tb:TS}{D:Ends}{σ:St}{H:Hp}(Pv:Nat->St->Hp->Prop)(h0:Pv 0 σ H)(hl:∀ i σ H,i<=xs.length->Pv i σ H->SqL K H a xs)
  (hs:∀ i x σ H,xs[i]?=some x->Pv i σ H->g x σ H fun σ2 H2=>tb { D with nx:=Pv (i+1),ct:=Pv (i+1),bk:=D.nx } σ2 H2) (hd:∀ σ H,Pv xs.length σ H->D.nx σ H) :
  ∃ W:Nat->Nat->St->Hp->Prop,(∃ m,W 0 m σ H)∧∀ i m σ H,W i m σ H ->
   ((Itl K a).stop i H∧D.nx σ H)∨((Itl K a).go i H∧∃ N:St->Hp->Prop,(∀ σ' H',N σ' H'->∃ m',m'<m∧W (i+1) m' σ' H')∧∀ x H',(Itl K a).yld i H x H'->g x σ H' fun σ2 H2=>tb { D with nx:=N,ct:=N,bk:=D.nx } σ2 H2):=by
 refine ⟨fun i m σ H=>m=xs.length-i∧i<=xs.length∧Pv i σ H,⟨xs.length,by simp,Nat.zero_le _,h0⟩,?_⟩
 rintro i m σ H ⟨rfl,hi,p⟩
 have q:=hl i σ H hi p
 by_cases hlt:i<xs.length
 ·refine .inr ⟨⟨xs,xs[i],q,by simp [hlt]⟩,Pv (i+1),fun σ' H' p'=>⟨xs.length-(i+1),by omega,rfl,hlt,p'⟩,fun x H' y=>?_⟩
  obtain ⟨e,y⟩:=y
  subst e
  exact hs i x σ _ (y xs q) p
 ·have e:i=xs.length:=by omega
  subst e
  exact .inl ⟨⟨xs,q,Nat.le_refl _⟩,hd σ H p⟩
theorem for_range {lo:Int}{n:Nat}{g:TG}{tb:TS}{D:Ends}{σ:St}{H:Hp}(Pv:Nat->St->Hp->Prop)(h0:Pv 0 σ H)
  (hs:∀ i σ H,i<n->Pv i σ H->g (.int (lo+i)) σ H fun σ2 H2=>tb { D with nx:=Pv (i+1),ct:=Pv (i+1),bk:=D.nx } σ2 H2) (hd:∀ σ H,Pv n σ H->D.nx σ H) :
  ∃ W:Nat->Nat->St->Hp->Prop,(∃ m,W 0 m σ H)∧∀ i m σ H,W i m σ H ->
   ((Itr lo n).stop i H∧D.nx σ H)∨((Itr lo n).go i H∧∃ N:St->Hp->Prop,(∀ σ' H',N σ' H'->∃ m',m'<m∧W (i+1) m' σ' H')∧∀ x H',(Itr lo n).yld i H x H'->g x σ H' fun σ2 H2=>tb { D with nx:=N,ct:=N,bk:=D.nx } σ2 H2):=by
 refine ⟨fun i m σ H=>m=n-i∧i<=n∧Pv i σ H,⟨n,by simp,Nat.zero_le _,h0⟩,?_⟩
 rintro i m σ H ⟨rfl,hi,p⟩
 by_cases hlt:i<n
 ·refine .inr ⟨hlt,Pv (i+1),fun σ' H' p'=>⟨n-(i+1),by omega,rfl,hlt,p'⟩,fun x H' y=>?_⟩
  obtain ⟨e,y⟩:=y
  subst e y
  exact hs i σ _ hlt p
 ·have e:i=n:=by omega
  subst e
  exact .inl ⟨Nat.le_refl _,hd σ H p⟩
end L2
namespace L2
open PySem PySem.Spec PyProof.Rows
abbrev R2:=V->V->Hp->VK->Prop
def OpR (X:Cx)(f:Value->Value->Sem Value)(r:R2):Prop :=
 ∀ (pins:List (Addr×Obj)) (s:Shared) (σ:St) (H:Hp) (x y:V) (v u:Value) (Q:VK),Inv X pins σ H s->RelV x v->RelV y u->r x y H Q ->
  wpAny (model X.prog X.w) X.A (f v u) (EP X pins σ Q) X.xe s
def UnR (X:Cx)(f:Value->Sem Value)(r:V->Hp->VK->Prop):Prop :=
 ∀ (pins:List (Addr×Obj)) (s:Shared) (σ:St) (H:Hp) (x:V) (v:Value) (Q:VK),Inv X pins σ H s->RelV x v->r x H Q ->
  wpAny (model X.prog X.w) X.A (f v) (EP X pins σ Q) X.xe s
def CallR (X:Cx)(f:Value)(r:List V->Hp->VK->Prop):Prop :=
 ∀ (pins:List (Addr×Obj)) (s:Shared) (σ:St) (H:Hp) (xs:List V) (us:List Value) (Q:VK),Inv X pins σ H s->Vals xs us->r xs H Q ->
  wpAny (model X.prog X.w) X.A (call f us) (EP X pins σ Q) X.xe s
def tOp (r:R2)(ta tb:TE):TE:=fun σ H Q=>ta σ H fun x H1=>tb σ H1 fun y H2=>r x y H2 Q
def tUn (r:V->Hp->VK->Prop)(ta:TE):TE:=fun σ H Q=>ta σ H fun x H1=>r x H1 Q
def rI (C:Int->Int->Prop)(g:Int->Int->V):R2:=fun x y H Q=>∃ i j,x = .int i∧y = .int j∧C i j∧Q (g i j) H
def rI0 (g:Int->Int->V):R2:=fun x y H Q=>∃ i j,x = .int i∧y = .int j∧Q (g i j) H
def rU (g:Int->V):V->Hp->VK->Prop:=fun x H Q=>∃ i,x = .int i∧Q (g i) H
section
variable {X:Cx}{a b c:Expr}{ta tb tc:TE}{pos:Pos}
theorem binT (ha:PE X a ta)(hb:PE X b tb){pins:List (Addr×Obj)}{s:Shared}{σ:St}{H:Hp}{R:V->V->Hp->Prop}(I:Inv X pins σ H s)
  (h:ta σ H fun x H1=>tb σ H1 fun y H2=>R x y H2) {Q:Value->Shared->Prop} {f:Value->Value->Sem Value}
  (hf:∀ v u s2 x y H2,Inv X pins σ H2 s2->RelV x v->RelV y u->R x y H2->wpAny (model X.prog X.w) X.A (f v u) Q X.xe s2) :
  wpAny (model X.prog X.w) X.A (eval a X.env) (fun v s₁=>wpAny (model X.prog X.w) X.A (eval b X.env) (fun u s₂=>wpAny (model X.prog X.w) X.A (f v u) Q X.xe s₂) X.xe s₁) X.xe s:=by
 refine thn (ha pins s σ H _ I h) fun v s1 ⟨x,H1,I1,r1,q1⟩=>?_
 refine thn (hb pins s1 σ H1 _ I1 q1) fun u s2 ⟨y,H2,I2,r2,q2⟩=>?_
 exact hf v u s2 x y H2 I2 r1 r2 q2
theorem pe_op {op:Operator}{r:R2}(ho:OpR X (binaryOp op) r)(ha:PE X a ta)(hb:PE X b tb):PE X (.BinOp a op b pos) (tOp r ta tb):=by
 intro pins s σ H Q I h
 exact wpAny_BinOp (binT ha hb I h fun v u s2 x y H2 I2 rx ry q=>ho pins s2 σ H2 x y v u Q I2 rx ry q)
theorem pe_un {op:UnaryOp}{r:V->Hp->VK->Prop}(ho:UnR X (unaryOp op) r)(ha:PE X a ta):PE X (.UnaryOp op a pos) (tUn r ta):=by
 intro pins s σ H Q I h
 exact UnaryOp_ (thn (ha pins s σ H _ I h) fun v s1 ⟨x,H1,I1,r1,q1⟩=>ho pins s1 σ H1 x v Q I1 r1 q1)
theorem opI {f:Value->Value->Sem Value}{C:Int->Int->Prop}{g:Int->Int->Int}
  (rule:∀ (i j:Int) (t u:Tok) (s:Shared) (Q:Value->Shared->Prop) (E:Value->Shared->Prop),C i j->Q (.int (g i j) s.toks) { s with toks:=s.toks+1 }->wpAny (model X.prog X.w) X.A (f (.int i t) (.int j u)) Q E s) :
  OpR X f (rI C fun i j=>.int (g i j)):=by
 intro pins s σ H x y v u Q I rx ry h
 obtain ⟨i,j,rfl,rfl,hc,q⟩:=h
 obtain ⟨t,rfl⟩:=rx
 obtain ⟨t',rfl⟩:=ry
 exact rule i j t t' s _ _ hc ⟨.int (g i j),H,I.tok _,⟨_,rfl⟩,q⟩
theorem opI0 {f:Value->Value->Sem Value}{g:Int->Int->Int}
  (rule:∀ (i j:Int) (t u:Tok) (s:Shared) (Q:Value->Shared->Prop) (E:Value->Shared->Prop),Q (.int (g i j) s.toks) { s with toks:=s.toks+1 }->wpAny (model X.prog X.w) X.A (f (.int i t) (.int j u)) Q E s) :
  OpR X f (rI0 fun i j=>.int (g i j)):=by
 intro pins s σ H x y v u Q I rx ry h
 obtain ⟨i,j,rfl,rfl,q⟩:=h
 obtain ⟨t,rfl⟩:=rx
 obtain ⟨t',rfl⟩:=ry
 exact rule i j t t' s _ _ ⟨.int (g i j),H,I.tok _,⟨_,rfl⟩,q⟩
theorem opB0 {f:Value->Value->Sem Value}{g:Int->Int->Bool}
  (rule:∀ (i j:Int) (t u:Tok) (s:Shared) (Q:Value->Shared->Prop) (E:Value->Shared->Prop),Q (.bool (g i j)) s->wpAny (model X.prog X.w) X.A (f (.int i t) (.int j u)) Q E s) :
  OpR X f (rI0 fun i j=>.bl (g i j)):=by
 intro pins s σ H x y v u Q I rx ry h
 obtain ⟨i,j,rfl,rfl,q⟩:=h
 obtain ⟨t,rfl⟩:=rx
 obtain ⟨t',rfl⟩:=ry
 exact rule i j t t' s _ _ ⟨.bl (g i j),H,I,rfl,q⟩
def CDiv (i j:Int):Prop:=0<j∧j<1073741824
theorem op_add:OpR X (binaryOp .Add) (rI0 fun i j=>.int (i+j)):=opI0 fun _ _ _ _ _ _ _ q=>add_int q
theorem op_sub:OpR X (binaryOp .Sub) (rI0 fun i j=>.int (i-j)):=opI0 fun _ _ _ _ _ _ _ q=>sub_int q
theorem op_fdiv:OpR X (binaryOp .FloorDiv) (rI CDiv fun i j=>.int (i/j)):=opI fun i j _ _ _ _ _ hc q=>by
 have h1:(0:Int)<j:=hc.1
 have h2:j<1073741824:=hc.2
 exact floordiv_int (by omega) (by rw [Int.fdiv_eq_ediv_of_nonneg i (by omega)];exact q) (.inl (PyProof.noPylong_small (by omega)))
theorem op_mod:OpR X (binaryOp .Mod) (rI (fun _ j=>0<j) fun i j=>.int (i % j)):=opI fun i j _ _ _ _ _ hc q=>by
 have h1:(0:Int)<j:=hc
 exact mod_int' (by omega) (by rw [Int.fmod_eq_emod_of_nonneg i (by omega)];exact q)
theorem unI {f:Value->Sem Value}{g:Int->Int}
  (rule:∀ (i:Int) (t:Tok) (s:Shared) (Q:Value->Shared->Prop) (E:Value->Shared->Prop),Q (.int (g i) s.toks) { s with toks:=s.toks+1 }->wpAny (model X.prog X.w) X.A (f (.int i t)) Q E s) :
  UnR X f (rU fun i=>.int (g i)):=by
 intro pins s σ H x v Q I rx h
 obtain ⟨i,rfl,q⟩:=h
 obtain ⟨t,rfl⟩:=rx
 exact rule i t s _ _ ⟨.int (g i),H,I.tok _,⟨_,rfl⟩,q⟩
theorem un_neg:UnR X (unaryOp .USub) (rU fun i=>.int (-i)):=unI fun _ _ _ _ _ q=>neg_int q
end
def scal:V->V->Bool
 | .non,.non=>true | .non,.int _=>true | .int _,.non=>true | .non,.bl _=>true | .bl _,.non=>true | .non,.str _=>true | .str _,.non=>true
 | .int _,.int _=>true | .bl _,.bl _=>true | .str _,.str _=>true | .byt _,.byt _=>true
 | .int _,.str _=>true | .str _,.int _=>true | .bl _,.str _=>true | .str _,.bl _=>true
 | _,_=>false
def rEq:R2:=fun x y H Q=>scal x y=true∧Q (.bl (decide (x=y))) H
def rNe:R2:=fun x y H Q=>scal x y=true∧Q (.bl (!decide (x=y))) H
theorem dec_int {i j:Int}:decide (V.int i=V.int j)=(i==j):=by
 rw [Bool.eq_iff_iff]
 simp
theorem dec_bl {i j:Bool}:decide (V.bl i=V.bl j)=(i==j):=by
 rw [Bool.eq_iff_iff]
 simp
theorem dec_str {i j:Str}:decide (V.str i=V.str j)=(i==j):=by
 rw [Bool.eq_iff_iff]
 simp
theorem dec_byt {i j:Array UInt8}:decide (V.byt i=V.byt j)=(i.toList==j.toList):=by
 rw [Bool.eq_iff_iff]
 cases i
 cases j
 simp
section
variable {X:Cx}{a b c:Expr}{ta tb tc:TE}{pos:Pos}
theorem fin_bl {pins:List (Addr×Obj)}{σ:St}{H:Hp}{s:Shared}{Q:VK}{k k':Bool}(I:Inv X pins σ H s)(q:Q (.bl k) H)(e:k=k'):EP X pins σ Q (.bool k') s:=by
 subst e
 exact ⟨.bl k,H,I,rfl,q⟩
theorem op_eq:OpR X (compareOp .Eq) rEq:=by
 intro pins s σ H x y v u Q I rx ry h
 obtain ⟨hs,q⟩:=h
 cases x with
 | non =>
  cases rx
  cases y with
  | non=>cases ry;exact PySem.EqNone.eq_none_none (fin_bl I q (by simp))
  | bl j=>cases ry;exact PySem.EqNone.eq_none_bool (fin_bl I q (by simp))
  | int j=>obtain ⟨t',rfl⟩:=ry;exact PySem.EqNone.eq_none_int (fin_bl I q (by simp))
  | str j=>obtain ⟨t',rfl⟩:=ry;exact PySem.EqNone.eq_none_str (fin_bl I q (by simp))
  | _=>exact absurd (show false=true from hs) Bool.false_ne_true
 | bl i =>
  cases rx
  cases y with
  | non=>cases ry;exact PySem.EqNone.eq_bool_none (fin_bl I q (by simp))
  | bl j=>cases ry;exact eq_bool (fin_bl I q dec_bl)
  | str j=>obtain ⟨t',rfl⟩:=ry;exact PySem.EqMixed.eq_bool_str (fin_bl I q (by simp))
  | _=>exact absurd (show false=true from hs) Bool.false_ne_true
 | int i =>
  obtain ⟨t,rfl⟩:=rx
  cases y with
  | non=>cases ry;exact PySem.EqNone.eq_int_none (fin_bl I q (by simp))
  | int j=>obtain ⟨t',rfl⟩:=ry;exact eq_int (fin_bl I q dec_int)
  | str j=>obtain ⟨t',rfl⟩:=ry;exact PySem.EqMixed.eq_int_str (fin_bl I q (by simp))
  | _=>exact absurd (show false=true from hs) Bool.false_ne_true
 | str i =>
  obtain ⟨t,rfl⟩:=rx
  cases y with
  | non=>cases ry;exact PySem.EqNone.eq_str_none (fin_bl I q (by simp))
  | bl j=>cases ry;exact PySem.EqMixed.eq_str_bool (fin_bl I q (by simp))
  | int j=>obtain ⟨t',rfl⟩:=ry;exact PySem.EqMixed.eq_str_int (fin_bl I q (by simp))
  | str j=>obtain ⟨t',rfl⟩:=ry;exact eq_str (fin_bl I q dec_str)
  | _=>exact absurd (show false=true from hs) Bool.false_ne_true
 | byt i =>
  obtain ⟨t,rfl⟩:=rx
  cases y with
  | byt j=>obtain ⟨t',rfl⟩:=ry;exact PySem.W.eq_bytes (fin_bl I q dec_byt)
  | _=>exact absurd (show false=true from hs) Bool.false_ne_true
 | _=>cases y <;> exact absurd (show false=true from hs) Bool.false_ne_true
theorem op_ne:OpR X (compareOp .NotEq) rNe:=by
 intro pins s σ H x y v u Q I rx ry h
 obtain ⟨hs,q⟩:=h
 cases x with
 | non =>
  cases rx
  cases y with
  | non=>cases ry;exact PySem.EqNone.ne_none_none (fin_bl I q (by simp))
  | bl j=>cases ry;exact PySem.EqNone.ne_none_bool (fin_bl I q (by simp))
  | int j=>obtain ⟨t',rfl⟩:=ry;exact PySem.EqNone.ne_none_int (fin_bl I q (by simp))
  | str j=>obtain ⟨t',rfl⟩:=ry;exact PySem.EqNone.ne_none_str (fin_bl I q (by simp))
  | _=>exact absurd (show false=true from hs) Bool.false_ne_true
 | bl i =>
  cases rx
  cases y with
  | non=>cases ry;exact PySem.EqNone.ne_bool_none (fin_bl I q (by simp))
  | bl j=>cases ry;exact ne_bool (fin_bl I q (congrArg not dec_bl))
  | str j=>obtain ⟨t',rfl⟩:=ry;exact PySem.EqMixed.ne_bool_str (fin_bl I q (by simp))
  | _=>exact absurd (show false=true from hs) Bool.false_ne_true
 | int i =>
  obtain ⟨t,rfl⟩:=rx
  cases y with
  | non=>cases ry;exact PySem.EqNone.ne_int_none (fin_bl I q (by simp))
  | int j=>obtain ⟨t',rfl⟩:=ry;exact ne_int (fin_bl I q (congrArg not dec_int))
  | str j=>obtain ⟨t',rfl⟩:=ry;exact PySem.EqMixed.ne_int_str (fin_bl I q (by simp))
  | _=>exact absurd (show false=true from hs) Bool.false_ne_true
 | str i =>
  obtain ⟨t,rfl⟩:=rx
  cases y with
  | non=>cases ry;exact PySem.EqNone.ne_str_none (fin_bl I q (by simp))
  | bl j=>cases ry;exact PySem.EqMixed.ne_str_bool (fin_bl I q (by simp))
  | int j=>obtain ⟨t',rfl⟩:=ry;exact PySem.EqMixed.ne_str_int (fin_bl I q (by simp))
  | str j=>obtain ⟨t',rfl⟩:=ry;exact ne_str (fin_bl I q (congrArg not dec_str))
  | _=>exact absurd (show false=true from hs) Bool.false_ne_true
 | byt i =>
  obtain ⟨t,rfl⟩:=rx
  cases y with
  | byt j=>obtain ⟨t',rfl⟩:=ry;exact PySem.W.ne_bytes (fin_bl I q (congrArg not dec_byt))
  | _=>exact absurd (show false=true from hs) Bool.false_ne_true
 | _=>cases y <;> exact absurd (show false=true from hs) Bool.false_ne_true
theorem op_lt:OpR X (compareOp .Lt) (rI0 fun i j=>.bl (decide (i<j))):=opB0 fun _ _ _ _ _ _ _ q=>lt_int q
theorem op_gt:OpR X (compareOp .Gt) (rI0 fun i j=>.bl (decide (j<i))):=opB0 fun _ _ _ _ _ _ _ q=>gt_int q
theorem op_notin_str:OpR X (compareOp .NotIn) (fun x y H Q=>∃ i j,x = .str i∧y = .str j∧Q (.bl (!(!(Builtin.Str.occurrences j i 0 j.length 1).isEmpty))) H):=by
 intro pins s σ H x y v u Q I rx ry h
 obtain ⟨i,j,rfl,rfl,q⟩:=h
 obtain ⟨t,rfl⟩:=rx
 obtain ⟨t',rfl⟩:=ry
 exact notIn_str (fin_bl I q rfl)
theorem nomark (b:Expr){op:CmpOp}(h:op≠.In:=by decide)(h2:op≠.NotIn:=by decide):behindInMarks op b=false:=by
 have e1:(op==CmpOp.In)=false:=by cases op <;> first | rfl | exact absurd rfl h
 have e2:(op==CmpOp.NotIn)=false:=by cases op <;> first | rfl | exact absurd rfl h2
 cases b <;> simp [behindInMarks,e1,e2]
theorem pe_cmpR {op:CmpOp}{r:R2}(ho:OpR X (compareOp op) r)(ha:PE X a ta)(hb:PE X b tb)(hm:behindInMarks op b=false):PE X (.Compare a [op] [b] pos) (tOp r ta tb):=by
 intro pins s σ H Q I h
 exact wpAny_Compare1 (binT ha hb I h fun v u s2 x y H2 I2 rx ry q=>ho pins s2 σ H2 x y v u Q I2 rx ry q) hm
def tTest (t:TE):TT:=fun σ H Q=>t σ H fun x H'=>∃ k,x = .bl k∧Q k H'
theorem pt_cmpR {op:CmpOp}{r:R2}(ho:OpR X (compareOp op) r)(ha:PE X a ta)(hb:PE X b tb)(hm:behindInMarks op b=false):PT X (.Compare a [op] [b] pos) (tTest (tOp r ta tb)):=by
 intro pins s σ H Q I h
 refine wpAny_isTrue_Compare1 (thn (ha pins s σ H _ I h) fun v s1 ⟨x,H1,I1,r1,q1⟩=>thn (hb pins s1 σ H1 _ I1 q1) fun u s2 ⟨y,H2,I2,r2,q2⟩ =>
  thn (ho pins s2 σ H2 x y v u _ I2 r1 r2 q2) fun c s3 ⟨z,H3,I3,r3,k,e,q3⟩=>?_) hm
 subst e
 cases r3
 exact wpAny_truthy_bool ⟨H3,I3,q3⟩
theorem line63:(sizeLine:Nat)<2 ^ 63:=by rw [sizeLine_eq];decide
theorem op_add_str:OpR X (binaryOp .Add) (fun x y H Q=>∃ i j,x = .str i∧y = .str j∧i.length+j.length<=sizeLine∧Q (.str (i++j)) H):=by
 intro pins s σ H x y v u Q I rx ry h
 obtain ⟨i,j,rfl,rfl,hz,q⟩:=h
 obtain ⟨t,rfl⟩:=rx
 obtain ⟨t',rfl⟩:=ry
 exact add_str (fun t' tk=>⟨.str (i++j),H,I.tok _,⟨_,rfl⟩,q⟩) hz
theorem vals1 {x:V}{us:List Value}(r:Vals [x] us):∃ u,us=[u]∧RelV x u:=by
 cases r with
 | cons r1 r2=>cases r2;exact ⟨_,rfl,r1⟩
theorem vals2 {x y:V}{us:List Value}(r:Vals [x,y] us):∃ u w',us=[u,w']∧RelV x u∧RelV y w':=by
 cases r with
 | cons r1 r2 =>
  cases r2 with
  | cons r3 r4=>cases r4;exact ⟨_,_,rfl,r1,r3⟩
theorem call_max2 (hc:X.calm=true):CallR X (.builtin "max") (fun xs H Q=>∃ i j,xs=[.int i,.int j]∧Q (.int (if j>i then j else i)) H):=by
 intro pins s σ H xs us Q I r h
 obtain ⟨i,j,rfl,q⟩:=h
 obtain ⟨u,w',rfl,⟨t,rfl⟩,⟨t',rfl⟩⟩:=vals2 r
 refine max_two_ints (I.ok.hd hc) fun h' tk k=>⟨_,H,I.kept k,?_,q⟩
 by_cases hj:j>i
 ·rw [if_pos hj,if_pos hj];exact ⟨_,rfl⟩
 ·rw [if_neg hj,if_neg hj];exact ⟨_,rfl⟩
end
end L2
namespace L2
open PySem PySem.Spec PyProof.Rows
set_option genInjectivity false in
structure ObjM (h:Heap)(x dx C:Addr)(mA:Str->Option Value):Prop where
 obj:h.get? x=some (PySem.W.instObj C dx)
 ns:h.Ns1 dx mA
 ne:dx≠x
theorem lookIn_ns {h:Heap}{dx:Addr}{mA:Str->Option Value}(n:h.Ns1 dx mA):∃ od,h.get? dx=some od∧∀ name,PySem.W.lookIn name od=some (mA name):=by
 obtain ⟨o,es,ep,ho,hd,hk,_,hm⟩:=n
 refine ⟨o,ho,fun name=>?_⟩
 have e:=hm name
 unfold nsFind findBy at e
 rw [<- Array.find?_toList] at e
 unfold PySem.W.lookIn
 rw [hd]
 dsimp only
 split
 ·rename_i y q
  rw [q] at e
  exact congrArg some e
 ·rename_i q
  rw [q] at e
  have a:es.toList.any (·.refKey)=false:=by
   rw [List.any_eq_false]
   intro y hy
   obtain ⟨z,t,hkey⟩:=hk y (Array.mem_toList_iff.mp hy)
   simp [DictEntry.refKey,hkey]
  have a':¬ es.toList.any (·.refKey)=true:=by rw [a];exact Bool.false_ne_true
  rw [if_neg a']
  exact congrArg some e
theorem ObjM.look {h:Heap}{x dx C:Addr}{mA:Str->Option Value}(I:ObjM h x dx C mA):∃ od,PySem.W.InstAt h x (PySem.W.instObj C dx) C (some od)∧∀ name,PySem.W.lookIn name od=some (mA name) :=
 let ⟨od,ho,hl⟩:=lookIn_ns I.ns
 ⟨od,⟨I.obj,rfl,rfl,ho⟩,hl⟩
section
variable {prog:Program}{w:World}{A:Around}{E:Value->Shared->Prop}{s:Shared}{K:PySem.W.Frag}{x dx C f:Addr}{mA:Str->Option Value}{name:Str}{v:Value}
theorem get_map {expr:Bool}{Q:Value->Shared->Prop}(X:K.In s.heap)(I:ObjM s.heap x dx C mA)(hg:PySem.W.plainGet K C name=true)(hh:PySem.W.hasDictIn K C=true)
  (ha:PySem.W.findIn K (.ref C) name=some none) (hv:mA name=some v) (hv':PySem.W.handedIn v=true) (h:Q v { s with toks:=s.toks+1 }) :
  wpAny (model prog w) A (getAttr (.ref x) name expr) Q E s:=by
 obtain ⟨od,J,hl⟩:=I.look
 exact PySem.W.get_value X J (PySem.W.plainGet_of hg).1 (PySem.W.findObj_own hh ha rfl (by rw [hl,hv])) hv' h
theorem set_map {ns:List Str}{Q:Unit->Shared->Prop}(X:K.In s.heap)(I:ObjM s.heap x dx C mA)
  (hs:PySem.W.findIn K (.ref C) "__setattr__" = some (some (.builtin "object.__setattr__"))) (hp:PySem.W.plainOver K C=true) (ht:PySem.W.takerIn K C name=some none) (hh:PySem.W.hasDictIn K C=true)
  (hw:PySem.Within mA ns) (hsz:ns.length<=sizeLine)
  (h:∀ h',ObjM h' x dx C (fun y=>if y=name then some v else mA y)->Heap.SameBut dx s.heap h'->Q () { s with heap:=h',toks:=s.toks+2 }) :
  wpAny (model prog w) A (setAttr (.ref x) name v) Q E s:=by
 obtain ⟨od,J,hl⟩:=I.look
 refine PySem.W.set_plain X J hs (PySem.W.osa_open (s:={ s with toks:=s.toks+1 }) (r:=none) X J hp ht fun b=>?_)
 obtain ⟨cd,hc,hd'⟩:=PySem.W.any_some hh
 have hx:s.heap.get? x=some ⟨.ref C,some dx,.plain,#[]⟩:=I.obj
 refine wpAny_bind (wpAny_pure (wpAny_bind (wpAny_bind (wpAny_loadPart hx (wpAny_bind (PySem.W.Looks.here (s:={ s with toks:=s.toks+1 }) (PySem.W.looks_clsIn X hc) ?_))))))
 rw [hd']
 refine wpAny_pure (a:=some dx) (wpAny_bind (wpAny_pure (wpAny_bind ?_)))
 refine wpAny_nsSet1 (s:={ s with toks:=s.toks+1 }) I.ns fun h' hn2 hs2=>?_
 obtain ⟨oD,esD,epD,hoD,hdD,hcD⟩:=hn2.count (PySem.Within.cons name v hw)
 refine wpAny_bind (wpAny_lookBehind hoD (by rw [hdD];exact pastItsLine_dict (Nat.le_trans hcD (by rw [List.length_cons];omega))) ?_)
 exact wpAny_pure (h _ ⟨(hs2.2 _ (Ne.symm I.ne)).trans I.obj,hn2,I.ne⟩ hs2)
theorem make_map {R:Result->Shared->Prop}{vs:List Value}{kw:List (Str×Value)}(X:K.In s.heap)(hm:PySem.W.makesIn K C=true)
  (hi:PySem.W.findIn K (.ref C) "__init__" = some (some (.ref f))) (hf:PySem.W.typeIn K (.ref f)=some (.type "function"))
  (h:codeAny (model prog w) (A.under (.builtin "type.__call__" ⟨.ref C::vs,kw⟩)) (.call (.ref f) ⟨.ref (s.heap.objs.size+1)::vs,kw⟩) (PySem.W.InitBack (s.heap.objs.size+1) R)
   { s with heap:=(s.heap.push PySem.W.emptyDict).push (PySem.W.instObj C s.heap.objs.size) }) :
  codeAny (model prog w) A (.call (.ref C) ⟨vs,kw⟩) R s:=by
 obtain ⟨hh,g,d,t,os⟩:=s
 exact PySem.W.make_core (PySem.W.makes_of X hm) (PySem.W.looks_findIn X hi) (fun self=>PySem.W.bind_fn X self hf) (.inl rfl) h
end
def putF (f:Str)(v:V):List (Str×V)->List (Str×V)
 | []=>[(f,v)]
 | (g,x)::r=>if g=f then (g,v)::r else (g,x)::putF f v r
theorem lookup_putF (f g:Str)(v:V):∀ fs:List (Str×V),(putF f v fs).lookup g=if g=f then some v else fs.lookup g
 | []=>by
  show List.lookup g [(f,v)]=_
  by_cases h:g=f
  ·have hb:(g==f)=true:=beq_iff_eq.mpr h
   simp only [List.lookup,hb,if_pos h]
  ·have hb:(g==f)=false:=beq_eq_false_iff_ne.mpr h
   simp only [List.lookup,hb,if_neg h]
 | (k,x)::r=>by
  have ih:=lookup_putF f g v r
  rw [show putF f v ((k,x)::r)=(if k=f then (k,v)::r else (k,x)::putF f v r) from rfl]
  by_cases hk:k=f
  ·rw [if_pos hk]
   by_cases h:g=k
   ·have hb:(g==k)=true:=beq_iff_eq.mpr h
    simp only [List.lookup,hb,if_pos (h.trans hk)]
   ·have hb:(g==k)=false:=beq_eq_false_iff_ne.mpr h
    simp only [List.lookup,hb,if_neg (fun e:g=f=>h (e.trans hk.symm))]
  ·rw [if_neg hk]
   by_cases h:g=k
   ·have hb:(g==k)=true:=beq_iff_eq.mpr h
    simp only [List.lookup,hb,if_neg (fun e:g=f=>hk (h.symm.trans e))]
   ·have hb:(g==k)=false:=beq_eq_false_iff_ne.mpr h
    simp only [List.lookup,hb]
    exact ih
theorem keys_putF (f:Str)(v:V):∀ fs:List (Str×V),f∈(putF f v fs).map (·.1)∧∀ g,g∈fs.map (·.1)->g∈(putF f v fs).map (·.1)
 | []=>⟨by simp [putF],fun g h=>by simp at h⟩
 | (k,x)::r=>by
  obtain ⟨i1,i2⟩:=keys_putF f v r
  rw [show putF f v ((k,x)::r)=(if k=f then (k,v)::r else (k,x)::putF f v r) from rfl]
  by_cases hk:k=f
  ·rw [if_pos hk]
   subst hk
   exact ⟨by simp,fun g h=>by simpa using h⟩
  ·rw [if_neg hk]
   refine ⟨?_,fun g h=>?_⟩
   ·rw [List.map_cons]
    exact List.mem_cons_of_mem _ i1
   ·rw [List.map_cons] at h ⊢
    rcases List.mem_cons.mp h with e | e
    ·exact List.mem_cons.mpr (.inl e)
    ·exact List.mem_cons_of_mem _ (i2 g e)
theorem length_putF (f:Str)(v:V):∀ fs:List (Str×V),(putF f v fs).length<=fs.length+1
 | []=>by simp [putF]
 | (k,x)::r=>by
  have ih:=length_putF f v r
  rw [show putF f v ((k,x)::r)=(if k=f then (k,v)::r else (k,x)::putF f v r) from rfl]
  by_cases hk:k=f
  ·rw [if_pos hk,List.length_cons,List.length_cons];omega
  ·rw [if_neg hk,List.length_cons,List.length_cons];omega
theorem RelO.some_of {v:V}{o:Option Value}(r:RelO (some v) o):∃ u,o=some u∧RelV v u:=by
 cases o with
 | none=>exact (show False from r).elim
 | some u=>exact ⟨u,rfl,r⟩
theorem RelO.none_of {o:Option Value}(r:RelO none o):o=none:=by
 cases o with
 | none=>rfl
 | some u=>exact (show False from r).elim
theorem handed_of {v:V}{u:Value}(r:RelV v u):PySem.W.handedIn u=true:=by
 cases v with
 | non=>cases (show u=Value.none from r);rfl
 | bl b=>cases (show u=Value.bool b from r);rfl
 | int i=>obtain ⟨t,e⟩:=(show ∃ t,u=Value.int i t from r);cases e;rfl
 | str x=>obtain ⟨t,e⟩:=(show ∃ t,u=Value.str x t from r);cases e;rfl
 | byt b=>obtain ⟨t,e⟩:=(show ∃ t,u=Value.bytes b t from r);cases e;rfl
 | flt b=>obtain ⟨t,e⟩:=(show ∃ t,u=Value.float b t from r);cases e;rfl
 | ref a=>cases (show u=Value.ref a from r);rfl
 | ty n=>cases (show u=Value.type n from r);rfl
section
variable {P:Program}{w:World}{H H':Hp}{h h':Heap}{a C dx:Addr}{fs fs':List (Str×V)}
theorem ins_get (hok:HOk P w H h)(e:H a=some (.ins C dx fs)):∃ mA,ObjM h a dx C mA∧(∀ f,RelO (fs.lookup f) (mA f))∧PySem.Within mA (fs.map (·.1))∧fs.length<=1000∧H dx=some (.own a):=by
 obtain ⟨d,z,ne,ob,mA,n,r,q⟩:=(show ObjOk P w H h a (.ins C dx fs) from hok a _ e)
 exact ⟨mA,⟨ob,n,ne⟩,r,q,z,d⟩
end
set_option genInjectivity false in
structure Cls (K:PySem.W.Frag)(C:Addr):Prop where
 pg:PySem.W.plainGet K C Str.empty=true
 hd:PySem.W.hasDictIn K C=true
 po:PySem.W.plainOver K C=true
 sa:PySem.W.findIn K (.ref C) "__setattr__" = some (some (.builtin "object.__setattr__"))
theorem Cls.get {K:PySem.W.Frag}{C:Addr}(c:Cls K C)(f:Str):PySem.W.plainGet K C f=true:=c.pg
def NoAttr (K:PySem.W.Frag)(C:Addr)(f:Str):Prop:=PySem.W.findIn K (.ref C) f=some none
theorem NoAttr.taker {K:PySem.W.Frag}{C:Addr}{f:Str}(n:NoAttr K C f):PySem.W.takerIn K C f=some none:=by
 unfold PySem.W.takerIn
 rw [show PySem.W.findIn K (.ref C) f=some none from n]
 rfl
set_option genInjectivity false in
structure Meth (K:PySem.W.Frag)(C:Addr)(m:Str)(f:Addr):Prop where
 at_:PySem.W.findIn K (.ref C) m=some (some (.ref f))
 fn:PySem.W.isFn K (.ref f)=true
 kp:PySem.W.keepIn K (.ref f)=true
section
variable {X:Cx}{pins:List (Addr×Obj)}{σ:St}{H:Hp}{s:Shared}{a C dx:Addr}{fs:List (Str×V)}{f:Str}{v:V}{A:Around}{E:Value->Shared->Prop}
theorem getattr_ok {b:Bool}{Q:Value->Shared->Prop}(I:Inv X pins σ H s)(e:H a=some (.ins C dx fs))(c:Cls X.K C)(n:NoAttr X.K C f)(l:fs.lookup f=some v)
  (h:∀ u s',Inv X pins σ H s'->RelV v u->Q u s'):wpAny (model X.prog X.w) A (getAttr (.ref a) f b) Q E s:=by
 obtain ⟨mA,O,r,_,_,_⟩:=ins_get I.hok e
 obtain ⟨u,hu,ru⟩:=RelO.some_of (v:=v) (o:=mA f) (by rw [<- l];exact r f)
 exact get_map I.kIn O (c.get f) c.hd n hu (handed_of ru) (h u _ (I.tok _) ru)
theorem setattr_ok {y:V}{u:Value}{Q:Unit->Shared->Prop}(I:Inv X pins σ H s)(e:H a=some (.ins C dx fs))(c:Cls X.K C)(n:NoAttr X.K C f)(hl:fs.length<1000)(ry:RelV y u)
  (h:∀ s',Inv X pins σ (upd H a (.ins C dx (putF f y fs))) s'->Q () s'):wpAny (model X.prog X.w) A (setAttr (.ref a) f u) Q E s:=by
 obtain ⟨mA,O,r,wi,_,ho⟩:=ins_get I.hok e
 have hz:(fs.map (·.1)).length<=sizeLine:=by rw [List.length_map,sizeLine_eq];omega
 refine set_map I.kIn O c.sa c.po n.taker c.hd wi hz fun h' O' sb=>h _ ?_
 have hd:∃ o,h'.get? dx=some o:=let ⟨o,_,_,e',_⟩:=O'.ns;⟨o,e'⟩
 refine I.write (x:=a) (e:=dx) (by rw [e];exact True.intro) (.inr ho) (fun b q hb z=>(sb.2 b hb).trans z) hd ?_
 refine ⟨by rw [upd_ne O.ne];exact ho,?_,O.ne,O'.obj,_,O'.ns,fun g=>?_,fun g hg=>?_⟩
 ·have:=length_putF f y fs;omega
 ·show RelO ((putF f y fs).lookup g) (if g=f then some u else mA g)
  rw [lookup_putF]
  by_cases q:g=f
  ·rw [if_pos q,if_pos q];exact ry
  ·rw [if_neg q,if_neg q];exact r g
 ·by_cases q:g=f
  ·rw [q];exact (keys_putF f y fs).1
  ·refine (keys_putF f y fs).2 g (wi g fun z=>hg ?_)
   show (if g=f then some u else mA g)=none
   rw [if_neg q];exact z
theorem Inv.made (I:Inv X pins σ H s):Inv X pins σ (upd (upd H s.heap.objs.size (.own (s.heap.objs.size+1))) (s.heap.objs.size+1) (.ins C s.heap.objs.size []))
  { s with heap:=(s.heap.push PySem.W.emptyDict).push (PySem.W.instObj C s.heap.objs.size) }:=by
 have e1:(s.heap.push PySem.W.emptyDict).get? s.heap.objs.size=some PySem.W.emptyDict:=Heap.get?_push_size s.heap rfl
 have e2:((s.heap.push PySem.W.emptyDict).push (PySem.W.instObj C s.heap.objs.size)).get? (s.heap.objs.size+1)=some (PySem.W.instObj C s.heap.objs.size):=by
  have:=Heap.get?_push_size (s.heap.push PySem.W.emptyDict) (o:=PySem.W.instObj C s.heap.objs.size) rfl
  rwa [Heap.size_push] at this
 have e3:(s.heap.push PySem.W.emptyDict).Ns s.heap.objs.size (fun _=>none):=⟨PySem.W.emptyDict,#[],_,e1,rfl,(fun e he=>absurd he (by simp)),fun _=>rfl⟩
 have I1:=I.laid (a:=s.heap.objs.size) (o:=.own (s.heap.objs.size+1)) (h':=s.heap.push PySem.W.emptyDict) (t':=s.toks) (fun b u q=>Heap.get?_push_of_some _ q) (Nat.le_refl _) ⟨_,e1⟩
 refine I1.laid (a:=s.heap.objs.size+1) (o:=.ins C s.heap.objs.size []) (t':=s.toks) (fun b u q=>Heap.get?_push_of_some _ q) (Nat.le_of_eq (Heap.size_push _ _)) ?_
 have ne:s.heap.objs.size≠s.heap.objs.size+1:=Nat.ne_of_lt (Nat.lt_succ_self _)
 refine ⟨by rw [upd_ne ne,upd_same],Nat.zero_le _,ne,e2,fun _=>none,(Heap.Ns1.of_empty e3).at fun o q=>Heap.get?_push_of_some _ q,fun _=>True.intro,fun y hy=>absurd rfl hy⟩
theorem attr_of {prog:Program}{w:World}{env:Env}{e:Expr}{f:Str}{pos:Pos}{s:Shared}{Q:Value->Shared->Prop}(hb:attributeBase e f env (eval e env)=eval e env)
  (h:wpAny (model prog w) A (eval e env) (fun o s₁=>wpAny (model prog w) A (getAttr o f true) Q E s₁) E s):wpAny (model prog w) A (eval (.Attribute e f pos) env) Q E s :=
 Attribute_any_ h (by rw [arm_eval_Attribute,hb])
end
def tFld (K:PySem.W.Frag)(ta:TE)(f:Str):TE:=fun σ H Q=>ta σ H fun x H1=>∃ a C dx fs v,x = .ref a∧H1 a=some (.ins C dx fs)∧Cls K C∧NoAttr K C f∧fs.lookup f=some v∧Q v H1
def sFld (K:PySem.W.Frag)(ta tv:TE)(f:Str):TS:=fun D σ H=>tv σ H fun y H1=>ta σ H1 fun x H2=>∃ a C dx fs,x = .ref a∧H2 a=some (.ins C dx fs)∧Cls K C∧NoAttr K C f∧fs.length<1000 ∧
 D.nx σ (upd H2 a (.ins C dx (putF f y fs)))
section
variable {X:Cx}{o e value:Expr}{f:Str}{pos pos' tpos:Pos}{ta tv:TE}
theorem pe_fld (he:PE X e ta)(hb:attributeBase e f X.env (eval e X.env)=eval e X.env):PE X (.Attribute e f pos) (tFld X.K ta f):=by
 intro pins s σ H Q I h
 refine attr_of hb (thn (he pins s σ H _ I h) fun u s1 ⟨x,H1,I1,rx,a,C,dx,fs,v,ex,ea,c,n,l,q⟩=>?_)
 subst ex
 obtain rfl:u=Value.ref a:=rx
 exact getattr_ok I1 ea c n l fun u' s2 I2 ru=>⟨v,H1,I2,ru,q⟩
theorem ps_fld (ha:PE X o ta)(hv:PE X value tv)(hs:swapsWith value (some (.Attribute o f pos')) pos.line X.env=pure false):PS X (.Assign [.Attribute o f pos'] value pos) (sFld X.K ta tv f):=by
 intro pins s σ H D I h
 refine plainObj_wpAny_Assign_Attribute (thn (hv pins s σ H _ I h) fun u s1 ⟨y,H1,I1,ry,q⟩=>thn (ha pins s1 σ H1 _ I1 q) fun ov s2 ⟨x,H2,I2,rx,a,C,dx,fs,ex,ea,c,n,l,q2⟩=>?_) hs
 subst ex
 obtain rfl:ov=Value.ref a:=rx
 exact setattr_ok I2 ea c n l ry fun s3 I3=>⟨σ,_,I3,q2⟩
end
section
variable {X:Cx}{pins:List (Addr×Obj)}{σ:St}{H:Hp}{s:Shared}{A:Around}{E:Value->Shared->Prop}{Q:Value->Shared->Prop}{c:Value}{b:Bool}
inductive TyOf (K:PySem.W.Frag)(H:Hp):V->Value->Prop where
 | non:TyOf K H .non (.type "NoneType")
 | bl (x:Bool):TyOf K H (.bl x) (.type "bool")
 | int (i:Int):TyOf K H (.int i) (.type "int")
 | str (x:Str):TyOf K H (.str x) (.type "str")
 | flt (x:UInt64):TyOf K H (.flt x) (.type "float")
 | lst {a:Addr} {xs:List V} (e:H a=some (.lst xs)):TyOf K H (.ref a) (.type "list")
 | frz {a:Addr} {o:Obj} {xs:List V} (e:H a=some (.frz o (.lst xs))):TyOf K H (.ref a) (.type "list")
 | tup {a:Addr} {xs:List V} (e:H a=some (.tup xs)):TyOf K H (.ref a) (.type "tuple")
 | dK {a:Addr} {kvs:List (Key×V)} (e:H a=some (.dK kvs)):TyOf K H (.ref a) (.type "dict")
 | dT {a:Addr} {kvs:List (List Key×V)} (e:H a=some (.dT kvs)):TyOf K H (.ref a) (.type "dict")
 | ins {a C dx:Addr} {fs:List (Str×V)} (e:H a=some (.ins C dx fs)) (cl:Cls K C) (ha:PySem.W.findIn K (.ref C) "__class__" = some (some (.builtin "object.__class__")))
  (hn:PySem.W.specialIn K (.builtin "object.__class__") "__get__" = some (some (.builtin "getset_descriptor.__get__"))) (htk:PySem.W.takesIn K (.builtin "object.__class__")=some true)
  (hm:PySem.W.mroIn K C (.type "object")=some true):TyOf K H (.ref a) (.ref C)
theorem isinst_ok {x:V}{u t:Value}(I:Inv X pins σ H s)(rx:RelV x u)(ty:TyOf X.K H x t)(e:PySem.W.kitOne X.K t c=some b)(h:∀ tk,Q (.bool b) { s with toks:=tk }) :
  wpAny (model X.prog X.w) A (call (.builtin "isinstance") [u,c]) Q E s:=by
 cases ty with
 | non=>cases (show u=Value.none from rx);exact PySem.W.kia_one PySem.W.kitx_none I.kIn True.intro e (fun z=>nomatch z) h
 | bl y=>cases (show u=Value.bool y from rx);exact PySem.W.kia_one PySem.W.kitx_bool I.kIn True.intro e (fun z=>nomatch z) h
 | int i=>obtain ⟨t,q⟩:=(show ∃ t,u=Value.int i t from rx);cases q;exact PySem.W.kia_one PySem.W.kitx_int I.kIn True.intro e (fun z=>nomatch z) h
 | str y=>obtain ⟨t,q⟩:=(show ∃ t,u=Value.str y t from rx);cases q;exact PySem.W.kia_one PySem.W.kitx_str I.kIn True.intro e (fun z=>nomatch z) h
 | flt y=>obtain ⟨t,q⟩:=(show ∃ t,u=Value.float y t from rx);cases q;exact PySem.W.kia_one PySem.W.kitx_float I.kIn True.intro e (fun z=>nomatch z) h
 | @lst a xs ea =>
  cases (show u=Value.ref a from rx)
  obtain ⟨_,_,n,_,h1⟩:=(show ObjOk X.prog X.w H s.heap a (.lst xs) from I.hok a _ ea)
  exact PySem.W.kia_one PySem.W.kitx_list I.kIn ⟨_,h1,rfl⟩ e (fun z=>nomatch z) h
 | @frz a ob xs ea =>
  cases (show u=Value.ref a from rx)
  obtain ⟨_,_,_,n,_,h1⟩:=(show ObjOk X.prog X.w H s.heap a (.frz ob (.lst xs)) from I.hok a _ ea)
  exact PySem.W.kia_one PySem.W.kitx_list I.kIn ⟨_,h1,rfl⟩ e (fun z=>nomatch z) h
 | @tup a xs ea =>
  cases (show u=Value.ref a from rx)
  obtain ⟨_,_,_,p⟩:=(show ObjOk X.prog X.w H s.heap a (.tup xs) from I.hok a _ ea)
  obtain ⟨o,h1,h2,_⟩:=p
  exact PySem.W.kia_one PySem.W.kitx_tuple I.kIn ⟨o,h1,h2⟩ e (fun z=>nomatch z) h
 | @dK a kvs ea =>
  cases (show u=Value.ref a from rx)
  obtain ⟨_,_,vs,_,p⟩:=(show ObjOk X.prog X.w H s.heap a (.dK kvs) from I.hok a _ ea)
  obtain ⟨o,es,ep,h1,h2,_⟩:=p
  exact PySem.W.kia_one PySem.W.kitx_dict I.kIn ⟨o,h1,h2.1⟩ e (fun z=>nomatch z) h
 | @dT a kvs ea =>
  cases (show u=Value.ref a from rx)
  obtain ⟨_,_,xs,_,o,es,ep,h1,h2,_⟩:=(show ObjOk X.prog X.w H s.heap a (.dT kvs) from I.hok a _ ea)
  exact PySem.W.kia_one PySem.W.kitx_dict I.kIn ⟨o,h1,h2.1⟩ e (fun z=>nomatch z) h
 | @ins a C dx fs ea cl ha hn htk hm =>
  cases (show u=Value.ref a from rx)
  obtain ⟨mA,O,_⟩:=ins_get I.hok ea
  obtain ⟨od,J,_⟩:=O.look
  exact PySem.W.kia_one (PySem.W.kitx_own (cl.get _) cl.hd ha hn htk hm) I.kIn J e (fun z=>nomatch z) h
end
end L2
namespace L2
open PySem PySem.Spec PyProof.Rows
set_option genInjectivity false in
structure Room (k:Nat)(A:Around):Prop where
 hd:A.handled=none
 dp:A.depth+3*k+5<recursionLimit
 un:A.units+16*k+200<cLine
theorem Room.mono {j k:Nat}{A:Around}(r:Room k A)(h:j<=k):Room j A:=⟨r.hd,by have:=r.dp;omega,by have:=r.un;omega⟩
theorem Room.deeper {k:Nat}{A:Around}(r:Room (k+1) A)(env:Env):Room k (A.deeper env) :=
 ⟨r.hd,by have:=r.dp;show A.depth+1+3*k+5<_;omega,by have:=r.un;show A.units+3+16*k+200<_;omega⟩
theorem make_depth {A:Around}{C:Addr}{us:List Value}{kw:List (Str×Value)}:(A.under (.builtin "type.__call__" ⟨.ref C::us,kw⟩)).depth=A.depth+1:=by
 first | rfl | simp [Around.under,Code.weight,Code.isCreation,Code.isGuard,Code.isCaller,Code.frames,Code.isFrame,guardIds]
theorem make_units {A:Around}{C:Addr}{us:List Value}{kw:List (Str×Value)}:(A.under (.builtin "type.__call__" ⟨.ref C::us,kw⟩)).units=A.units+1:=by
 first | rfl | simp [Around.under,Code.cUnits,Code.frames,Code.isFrame]
theorem Room.make {k:Nat}{A:Around}(r:Room (k+1) A)(C:Addr)(us:List Value)(kw:List (Str×Value)):Room k (A.under (.builtin "type.__call__" ⟨.ref C::us,kw⟩)) :=
 ⟨r.hd,by have:=r.dp;rw [make_depth];omega,by have:=r.un;rw [make_units];omega⟩
theorem Room.depth {k:Nat}{A:Around}(r:Room k A):A.depth<recursionLimit:=by have:=r.dp;omega
theorem Room.units {k:Nat}{A:Around}(r:Room k A):A.units+64<cLine:=by have:=r.un;omega
def tNil:TA:=fun _ H Q=>Q [] H
def tCons (ta:TE)(tr:TA):TA:=fun σ H Q=>ta σ H fun x H1=>tr σ H1 fun xs H2=>Q (x::xs) H2
section
variable {X:Cx}{e:Expr}{es:List Expr}{te:TE}{t:TA}{pos:Pos}
theorem pa_nil:PA X [] tNil:=fun _ _ _ _ H Q I h=>Calls.spliced_nil ⟨[],H,I,.nil,h⟩
theorem pa_cons (ha:PE X e te)(hr:PA X es t)(hs:starEach (e::es) X.env=(false,eval e X.env)::starEach es X.env:=by rfl):PA X (e::es) (tCons te t):=by
 intro pos pins s σ H Q I h
 rw [hs]
 show wpAny _ _ (spliced ((false,eval e X.env)::backTo pos (starEach es X.env))) _ _ s
 refine Calls.spliced_cons (thn (ha pins s σ H _ I h) fun u s1 ⟨x,H1,I1,r1,q1⟩=>?_)
 exact thn (hr pos pins s1 σ H1 _ I1 q1) fun us s2 ⟨xs,H2,I2,r2,q2⟩=>⟨x::xs,H2,I2,.cons r1 r2,q2⟩
def tTup (t:TA):TE:=fun σ H Q=>t σ H fun xs H1=>xs.length<=sizeLine∧∀ p,H1 p=none->Q (.ref p) (upd H1 p (.tup xs))
def tLst (t:TA):TE:=fun σ H Q=>t σ H fun xs H1=>xs.length<=sizeLine∧∀ p,H1 p=none->Q (.ref p) (upd H1 p (.lst xs))
theorem pe_tup {x1}(h:PA X es t):PE X (.Tuple es x1 pos) (tTup t):=by
 intro pins s σ H Q I hq
 refine wpAny_Tuple_spliced (thn (h pos pins s σ H _ I hq) fun us s1 ⟨xs,H1,I1,r,z,q⟩=>⟨by rw [<- r.length];exact z,?_⟩)
 have hf:H1 s1.heap.objs.size=none:=I1.hok.fresh (Nat.le_refl _)
 refine ⟨.ref s1.heap.objs.size,upd H1 s1.heap.objs.size (.tup xs),I1.laid (t':=s1.toks) (fun b u e=>Heap.get?_push_of_some _ e) (Nat.le_refl _) ?_,rfl,q _ hf⟩
 exact ⟨z,us,r,⟨_,Heap.get?_push_size _ rfl,rfl,_,rfl⟩⟩
theorem pe_lst (h:PA X es t):PE X (.List es pos) (tLst t):=by
 intro pins s σ H Q I hq
 refine wpAny_List_spliced (thn (h pos pins s σ H _ I hq) fun us s1 ⟨xs,H1,I1,r,z,q⟩=>⟨by rw [<- r.length];exact z,?_⟩)
 have hf:H1 s1.heap.objs.size=none:=I1.hok.fresh (Nat.le_refl _)
 refine ⟨.ref s1.heap.objs.size,upd H1 s1.heap.objs.size (.lst xs),I1.laid (t':=s1.toks) (fun b u e=>Heap.get?_push_of_some _ e) (Nat.le_refl _) ?_,rfl,q _ hf⟩
 exact ⟨z,us,0,r,Heap.get?_push_size _ rfl⟩
end
abbrev Sp:=List V->Hp->VK->XK->Prop
abbrev CXT:=List Env->Hp->Shared->XK->Value->Shared->Prop
set_option genInjectivity false in
structure Env0 (P:Program)(w:World)(K:PySem.W.Frag)(mg:Str->Option Value)(base:Heap)(A:Around)(outer:List Env)(s:Shared)(H:Hp):Prop where
 frames:A.frames=some outer
 mod:Mod K mg base
 bs:∀ b o,base.get? b=some o->s.heap.get? b=some o∧H b=none
 bsz:base.objs.size<=s.heap.objs.size
 funs:s.heap.FunFrames base outer
 frf:∀ b∈frs outer,H b=none
 hok:HOk P w H s.heap
 bare:AllBare s.gens
def CE (outer:List Env)(P:Program)(w:World)(H:Hp)(s:Shared)(Q:VK)(u:Value)(s':Shared):Prop :=
 ∃ v H',s'.os=s.os∧AllBare s'.gens∧Un (frs outer) [] H H' s.heap s'.heap∧HOk P w H' s'.heap∧RelV v u∧Q v H'
def CR (CX:CXT)(outer:List Env)(P:Program)(w:World)(H:Hp)(s:Shared)(Q:VK)(E:XK)(r:Result)(s':Shared):Prop :=
 match r with
 | .ok (.ret u)=>CE outer P w H s Q u s'
 | .ok _=>False
 | .error e=>CX outer H s E e s'
set_option genInjectivity false in
structure FnOk (P:Program)(w:World)(K:PySem.W.Frag)(mg:Str->Option Value)(base:Heap)(CX:CXT)(k:Nat)(f:Addr)(fd:FuncData)(ps:List Str)(sp:Sp):Prop where
 len:∀ vs H Q E,sp vs H Q E->vs.length=ps.length
 run:∀ (A:Around) (outer:List Env) (s:Shared) (H:Hp) (args:Args) (us:List Value) (vs:List V) (Q:VK) (E:XK),Room k A->Env0 P w K mg base A outer s H->BindsTo s fd args (ps.zip us)->Vals vs us->sp vs H Q E ->
  codeAny (model P w) A (.call (.ref f) args) (CR CX outer P w H s Q E) s
theorem Env0.make {P:Program}{w:World}{K:PySem.W.Frag}{mg:Str->Option Value}{base:Heap}{A:Around}{outer:List Env}{s:Shared}{H:Hp}(e:Env0 P w K mg base A outer s H)(C:Addr)(us:List Value)(kw:List (Str×Value)) :
 Env0 P w K mg base (A.under (.builtin "type.__call__" ⟨.ref C::us,kw⟩)) outer s H:=⟨by first | exact e.frames | (simpa [Around.under,Code.envs,Code.isFrame,pushEnvs] using e.frames),e.mod,e.bs,e.bsz,e.funs,e.frf,e.hok,e.bare⟩
section
variable {X:Cx}{pins:List (Addr×Obj)}{σ:St}{H:Hp}{s s':Shared}
theorem Inv.env0 (I:Inv X pins σ H s):Env0 X.prog X.w X.K X.mg X.base X.A X.stack s H :=
 ⟨I.ok.frames,I.ok.mod,I.bs,Nat.le_trans I.ok.bsz I.sz,I.stack,I.stkFree,I.hok,I.bare⟩
theorem Inv.after {Q:VK}{u:Value}(I:Inv X pins σ H s)(h:CE X.stack X.prog X.w H s Q u s'):EP X pins σ Q u s':=by
 obtain ⟨v,H',os,bare,un,hok,r,q⟩:=h
 obtain ⟨hh,g,d,t,os'⟩:=s'
 obtain rfl:os'=s.os:=os
 exact ⟨v,H',I.call (h':=hh) (g':=g) (d':=d) (t':=t) (ch:=[]) un hok bare (fun b z=>absurd z (by simp)),r,q⟩
end
def tCall (sp:Sp)(dvs:List V)(E:XK)(t:TA):TE:=fun σ H Q=>t σ H fun vs H1=>sp (vs++dvs) H1 Q E
def tMake (C:Addr)(sp:Sp)(dvs:List V)(E:XK)(t:TA):TE:=fun σ H Q=>t σ H fun vs H1=>∀ x dx,H1 x=none->H1 dx=none->dx≠x ->
 sp (.ref x::(vs++dvs)) (upd (upd H1 dx (.own x)) x (.ins C dx [])) (fun v H2=>v = .non∧Q (.ref x) H2) E
def Binds (K:PySem.W.Frag)(fd:FuncData)(ps:List Str)(ds:List Value):Prop :=
 ∀ (s:Shared) (us:List Value),K.In s.heap->(us++ds).length=ps.length->BindsTo s fd ⟨us,[]⟩ (ps.zip (us++ds))
theorem Binds.all {K:PySem.W.Frag}{fd:FuncData}{ps:List Str}(h:∀ us:List Value,us.length=ps.length->bindArgs fd ⟨us,[]⟩=pure (ps.zip us)):Binds K fd ps []:=fun s us _ hl=>by
 rw [List.append_nil] at hl ⊢
 exact .of_eq (h us hl)
def Passes (CX:CXT)(X:Cx)(E:XK):Prop:=∀ (pins:List (Addr×Obj)) (σ:St) (H:Hp) (s:Shared) (e:Value) (s':Shared),Inv X pins σ H s->CX X.stack H s E e s'->X.xe e s'
section
variable {X:Cx}{CX:CXT}{k:Nat}{f C:Addr}{fd:FuncData}{ps:List Str}{sp:Sp}{dvs:List V}{ds:List Value}{E:XK}{x m:Str}{p pos apos:Pos}{e o:Expr}{es:List Expr}{ta:TE}{t:TA}
theorem run_fn {pins:List (Addr×Obj)}{σ:St}{H:Hp}{s:Shared}{Q:VK}{us:List Value}{vs:List V}(F:FnOk X.prog X.w X.K X.mg X.base CX k f fd ps sp)(hr:Room k X.A)(hb:Binds X.K fd ps ds)(hd:Vals dvs ds)(hx:Passes CX X E)
  (I:Inv X pins σ H s) (r:Vals vs us) (h:sp (vs++dvs) H Q E):wpAny (model X.prog X.w) X.A (call (.ref f) us) (EP X pins σ Q) X.xe s:=by
 have r2:Vals (vs++dvs) (us++ds):=r.append hd
 have hl:(us++ds).length=ps.length:=by rw [<- r2.length];exact F.len _ _ _ _ h
 refine wpAny_call (codeAny_mono (F.run X.A X.stack s H ⟨us,[]⟩ (us++ds) (vs++dvs) Q E hr I.env0 (hb s us I.kIn hl) r2 h) fun r s' hq=>?_)
 cases r with
 | error e=>exact hx pins σ H s e s' I hq
 | ok fl =>
  cases fl with
  | ret u=>exact I.after hq
  | next=>exact False.elim hq
  | brk=>exact False.elim hq
  | cont=>exact False.elim hq
theorem pe_call (F:FnOk X.prog X.w X.K X.mg X.base CX k f fd ps sp)(hr:Room k X.A)(hg:Gl X x)(hm:X.mg x=some (.ref f))(hk:PySem.W.keepIn X.K (.ref f)=true)(hb:Binds X.K fd ps ds)(hd:Vals dvs ds)(hx:Passes CX X E)
  (ha:PA X (e::es) t) (hdb:(x==("__debug__" : Str))=false:=by decide) (he:starEach (e::es) X.env=(false,eval e X.env)::starEach es X.env:=by rfl) (hpl:(backTo pos (starEach es X.env)).any (·.1)=false:=by rfl) :
  PE X (.Call (.Name x p) (e::es) [] pos) (tCall sp dvs E t):=by
 intro pins s σ H Q I h
 refine wpAny_Call_Name_kw (ld_glob I hg hm ?_ hdb)
 refine PySem.W.callWith_K (h₀:=X.base) I.ok.mod.kin hk (thn (ha pos pins s σ H _ I h) fun us s1 ⟨vs,H1,I1,r,q⟩=>⟨I1.kIn,?_⟩) he hpl
 exact run_fn F hr hb hd hx I1 r q
set_option genInjectivity false in
structure Mk (K:PySem.W.Frag)(C f:Addr):Prop where
 makes:PySem.W.makesIn K C=true
 init:PySem.W.findIn K (.ref C) "__init__" = some (some (.ref f))
 fn:PySem.W.isFn K (.ref f)=true
 kp:PySem.W.keepIn K (.ref C)=true
theorem run_make {pins:List (Addr×Obj)}{σ:St}{H:Hp}{s:Shared}{Q:VK}{us:List Value}{vs:List V}(M:Mk X.K C f)(F:FnOk X.prog X.w X.K X.mg X.base CX k f fd ps sp)(hr:Room (k+1) X.A)(hb:Binds X.K fd ps ds)(hd:Vals dvs ds)
  (hx:Passes CX X E) (I:Inv X pins σ H s) (r:Vals vs us)
  (h:∀ x dx,H x=none->H dx=none->dx≠x->sp (.ref x::(vs++dvs)) (upd (upd H dx (.own x)) x (.ins C dx [])) (fun v H2=>v = .non∧Q (.ref x) H2) E) :
  wpAny (model X.prog X.w) X.A (call (.ref C) us) (EP X pins σ Q) X.xe s:=by
 have hq:=h (s.heap.objs.size+1) s.heap.objs.size (I.hok.fresh (Nat.le_succ _)) (I.hok.fresh (Nat.le_refl _)) (Nat.ne_of_lt (Nat.lt_succ_self _))
 have I2:=Inv.made (C:=C) I
 have r2:Vals (V.ref (s.heap.objs.size+1)::(vs++dvs)) (Value.ref (s.heap.objs.size+1)::(us++ds)):=.cons rfl (r.append hd)
 have hl:(Value.ref (s.heap.objs.size+1)::us++ds).length=ps.length:=by
  have e:=r2.length
  rw [F.len _ _ _ _ hq] at e
  exact e.symm
 refine wpAny_call (make_map (f:=f) I.kIn M.makes M.init (beq_iff_eq.mp M.fn) (codeAny_mono (F.run _ X.stack _ _ ⟨Value.ref (s.heap.objs.size+1)::us,[]⟩ (Value.ref (s.heap.objs.size+1)::(us++ds)) _ _ E (hr.make C us [])
  (I2.env0.make C us []) (hb _ (Value.ref (s.heap.objs.size+1)::us) I2.kIn hl) r2 hq) fun r s' hq'=>?_))
 cases r with
 | error e=>exact hx pins σ _ _ e s' I2 hq'
 | ok fl =>
  cases fl with
  | ret u =>
   obtain ⟨v,H',I3,rv,ev,q3⟩:=I2.after hq'
   subst ev
   exact ⟨rv,⟨V.ref (s.heap.objs.size+1),H',I3,rfl,q3⟩⟩
  | next=>exact False.elim hq'
  | brk=>exact False.elim hq'
  | cont=>exact False.elim hq'
theorem pe_make (M:Mk X.K C f)(F:FnOk X.prog X.w X.K X.mg X.base CX k f fd ps sp)(hr:Room (k+1) X.A)(hg:Gl X x)(hm:X.mg x=some (.ref C))(hb:Binds X.K fd ps ds)(hd:Vals dvs ds)(hx:Passes CX X E)
  (ha:PA X (e::es) t) (hdb:(x==("__debug__" : Str))=false:=by decide) (he:starEach (e::es) X.env=(false,eval e X.env)::starEach es X.env:=by rfl) (hpl:(backTo pos (starEach es X.env)).any (·.1)=false:=by rfl) :
  PE X (.Call (.Name x p) (e::es) [] pos) (tMake C sp dvs E t):=by
 intro pins s σ H Q I h
 refine wpAny_Call_Name_kw (ld_glob I hg hm ?_ hdb)
 refine PySem.W.callWith_K (h₀:=X.base) I.ok.mod.kin M.kp (thn (ha pos pins s σ H _ I h) fun us s1 ⟨vs,H1,I1,r,q⟩=>⟨I1.kIn,?_⟩) he hpl
 exact run_make M F hr hb hd hx I1 r q
end
section
variable {X:Cx}{CX:CXT}{k:Nat}{f C:Addr}{fd:FuncData}{ps ks:List Str}{sp:Sp}{E:XK}{x m:Str}{p pos apos kpos:Pos}{e o:Expr}{es:List Expr}{kws:List Keyword}{te ta:TE}{t tk:TA}{nm:Option Str}
variable {g:List Value->List Value->List Value}{gV:List V->List V->List V}
end
set_option genInjectivity false in
structure FnScope (N P:List Str)(sc:Scope):Prop where
 kind:sc.kind = .function
 co:sc.isCoroutine=false
 gen:sc.isGenerator=false
 nd:N.Nodup
 pre:N.take P.length=P
 par:∀ x∈P,sc.names.lookup x=some .local∨sc.names.lookup x=some .cell
 nofree:∀ y∈sc.names,y.2≠.free
theorem bindL_out {kindOf:Str->Option NameKind}{x:Str}:∀ {binds:List (Str×Value)} {m:Str->Option Value},(∀ v,(x,v)∉binds)->bindL kindOf binds m x=m x
 | [],_,_=>rfl
 | (n,v)::r,m,h=>by
  unfold bindL
  rw [bindL_out fun w hw=>h w (List.mem_cons_of_mem _ hw)]
  split
  ·have:x≠n:=by rintro rfl;exact h v List.mem_cons_self
   simp [this]
  ·rfl
theorem bindC_out {kindOf:Str->Option NameKind}{x:Str}:∀ {binds:List (Str×Value)} {m:Str->Option Value},(∀ v,(x,v)∉binds)->bindC kindOf binds m x=m x
 | [],_,_=>rfl
 | (n,v)::r,m,h=>by
  unfold bindC
  rw [bindC_out fun w hw=>h w (List.mem_cons_of_mem _ hw)]
  split
  ·rfl
  ·have:x≠n:=by rintro rfl;exact h v List.mem_cons_self
   simp [this]
theorem bindL_get {kindOf:Str->Option NameKind}{x:Str}{v:Value}:∀ {P:List Str} {vs:List Value} {i:Nat} {m:Str->Option Value},P.Nodup->P[i]?=some x->vs[i]?=some v->kindOf x=some .local ->
  bindL kindOf (P.zip vs) m x=some v
 | [],_,_,_,_,h,_,_=>by simp at h
 | _::_,[],_,_,_,_,h,_=>by simp at h
 | p::P,w::vs,0,m,nd,h1,h2,hk=>by
  simp at h1 h2;subst h1;subst h2
  show bindL kindOf ((p,w)::P.zip vs) m p=_
  unfold bindL
  rw [bindL_out fun v hv=>(List.nodup_cons.mp nd).1 (List.of_mem_zip hv).1,if_pos hk]
  simp
 | p::P,w::vs,i+1,m,nd,h1,h2,hk=>by
  show bindL kindOf ((p,w)::P.zip vs) m x=_
  unfold bindL
  exact bindL_get (i:=i) (List.nodup_cons.mp nd).2 (by simpa using h1) (by simpa using h2) hk
theorem bindC_get {kindOf:Str->Option NameKind}{x:Str}{v:Value}:∀ {P:List Str} {vs:List Value} {i:Nat} {m:Str->Option Value},P.Nodup->P[i]?=some x->vs[i]?=some v->kindOf x≠some .local ->
  bindC kindOf (P.zip vs) m x=some v
 | [],_,_,_,_,h,_,_=>by simp at h
 | _::_,[],_,_,_,_,h,_=>by simp at h
 | p::P,w::vs,0,m,nd,h1,h2,hk=>by
  simp at h1 h2;subst h1;subst h2
  show bindC kindOf ((p,w)::P.zip vs) m p=_
  unfold bindC
  rw [bindC_out fun v hv=>(List.nodup_cons.mp nd).1 (List.of_mem_zip hv).1,if_neg hk]
  simp
 | p::P,w::vs,i+1,m,nd,h1,h2,hk=>by
  show bindC kindOf ((p,w)::P.zip vs) m x=_
  unfold bindC
  exact bindC_get (i:=i) (List.nodup_cons.mp nd).2 (by simpa using h1) (by simpa using h2) hk
def start (N:List Str)(vs:List V):St:=vs.map some++List.replicate (N.length-vs.length) none
def cxOf (CX:CXT)(P:Program)(w:World)(K:PySem.W.Frag)(mg:Str->Option Value)(base:Heap)(N:List Str)(qual:Str)(scope:Scope)(f:Addr)(cd:Value)(A:Around)(outer:List Env)(s:Shared)(H:Hp)(E:XK):Cx where
 prog:=P
 w:=w
 K:=K
 mg:=mg
 base:=base
 A:=A.deeper (envOfC qual scope s.heap.objs.size f cd)
 N:=N
 s₀:=s
 H₀:=H
 env:=envOfC qual scope s.heap.objs.size f cd
 outer:=outer
 stack:=envOfC qual scope s.heap.objs.size f cd::outer
 ex:=[]
 calm:=true
 fn:=fun _=>true
 pn:=[]
 xe:=fun e s'=>wpAny (model P w) (A.deeper (envOfC qual scope s.heap.objs.size f cd)) (leaving (envOfC qual scope s.heap.objs.size f cd) e) (fun _ s''=>CX outer H s E e s'') (fun e' s''=>CX outer H s E e' s'') s'
theorem cell_has {sc:Scope}{n:Nat}{x:Str}(h:sc.names.lookup x=some .cell):∃ c,(cellsFrom n sc.names []).lookup x=some c:=by
 have q:=PySem.W.cellsFrom_some sc.names n [] (.inl h)
 exact Option.isSome_iff_exists.mp q
theorem inv_start {CX:CXT}{P:Program}{w:World}{K:PySem.W.Frag}{mg:Str->Option Value}{base:Heap}{N ps:List Str}{qual:Str}{scope:Scope}{f:Addr}{cd:Value}{A:Around}{outer:List Env}{s s1:Shared}{H:Hp}{E:XK}{us:List Value}{vs:List V}
  (S:FnScope N ps scope) (hd:A.handled=none) (e0:Env0 P w K mg base A outer s H) (hl:vs.length=ps.length) (r:Vals vs us)
  (x:InCallC s s.heap.objs.size (bindL (envOfC qual scope s.heap.objs.size f cd).kindOf (ps.zip us) fun _=>none) (cellsFrom (s.heap.objs.size+1) scope.names []) (bindC (envOfC qual scope s.heap.objs.size f cd).kindOf (ps.zip us) fun _=>none) s1) :
  Inv (cxOf CX P w K mg base N qual scope f cd A outer s H E) [] (start N vs) H s1:=by
 have hpl:ps.length<=N.length:=by have:=congrArg List.length S.pre;rw [List.length_take] at this;omega
 obtain ⟨h1,tk,rfl,hk⟩:=x.done
 have noA:∀ b:Addr,b∉(cxOf CX P w K mg base N qual scope f cd A outer s H E).ex:=fun b z=>absurd (show b∈([]:List Addr) from z) (by simp)
 refine ⟨⟨e0.mod,S.kind,rfl,rfl,Nat.le_refl _,fun y z c h1 h2=>?_,fun y hy=>?_,fun y c _ h=>?_,fun _=>hd,Around.frames_deeper e0.frames,.inr ⟨rfl,rfl⟩,fun b z=>absurd z (noA b),e0.bs,e0.bsz,fun b _ _=>noA b,fun b z=>absurd z (noA b),e0.funs,e0.frf⟩,
  rfl,e0.bare,Un.kept hk,⟨_,x.toInCall.ns,fun i y v h1 h2 h3=>?_⟩,fun y c h=>⟨_,x.cell y c h⟩,e0.hok.fresh (Nat.le_refl _),fun y c h=>?_,fun p hp=>absurd (show p∈([]:List (Addr×Obj)) from hp) (by simp),e0.hok.kept hk,?_⟩
 ·exact name_of_addr x.apart (PySem.mem_of_lookup h1) (PySem.mem_of_lookup h2)
 ·have hy:scope.names.lookup y=some .cell∨scope.names.lookup y=some .free:=hy
  rcases hy with hy | hy
  ·exact cell_has hy
  ·exact absurd rfl (S.nofree _ (PySem.mem_of_lookup hy))
 ·exact Nat.le_of_lt (x.above y c (PySem.mem_of_lookup h))
 ·have hi:i<vs.length:=by
   unfold start at h2
   by_cases hi:i<vs.length
   ·exact hi
   ·rw [List.getElem?_append_right (by simpa using hi)] at h2
    rw [List.getElem?_replicate] at h2
    split at h2 <;> cases h2
  have ha:vs[i]?=some v:=by
   unfold start at h2
   rw [List.getElem?_append_left (by simpa using hi),List.getElem?_map] at h2
   cases e:vs[i]? with
   | none=>rw [e] at h2;cases h2
   | some a=>rw [e] at h2;cases h2;rfl
  obtain ⟨u,hu,rv⟩:=r.get ha
  have hp:ps[i]?=some y:=by
   rw [<- S.pre,List.getElem?_take_of_lt (by omega)];exact h1
  have ndP:ps.Nodup:=by rw [<- S.pre];exact S.nd.sublist (List.take_sublist _ _)
  refine ⟨u,rv,?_⟩
  rcases S.par y (List.mem_of_getElem? hp) with k | k
  ·exact .inl ⟨k,bindL_get ndP hp hu k⟩
  ·obtain ⟨c,e⟩:=cell_has (n:=s.heap.objs.size+1) k
   refine .inr ⟨.inl k,c,e,?_⟩
   have q:=x.cell y c e
   rw [bindC_get ndP hp hu (by show scope.names.lookup y≠_;rw [k];decide)] at q
   exact q
 ·exact e0.hok.fresh (Nat.le_of_lt (x.above y c (PySem.mem_of_lookup h)))
 ·unfold start
  show _=N.length
  rw [List.length_append,List.length_map,List.length_replicate]
  omega
theorem fn_of {CX:CXT}{P:Program}{w:World}{K:PySem.W.Frag}{mg:Str->Option Value}{base:Heap}{k:Nat}{f:Addr}{name qual:Str}{params:Arguments}{body:List Stmt}{scope:Scope}{dV kV doc pm cdv ct oc:Value}{an od:Option Addr}
  {osl:Array (Option Value)} {N ps:List Str} {sp:Sp} (lk:K.lookup f=some ⟨oc,od,.func (PySem.W.fnOf name qual params body scope dV kV doc pm an cdv ct),osl⟩) (hcd:PySem.W.codeIn K cdv qual=true) (S:FnScope N ps scope)
  (len:∀ vs H Q E,sp vs H Q E->vs.length=ps.length)
  (hbody:∀ (A:Around) (outer:List Env) (s:Shared) (H:Hp) (vs:List V) (Q:VK) (E:XK),Room k (A.deeper (envOfC qual scope s.heap.objs.size f cdv))->sp vs H Q E ->
   ∃ t,PSs (cxOf CX P w K mg base N qual scope f cdv A outer s H E) body t∧t { nx:=fun _ H'=>Q .non H',rt:=Q } (start N vs) H) :
  FnOk P w K mg base CX (k+1) f (PySem.W.fnOf name qual params body scope dV kV doc pm an cdv ct) ps sp:=by
 refine ⟨len,fun A outer s H args us vs Q E hr e0 hb r hsp=>?_⟩
 have hl:=len _ _ _ _ hsp
 have KX:K.In s.heap:=e0.mod.kin.keeps fun b o e=>(e0.bs b o e).1
 have lim:s.heap.NoLimit:=e0.mod.nolimit.keeps fun b o e=>(e0.bs b o e).1
 have hkind:∀ y∈ps.zip us,scope.names.lookup y.1=some .local∨(scope.names.lookup y.1=some .cell∧((cellsFrom (s.heap.objs.size+1) scope.names []).lookup y.1).isSome=true):=fun ⟨n,v⟩ hy=>by
  rcases S.par n (List.of_mem_zip hy).1 with q | q
  ·exact .inl q
  ·exact .inr ⟨q,PySem.W.cellsFrom_some _ _ _ (.inl q)⟩
 refine codeAny_call_function hr.depth (KX _ _ lk) rfl S.co S.gen rfl (PySem.W.codeRec_of KX hcd) (hb _ _ _ _ ?_)
 refine wpAny_newFunctionEnv_cells S.kind hkind fun env he s1 x=>?_
 subst he
 refine ⟨lim.keeps x.toInCall.keep,codeAny_func ?_⟩
 obtain ⟨t,ht,hq⟩:=hbody A outer s H vs Q E (hr.deeper _) hsp
 have I:Inv (cxOf CX P w K mg base N qual scope f cdv A outer s H E) [] (start N vs) H s1:=inv_start S hr.hd e0 hl r x
 refine wpAny_mono (ht [] s1 (start N vs) H _ I hq) (fun fl s' hs=>?_) fun e s' hs=>hs
 have fin:∀ {σ':St} {H':Hp} {v:V} {u:Value},Inv (cxOf CX P w K mg base N qual scope f cdv A outer s H E) [] σ' H' s'->RelV v u->Q v H'->CE outer P w H s Q u s' :=
  fun {σ' H' v u} J rv q=>⟨v,H',J.os,J.bare,J.base,J.hok,rv,q⟩
 cases fl with
 | ret u =>
  obtain ⟨v,σ',H',J,rv,q⟩:=hs
  exact fin J rv q
 | next =>
  obtain ⟨σ',H',J,q⟩:=hs
  exact fin (v:=V.non) (u:=Value.none) J rfl q
 | brk =>
  obtain ⟨_,_,_,q⟩:=hs
  exact False.elim q
 | cont =>
  obtain ⟨_,_,_,q⟩:=hs
  exact False.elim q
end L2
namespace L2
open PySem PySem.Spec PyProof.Rows
section
variable {X:Cx}{x:Str}{p pos:Pos}{e:Expr}{es:List Expr}{t:TA}{id T:String}{r:List V->Hp->VK->Prop}
def tCB (r:List V->Hp->VK->Prop)(t:TA):TE:=fun σ H Q=>t σ H fun vs H1=>r vs H1 Q
theorem pe_callB (hc:CallR X (.builtin id) r)(hg:Gl X x)(hm:X.mg x=none)(hv:bootBuiltins x=some (.builtin id))(ha:PA X (e::es) t)(hn:x ≠ "__name__" := by decide)(hdb:(x==("__debug__" : Str))=false:=by decide)
  (he:starEach (e::es) X.env=(false,eval e X.env)::starEach es X.env:=by rfl) (hpl:(backTo pos (starEach es X.env)).any (·.1)=false:=by rfl):PE X (.Call (.Name x p) (e::es) [] pos) (tCB r t):=by
 intro pins s σ H Q I h
 refine wpAny_Call_Name_kw (ld_blt I hg hm hv ?_ hn hdb)
 exact PyProof.Rows.callWith_builtin1 (thn (ha pos pins s σ H _ I h) fun us s1 ⟨vs,H1,I1,r1,q1⟩=>hc pins s1 σ H1 vs us Q I1 r1 q1) he hpl
theorem pe_callTy (hc:CallR X (.type T) r)(hg:Gl X x)(hm:X.mg x=none)(hv:bootBuiltins x=some (.type T))(ha:PA X (e::es) t)(hn:x ≠ "__name__" := by decide)(hdb:(x==("__debug__" : Str))=false:=by decide)
  (he:starEach (e::es) X.env=(false,eval e X.env)::starEach es X.env:=by rfl) (hpl:(backTo pos (starEach es X.env)).any (·.1)=false:=by rfl):PE X (.Call (.Name x p) (e::es) [] pos) (tCB r t):=by
 intro pins s σ H Q I h
 refine wpAny_Call_Name_kw (ld_blt I hg hm hv ?_ hn hdb)
 exact PyProof.Rows.callWith_type1 (thn (ha pos pins s σ H _ I h) fun us s1 ⟨vs,H1,I1,r1,q1⟩=>hc pins s1 σ H1 vs us Q I1 r1 q1) he hpl
end
end L2
namespace HT
open PySem PyProof.Rows
section
open PySem.SeqAt
open PySem.AutoSeq1 (wpAny_loadPart')
open PySem.MeetsSeq PySem.MeetsSeq2 PySem.MeetsSeq3
end
section
variable {prog:Program}{w:World}{A:Around}{E:Value->Shared->Prop}{s:Shared}
def sIx (n d:Nat):Option Int->Nat
 | none=>d
 | some v=>if v<0 then (v+(n:Int)).toNat else min v.toNat n
theorem sIx_none (n d:Nat):sIx n d none=d:=rfl
theorem sIx_nat (n d k:Nat):sIx n d (some (k:Int))=min k n:=by
 show (if (k:Int)<0 then ((k:Int)+(n:Int)).toNat else min (k:Int).toNat n)=min k n
 rw [if_neg (by omega),Int.toNat_natCast]
theorem sIx_le (n d:Nat)(hd:d<=n)(o:Option Int):sIx n d o<=n:=by
 cases o with
 | none=>exact hd
 | some v =>
  show (if v<0 then (v+(n:Int)).toNat else min v.toNat n)<=n
  by_cases hv:v<0
  ·rw [if_pos hv];omega
  ·rw [if_neg hv];exact Nat.min_le_right _ _
end
end HT
namespace L2
open PySem PySem.Spec PyProof.Rows
abbrev TO:=St->Hp->(Option Int->Hp->Prop)->Prop
def PO (X:Cx)(e:Option Expr)(t:TO):Prop :=
 ∀ (pins:List (Addr×Obj)) (s:Shared) (σ:St) (H:Hp) (Q:Option Int->Hp->Prop),Inv X pins σ H s->t σ H Q ->
  wpAny (model X.prog X.w) X.A (evalPart e X.env) (fun u s'=>∃ o H',Inv X pins σ H' s'∧IsPart u o∧Q o H') X.xe s
def tNoPart:TO:=fun _ H Q=>Q none H
def tPart (t:TE):TO:=fun σ H Q=>t σ H fun x H1=>∃ i,x = .int i∧Q (some i) H1
section
variable {X:Cx}{e:Expr}{te:TE}{lo hi:Option Expr}{tl th:TO}{pos p2:Pos}
theorem po_none:PO X none tNoPart:=by
 intro pins s σ H Q I h
 rw [evalPart_none]
 exact wpAny_pure ⟨none,H,I,.none,h⟩
theorem po_some (h:PE X e te):PO X (some e) (tPart te):=by
 intro pins s σ H Q I hw
 rw [evalPart_some]
 refine thn (h pins s σ H _ I hw) fun u s1 ⟨x,H1,I1,r1,q1⟩=>?_
 obtain ⟨i,rfl,q⟩:=q1
 obtain ⟨t,rfl⟩:=r1
 exact ⟨some i,H1,I1,.int i t,q⟩
def SlR (X:Cx)(r:V->Option Int->Option Int->Hp->VK->Prop):Prop :=
 ∀ (pins:List (Addr×Obj)) (s:Shared) (σ:St) (H:Hp) (x:V) (v vl vu:Value) (lo hi:Option Int) (sl:Addr) (Q:VK),Inv X pins σ H s->RelV x v->s.heap.IsSliceOf sl vl vu .none->IsPart vl lo->IsPart vu hi->r x lo hi H Q ->
  ∃ T id,typeLookup (.type T) "__getitem__" = pure (some (.builtin id))∧s.TypeIs v T∧wpAny (model X.prog X.w) X.A (getItem v (.ref sl)) (EP X pins σ Q) X.xe s
def tSl (r:V->Option Int->Option Int->Hp->VK->Prop)(te:TE)(tl th:TO):TE:=fun σ H Q=>te σ H fun x H1=>tl σ H1 fun l H2=>th σ H2 fun u H3=>r x l u H3 Q
theorem pe_slice {r:V->Option Int->Option Int->Hp->VK->Prop}(hr:SlR X r)(he:PE X e te)(hl:PO X lo tl)(hu:PO X hi th):PE X (.Subscript e (.Slice lo hi none p2) pos) (tSl r te tl th):=by
 intro pins s σ H Q I h
 refine Subscript_ (thn (he pins s σ H _ I h) fun v s1 ⟨x,H1,I1,r1,q1⟩=>?_)
 refine wpAny_Slice (thn (hl pins s1 σ H1 _ I1 q1) fun vl s2 ⟨l,H2,I2,pl,q2⟩=>thn (hu pins s2 σ H2 _ I2 q2) fun vu s3 ⟨u,H3,I3,pu,q3⟩=>?_)
 rw [evalPart_none]
 refine wpAny_pure ?_
 have I4:Inv X pins σ H3 { s3 with heap:=s3.heap.push { cls:=.type "slice",data:=.fields #[vl,vu,.none] } }:=I3.kept (t':=s3.toks) fun b ob q=>Heap.get?_push_of_some _ q
 obtain ⟨T,id,hT,ht,hg⟩:=hr pins { s3 with heap:=s3.heap.push { cls:=.type "slice",data:=.fields #[vl,vu,.none] } } σ H3 x v vl vu l u s3.heap.objs.size Q I4 r1 (Heap.IsSliceOf.new ..) pl pu q3
 show wpAny (model X.prog X.w) X.A (subscriptTail e (.Slice lo hi none p2) v (.ref s3.heap.objs.size)) (EP X pins σ Q) X.xe { s3 with heap:=s3.heap.push { cls:=.type "slice",data:=.fields #[vl,vu,.none] } }
 exact tail_any (ops:=[.ref s3.heap.objs.size,v]) ht hT hg (by with_unfolding_all rfl)
def cutV (xs:List V)(lo hi:Option Int):List V:=(xs.drop (HT.sIx xs.length 0 lo)).take (HT.sIx xs.length xs.length hi-HT.sIx xs.length 0 lo)
theorem cutV_length (xs:List V)(lo hi:Option Int):(cutV xs lo hi).length<=xs.length:=by
 unfold cutV
 rw [List.length_take,List.length_drop]
 omega
end
end L2
namespace L2
open PySem PySem.Spec PyProof.Rows
def ixN (n:Nat)(i:Int):Option Nat:=if 0<=i then (if i<n then some i.toNat else none) else if -(n:Int)<=i then some (i+n).toNat else none
def atI {α:Type}(xs:List α)(i:Int):Option α:=(ixN xs.length i).bind fun j=>xs[j]?
theorem ixN_seq {n:Nat}{i:Int}{j:Nat}(h:ixN n i=some j):seqIndex? i n=some j∧j<n∧-(n:Int)<=i∧i<n:=by
 unfold ixN at h
 by_cases h0:0<=i
 ·rw [if_pos h0] at h
  by_cases h1:i<n
  ·rw [if_pos h1] at h
   have e:i.toNat=j:=Option.some.inj h
   exact ⟨by rw [seqIndex_of h0 h1,e],by omega,by omega,h1⟩
  ·rw [if_neg h1] at h;cases h
 ·rw [if_neg h0] at h
  by_cases h1 : -(n:Int)<=i
  ·rw [if_pos h1] at h
   have e:(i+n).toNat=j:=Option.some.inj h
   exact ⟨by rw [seqIndex_neg (by omega) h1,e],by omega,h1,by omega⟩
  ·rw [if_neg h1] at h;cases h
theorem atI_get {α:Type}{xs:List α}{i:Int}{v:α}(h:atI xs i=some v):∃ j,seqIndex? i xs.length=some j∧xs[j]?=some v∧j<xs.length∧-(xs.length:Int)<=i∧i<xs.length:=by
 unfold atI at h
 cases e:ixN xs.length i with
 | none=>rw [e] at h;cases h
 | some j =>
  rw [e] at h
  obtain ⟨h1,h2,h3,h4⟩:=ixN_seq e
  exact ⟨j,h1,h,h2,h3,h4⟩
theorem atI_nat {α:Type}{xs:List α}{j:Nat}{v:α}(h:xs[j]?=some v):atI xs (j:Int)=some v:=by
 have hj:j<xs.length:=(List.getElem?_eq_some_iff.mp h).1
 have e:ixN xs.length (j:Int)=some j:=by
  unfold ixN
  rw [if_pos (by omega),if_pos (by omega)];simp
 unfold atI;rw [e];exact h
theorem atI_last {α:Type}(xs:List α)(v:α):atI (xs++[v]) (-1)=some v:=by
 have hl:(xs++[v]).length=xs.length+1:=by simp
 have e:ixN (xs++[v]).length (-1)=some xs.length:=by
  unfold ixN
  rw [hl,if_neg (by decide),if_pos (by omega)]
  congr 1
  omega
 unfold atI
 rw [e]
 show (xs++[v])[xs.length]?=some v
 simp
def PlainIx (b:Expr):Prop:=∀ o i,subscripted b false o i=operate [o,i] (getItem o i)
def IxR (X:Cx)(r:R2):Prop :=
 ∀ (value slice:Expr) (pins:List (Addr×Obj)) (s:Shared) (σ:St) (H:Hp) (x y:V) (v u:Value) (Q:VK),Inv X pins σ H s->RelV x v->RelV y u->r x y H Q ->
  subscripted slice false v u=operate [v,u] (getItem v u)->wpAny (model X.prog X.w) X.A (subscriptTail value slice v u) (EP X pins σ Q) X.xe s
def MtR (X:Cx)(id:String)(r:V->List V->Hp->VK->Prop):Prop :=
 ∀ (pins:List (Addr×Obj)) (s:Shared) (σ:St) (H:Hp) (x:V) (xs:List V) (v:Value) (us:List Value) (Q:VK),Inv X pins σ H s->RelV x v->Vals xs us->r x xs H Q ->
  wpAny (model X.prog X.w) X.A (call (.builtin id) (v::us)) (EP X pins σ Q) X.xe s
section
variable {X:Cx}{a b:Expr}{ta tb:TE}{pos:Pos}
theorem pe_ix {r:R2}(hr:IxR X r)(ha:PE X a ta)(hb:PE X b tb)(hs:PlainIx b):PE X (.Subscript a b pos) (tOp r ta tb):=by
 intro pins s σ H Q I h
 exact Subscript_ (binT ha hb I h fun v u s2 x y H2 I2 rx ry q=>hr a b pins s2 σ H2 x y v u Q I2 rx ry q (hs _ _))
def rIxL (K:PySem.W.Frag):R2:=fun x y H Q=>∃ p xs i v,x = .ref p∧y = .int i∧SqL K H p xs∧atI xs i=some v∧Q v H
def rIxT (K:PySem.W.Frag):R2:=fun x y H Q=>∃ p xs i v,x = .ref p∧y = .int i∧SqT K H p xs∧atI xs i=some v∧Q v H
def rIxS:R2:=fun x y H Q=>∃ z i c,x = .str z∧y = .int i∧z.length<=sizeLine∧atI z.cps.toList i=some c∧Q (.str ⟨#[c]⟩) H
theorem ix_list:IxR X (rIxL X.K):=by
 intro value slice pins s σ H x y v u Q I rx ry h hs
 obtain ⟨p,xs,i,z,rfl,rfl,hq,he,q⟩:=h
 cases rx
 obtain ⟨t,rfl⟩:=ry
 obtain ⟨its,r,pl,hz⟩:=I.list hq
 obtain ⟨j,h1,h2,h3,h4,h5⟩:=atI_get he
 obtain ⟨w,ew,rw'⟩:=r.get h2
 have hl:=r.length
 have hn:=line63
 have fin:EP X pins σ Q w s:=⟨z,H,I,rw',q⟩
 by_cases h0:0<=i
 ·have hj:i.toNat=j:=by
   rw [seqIndex_of h0 h5] at h1
   exact Option.some.inj h1
  exact item_listR pl.isList h0 (by omega) (by rw [hj];simpa using ew) fin hs
 ·have hj:(i+(its.toArray.size:Int)).toNat=j:=by
   rw [seqIndex_neg (by omega) h4] at h1
   rw [List.size_toArray,<- hl]
   exact Option.some.inj h1
  exact subscriptTail_builtinR (x:=w) pl.isList.typeIs slot_list_getitem.lookup
   (wpAny_getItem_list_neg (Q:=fun r s'=>r=w∧EP X pins σ Q r s') pl.isList (by omega) (by rw [List.size_toArray] <;> omega) (by omega) (by rw [hj];simpa using ew) ⟨rfl,fin⟩) hs
theorem ix_tup:IxR X (rIxT X.K):=by
 intro value slice pins s σ H x y v u Q I rx ry h hs
 obtain ⟨p,xs,i,z,rfl,rfl,hq,he,q⟩:=h
 cases rx
 obtain ⟨t,rfl⟩:=ry
 obtain ⟨its,r,pl,hz⟩:=I.tuple hq
 obtain ⟨j,h1,h2,h3,h4,h5⟩:=atI_get he
 obtain ⟨w,ew,rw'⟩:=r.get h2
 have hl:=r.length
 have hn:=line63
 have fin:EP X pins σ Q w s:=⟨z,H,I,rw',q⟩
 exact subscriptTail_builtinR (x:=w) pl.typeIs slot_tuple_getitem.lookup
  (getItem_tuple (j:=j) (Q:=fun r s'=>r=w∧EP X pins σ Q r s') pl (by omega) (by omega) (by rw [List.size_toArray,<- hl];exact h1) (by simpa using ew) ⟨rfl,fin⟩) hs
theorem ix_str:IxR X rIxS:=by
 intro value slice pins s σ H x y v u Q I rx ry h hs
 obtain ⟨z,i,c,rfl,rfl,hz,he,q⟩:=h
 obtain ⟨t,rfl⟩:=rx
 obtain ⟨t',rfl⟩:=ry
 obtain ⟨j,h1,h2,h3,h4,h5⟩:=atI_get he
 have hl:z.cps.toList.length=z.length:=by simp [Str.length]
 rw [hl] at h1 h4 h5
 have hn:=line63
 exact tail_any (typeIs_str s z t) slot_str_getitem.lookup (getItem_str (c:=c) (by
  have e1:decide (i < -(2 ^ 63:Int))=false:=decide_eq_false (by omega)
  have e2:decide (i≥2 ^ 63)=false:=decide_eq_false (by omega)
  rw [e1,e2,Bool.or_false]) (by rw [h1];simpa using h2) ⟨.str ⟨#[c]⟩,H,I.tok _,⟨_,rfl⟩,q⟩) hs
theorem slice_bounds (lo hi:Option Int)(n:Nat):(sliceBounds lo hi none n).1=((HT.sIx n 0 lo:Nat):Int)∧(sliceBounds lo hi none n).2.1=((HT.sIx n n hi:Nat):Int)∧(sliceBounds lo hi none n).2.2=1:=by
 refine ⟨?_,?_,rfl⟩
 ·cases lo with
  | none=>simp [sliceBounds,HT.sIx]
  | some i =>
   simp only [sliceBounds,HT.sIx,Option.getD_none,show (1:Int)>0 by decide,if_true]
   by_cases h:i<0
   ·simp only [h,if_true] <;> omega
   ·simp only [h,if_false] <;> omega
 ·cases hi with
  | none=>simp [sliceBounds,HT.sIx]
  | some i =>
   simp only [sliceBounds,HT.sIx,Option.getD_none,show (1:Int)>0 by decide,if_true]
   by_cases h:i<0
   ·simp only [h,if_true] <;> omega
   ·simp only [h,if_false] <;> omega
theorem slicePick_cut (its:List Value)(lo hi:Option Int):slicePick its.toArray lo hi none=((its.drop (HT.sIx its.length 0 lo)).take (HT.sIx its.length its.length hi-HT.sIx its.length 0 lo)).toArray:=by
 obtain ⟨h1,h2,h3⟩:=slice_bounds lo hi its.toArray.size
 unfold slicePick
 rw [h1,h2,h3]
 simp only [sliceRange_one,pick_run,List.size_toArray] <;> rfl
def rSlL (K:PySem.W.Frag):V->Option Int->Option Int->Hp->VK->Prop:=fun x lo hi H Q=>∃ a xs,x = .ref a∧SqL K H a xs∧∀ p,H p=none->Q (.ref p) (upd H p (.lst (cutV xs lo hi)))
theorem sl_list:SlR X (rSlL X.K):=by
 intro pins s σ H x v vl vu lo hi sl Q I rx hs pl pu h
 obtain ⟨a,xs,rfl,hx,q⟩:=h
 cases rx
 obtain ⟨its,r,ht,hz⟩:=I.list hx
 have hlen:=r.length
 refine ⟨"list",_,slot_list_getitem.lookup,ht.isList.typeIs,?_⟩
 refine wpAny_getItem_list_slice ht.isList hs pl pu .none (by simp) ?_ (by rw [List.size_toArray] <;> omega)
 rw [slicePick_cut,<- hlen]
 refine ⟨.ref s.heap.objs.size,_,I.laid (t':=s.toks) (o:=.lst (cutV xs lo hi)) (fun b ob q=>Heap.get?_push_of_some _ q) (Nat.le_refl _) ?_,rfl,q _ (I.hok.fresh (Nat.le_refl _))⟩
 exact ⟨Nat.le_trans (cutV_length xs lo hi) hz,_,0,(r.drop (HT.sIx xs.length 0 lo)).take (HT.sIx xs.length xs.length hi-HT.sIx xs.length 0 lo),Heap.get?_push_size _ rfl⟩
def flatV:V->Bool
 | .non=>true
 | .bl _=>true
 | .int _=>true
 | .str _=>true
 | _=>false
def eqV:V->V->Bool
 | .non,.non=>true
 | .bl a,.bl b=>a==b
 | .bl a,.int b=>(if a then 1 else 0)==b
 | .int a,.bl b=>a==(if b then 1 else 0)
 | .int a,.int b=>a==b
 | .str a,.str b=>a==b
 | _,_=>false
theorem eqAt_V {A:Around}{s:Shared}{y x:V}{u v:Value}(ry:RelV y u)(rx:RelV x v)(fy:flatV y=true)(fx:flatV x=true):SeqAt.EqAt A s u v (eqV y x):=by
 cases y with
 | non =>
  cases ry
  cases x with
  | non=>cases rx;exact SeqAt.EqAt.same _
  | bl b=>cases rx;exact SeqAt.EqAt.none_bool b
  | int b=>obtain ⟨t,rfl⟩:=rx;exact SeqAt.EqAt.none_int b t
  | str b=>obtain ⟨t,rfl⟩:=rx;exact SeqAt.EqAt.none_str b t
  | _=>exact absurd (show false=true from fx) Bool.false_ne_true
 | bl a =>
  cases ry
  cases x with
  | non=>cases rx;exact SeqAt.EqAt.bool_none a
  | bl b=>cases rx;exact SeqAt.EqAt.bool_bool a b
  | int b=>obtain ⟨t,rfl⟩:=rx;exact SeqAt.EqAt.bool_int a b t
  | str b=>obtain ⟨t,rfl⟩:=rx;exact SeqAt.EqAt.bool_str a b t
  | _=>exact absurd (show false=true from fx) Bool.false_ne_true
 | int a =>
  obtain ⟨t',rfl⟩:=ry
  cases x with
  | non=>cases rx;exact SeqAt.EqAt.int_none a t'
  | bl b=>cases rx;exact SeqAt.EqAt.int_bool a t' b
  | int b=>obtain ⟨t,rfl⟩:=rx;exact SeqAt.EqAt.int_int a t' b t
  | str b=>obtain ⟨t,rfl⟩:=rx;exact SeqAt.EqAt.int_str a t' b t
  | _=>exact absurd (show false=true from fx) Bool.false_ne_true
 | str a =>
  obtain ⟨t',rfl⟩:=ry
  cases x with
  | non=>cases rx;exact SeqAt.EqAt.str_none a t'
  | bl b=>cases rx;exact SeqAt.EqAt.str_bool a t' b
  | int b=>obtain ⟨t,rfl⟩:=rx;exact SeqAt.EqAt.str_int a t' b t
  | str b=>obtain ⟨t,rfl⟩:=rx;exact SeqAt.EqAt.str_str a t' b t
  | _=>exact absurd (show false=true from fx) Bool.false_ne_true
 | _=>exact absurd (show false=true from fy) Bool.false_ne_true
def eqU (x:V)(u:Value):Bool:=match u with
 | .none=>eqV .non x
 | .bool b=>eqV (.bl b) x
 | .int i _=>eqV (.int i) x
 | .str z _=>eqV (.str z) x
 | _=>false
theorem eqU_of {x y:V}{u:Value}(r:RelV y u)(f:flatV y=true):eqU x u=eqV y x:=by
 cases y with
 | non=>cases r;rfl
 | bl b=>cases r;rfl
 | int i=>obtain ⟨t,rfl⟩:=r;rfl
 | str z=>obtain ⟨t,rfl⟩:=r;rfl
 | _=>exact absurd (show false=true from f) Bool.false_ne_true
theorem any_eqU {x:V}:∀ {xs:List V} {us:List Value},Vals xs us->xs.all flatV=true->us.any (eqU x)=xs.any fun y=>eqV y x
 | _,_,.nil,_=>rfl
 | y::xs,u::us,.cons r t,f=>by
  rw [List.all_cons,Bool.and_eq_true] at f
  rw [List.any_cons,List.any_cons,eqU_of r f.1,any_eqU t f.2]
theorem mem_eqAt {A:Around}{s:Shared}{x:V}{v:Value}(rx:RelV x v)(fx:flatV x=true):∀ {xs:List V} {us:List Value},Vals xs us->xs.all flatV=true->∀ u∈us,SeqAt.EqAt A s u v (eqU x u)
 | _,_,.nil,_=>fun u hu=>by cases hu
 | y::xs,u::us,.cons r t,f=>fun u' hu=>by
  rw [List.all_cons,Bool.and_eq_true] at f
  rcases List.mem_cons.mp hu with rfl | hu
  ·rw [eqU_of r f.1];exact eqAt_V r rx f.1 fx
  ·exact mem_eqAt rx fx t f.2 u' hu
def inV (x:V)(xs:List V):Bool:=xs.any fun y=>eqV y x
def rIn (K:PySem.W.Frag)(neg:Bool):R2:=fun x y H Q=>∃ p xs,y = .ref p∧(SqL K H p xs∨SqT K H p xs)∧flatV x=true∧xs.all flatV=true∧Q (.bl (if neg then !inV x xs else inV x xs)) H
theorem op_in_seq:OpR X (compareOp .In) (rIn X.K false):=by
 intro pins s σ H x y v u Q I rx ry h
 obtain ⟨p,xs,rfl,hq,fx,fs,q⟩:=h
 cases ry
 rcases hq with hq | hq
 ·obtain ⟨its,r,pl,hz⟩:=I.list hq
  refine SeqAt.in_listAt (eqU x) pl.isList (fun w hw=>mem_eqAt rx fx r fs w (by simpa using hw)) ⟨.bl _,H,I,rfl,?_⟩
  rw [show its.toArray.any (eqU x)=its.any (eqU x) by simp,any_eqU r fs]
  exact q
 ·obtain ⟨its,r,pl,hz⟩:=I.tuple hq
  refine SeqAt.in_tupleAt (eqU x) pl (fun w hw=>mem_eqAt rx fx r fs w (by simpa using hw)) ⟨.bl _,H,I,rfl,?_⟩
  rw [show its.toArray.any (eqU x)=its.any (eqU x) by simp,any_eqU r fs]
  exact q
theorem op_notIn_seq:OpR X (compareOp .NotIn) (rIn X.K true):=by
 intro pins s σ H x y v u Q I rx ry h
 obtain ⟨p,xs,rfl,hq,fx,fs,q⟩:=h
 cases ry
 rcases hq with hq | hq
 ·obtain ⟨its,r,pl,hz⟩:=I.list hq
  refine SeqAt.notIn_listAt (eqU x) pl.isList (fun w hw=>mem_eqAt rx fx r fs w (by simpa using hw)) ⟨.bl _,H,I,rfl,?_⟩
  rw [show its.toArray.any (eqU x)=its.any (eqU x) by simp,any_eqU r fs]
  exact q
 ·obtain ⟨its,r,pl,hz⟩:=I.tuple hq
  refine SeqAt.notIn_tupleAt (eqU x) pl (fun w hw=>mem_eqAt rx fx r fs w (by simpa using hw)) ⟨.bl _,H,I,rfl,?_⟩
  rw [show its.toArray.any (eqU x)=its.any (eqU x) by simp,any_eqU r fs]
  exact q
theorem call_len_seq:CallR X (.builtin "len") (fun xs H Q=>∃ p ys,xs=[.ref p]∧(SqL X.K H p ys∨SqT X.K H p ys)∧Q (.int ys.length) H):=by
 intro pins s σ H xs us Q I r h
 obtain ⟨p,ys,rfl,hq,q⟩:=h
 obtain ⟨u,rfl,rx⟩:=vals1 r
 cases rx
 have hn:=line63
 rcases hq with hq | hq
 ·obtain ⟨its,r',pl,hz⟩:=I.list hq
  have hlen:=r'.length
  exact Calls.call_len_list pl.isList (by simp only [List.size_toArray] <;> omega) ⟨.int ys.length,H,I.tok _,⟨s.toks+1,by rw [List.size_toArray,hlen]⟩,q⟩
 ·obtain ⟨its,r',pl,hz⟩:=I.tuple hq
  have hlen:=r'.length
  exact len_tuple pl (by simp only [List.size_toArray] <;> omega) ⟨.int ys.length,H,I.tok _,⟨s.toks+1,by rw [List.size_toArray,hlen]⟩,q⟩
theorem call_len_str:CallR X (.builtin "len") (fun xs H Q=>∃ z,xs=[.str z]∧z.length<=sizeLine∧Q (.int z.length) H):=by
 intro pins s σ H xs us Q I r h
 obtain ⟨z,rfl,hz,q⟩:=h
 obtain ⟨u,rfl,t,rfl⟩:=vals1 r
 have hn:=line63
 exact len_str (by omega) ⟨.int z.length,H,I.tok _,⟨_,rfl⟩,q⟩
theorem call_list_of:CallR X (.type "list") (fun xs H Q=>∃ p ys,xs=[.ref p]∧(SqL X.K H p ys∨SqT X.K H p ys)∧∀ l,H l=none->Q (.ref l) (upd H l (.lst ys))):=by
 intro pins s σ H xs us Q I r h
 obtain ⟨p,ys,rfl,hq,q⟩:=h
 obtain ⟨u,rfl,rx⟩:=vals1 r
 cases rx
 have fin:∀ (its:List Value),Vals ys its->ys.length<=sizeLine->∀ (h':Heap) (c':Nat),(∀ b o',s.heap.get? b=some o'->h'.get? b=some o') ->
   h'.get? s.heap.objs.size=some { cls:=.type "list",dict:=none,data:=.seq its.toArray c',slots:=#[] }->EP X pins σ Q (.ref s.heap.objs.size) { s with heap:=h' }:=fun its r' hz h' c' kp e =>
  ⟨.ref s.heap.objs.size,_,I.laid (t':=s.toks) kp (Nat.le_refl _) (show ObjOk X.prog X.w _ h' _ (.lst ys) from ⟨hz,its,c',r',e⟩),rfl,q _ (I.hok.fresh (Nat.le_refl _))⟩
 rcases hq with hq | hq
 ·obtain ⟨its,r',pl,hz⟩:=I.list hq
  have hlen:=r'.length
  obtain ⟨o,ho,hc,n,hd⟩:=pl.isList
  exact call_list_seq p (.inl rfl) ho hc hd (fun h' c' kp e=>fin its r' hz h' c' kp e) (by simp only [List.size_toArray] <;> omega)
 ·obtain ⟨its,r',pl,hz⟩:=I.tuple hq
  have hlen:=r'.length
  obtain ⟨o,ho,hc,n,hd⟩:=pl
  exact call_list_seq p (.inr rfl) ho hc hd (fun h' c' kp e=>fin its r' hz h' c' kp e) (by simp only [List.size_toArray] <;> omega)
theorem call_tuple_of:CallR X (.type "tuple") (fun xs H Q=>∃ p ys,xs=[.ref p]∧((SqL X.K H p ys∧∀ l,H l=none->Q (.ref l) (upd H l (.tup ys)))∨(SqT X.K H p ys∧Q (.ref p) H))):=by
 intro pins s σ H xs us Q I r h
 obtain ⟨p,ys,rfl,h⟩:=h
 obtain ⟨u,rfl,rx⟩:=vals1 r
 cases rx
 rcases h with ⟨hq,q⟩ | ⟨hq,q⟩
 ·obtain ⟨its,r',pl,hz⟩:=I.list hq
  have hlen:=r'.length
  refine call_tuple_list pl.isList (fun h' kp=>?_) (by simp only [List.size_toArray] <;> omega)
  have I1:Inv X pins σ H { s with heap:=h' }:=I.kept (t':=s.toks) kp
  have I2:Inv X pins σ (upd H h'.objs.size (.tup ys)) { s with heap:=h'.push { cls:=.type "tuple",data:=.seq its.toArray } } :=
   I1.laid (t':=s.toks) (fun b o e=>Heap.get?_push_of_some _ e) (Nat.le_refl _) (show ObjOk X.prog X.w _ _ _ (.tup ys) from ⟨hz,its,r',IsTup.new _ _⟩)
  exact ⟨.ref h'.objs.size,_,I2,rfl,q _ (I1.hok.fresh (Nat.le_refl _))⟩
 ·obtain ⟨its,r',pl,hz⟩:=I.tuple hq
  exact call_tuple_same pl ⟨.ref p,H,I,rfl,q⟩
def tyV (K:PySem.W.Frag)(T:String)(x:V)(H:Hp):Prop:=match x with
 | .str _=>T = "str"
 | .int _=>T = "int"
 | .ref p=>(T = "list" ∧ ∃ xs,SqL K H p xs)∨(T = "tuple" ∧ ∃ o,K.lookup p=some o∧o.cls = .type "tuple" ∧ o.dict=none) ∨
  (T = "dict" ∧ ((∃ kvs,H p=some (.dK kvs))∨∃ kvs,H p=some (.dT kvs)))∨(T = "set" ∧ ∃ S n,H p=some (.set S n))
 | _=>False
theorem tyV_is {pins:List (Addr×Obj)}{σ:St}{H:Hp}{s:Shared}{T:String}{x:V}{v:Value}(I:Inv X pins σ H s)(r:RelV x v)(ty:tyV X.K T x H) :
  s.TypeIs v T∧∀ a,v = .ref a->∃ ob,s.heap.get? a=some ob∧ob.dict=none:=by
 cases x with
 | str z =>
  obtain ⟨t,rfl⟩:=r
  cases (show T = "str" from ty)
  exact ⟨typeIs_str s z t,fun _ e=>nomatch e⟩
 | int i =>
  obtain ⟨t,rfl⟩:=r
  cases (show T = "int" from ty)
  exact ⟨typeIs_int s i t,fun _ e=>nomatch e⟩
 | ref p =>
  cases r
  rcases ty with ⟨rfl,xs,hq⟩ | ⟨rfl,o,hk,hc,hd⟩ | ⟨rfl,hk⟩ | ⟨rfl,S,n,hk⟩
  ·obtain ⟨its,_,pl,_⟩:=I.list hq
   refine ⟨pl.isList.typeIs,fun a e=>?_⟩
   cases e
   obtain ⟨o,n,e,c,hd,_⟩:=pl
   exact ⟨o,e,hd⟩
  ·refine ⟨⟨o,I.kIn p o hk,hc⟩,fun a e=>?_⟩
   cases e
   exact ⟨o,I.kIn _ o hk,hd⟩
  ·have z:∃ o,s.heap.get? p=some o∧o.ExactDict:=by
    rcases hk with ⟨kvs,hk⟩ | ⟨kvs,hk⟩
    ·obtain ⟨_,_,_,_,o,_,_,e,ex,_⟩:=I.hok p _ hk
     exact ⟨o,e,ex⟩
    ·obtain ⟨_,_,_,_,o,_,_,e,ex,_⟩:=I.hok p _ hk
     exact ⟨o,e,ex⟩
   obtain ⟨o,e,ex⟩:=z
   refine ⟨⟨o,e,ex.1⟩,fun a e2=>?_⟩
   cases e2
   exact ⟨o,e,ex.2.1⟩
  ·obtain ⟨o,_,_,_,e,ex,_⟩:=I.hok p _ hk
   refine ⟨⟨o,e,ex.1⟩,fun a e2=>?_⟩
   cases e2
   exact ⟨o,e,ex.2.1⟩
 | _=>exact False.elim ty
def tBM0 (K:PySem.W.Frag)(T:String)(r:V->List V->Hp->VK->Prop)(to:TE):TE:=fun σ H Q=>to σ H fun x H1=>tyV K T x H1∧r x [] H1 Q
def tBM (K:PySem.W.Frag)(T:String)(r:V->List V->Hp->VK->Prop)(to:TE)(t:TA):TE:=fun σ H Q=>to σ H fun x H1=>tyV K T x H1∧t σ H1 fun xs H2=>r x xs H2 Q
variable {o e:Expr}{es:List Expr}{to:TE}{t:TA}{name:Str}{apos cpos:Pos}{T id:String}{r:V->List V->Hp->VK->Prop}
theorem pe_bm0 (pa:PlainAttrs T)(slot:Slot T name id)(hty:typeOf (.builtin id)=pure (.type "method_descriptor"))(hm:MtR X id r)(ho:PE X o to)
  (hbase:attributeBase o name X.env (eval o X.env)=eval o X.env:=by rfl) (hline:(apos.endLine==cpos.line)=true:=by rfl):PE X (.Call (.Attribute o name apos) [] [] cpos) (tBM0 X.K T r to):=by
 intro pins s σ H Q I h
 refine wpAny_Call_method0_late hbase hline (thn (ho pins s σ H _ I h) fun v s1 ⟨x,H1,I1,r1,ty,q1⟩=>?_)
 obtain ⟨h1,h2⟩:=tyV_is I1 r1 ty
 exact ⟨T,id,pa,slot,hty,h1,h2,Calls.callWith_builtin rfl (PySem.evalArgs_none (hm pins s1 σ H1 x [] v [] Q I1 r1 .nil q1))⟩
theorem pe_bm (pa:PlainAttrs T)(slot:Slot T name id)(hty:typeOf (.builtin id)=pure (.type "method_descriptor"))(hm:MtR X id r)(ho:PE X o to)(ha:PA X (e::es) t)
  (hbase:attributeBase o name X.env (eval o X.env)=eval o X.env:=by rfl)
  (hfew:((backTo cpos (starEach (e::es) X.env)).all (fun x=>!x.1)&&(backToKw cpos (keywordEach [] X.env)).all (fun x=>x.1.isSome)
   && decide ((e::es).length+([]:List Keyword).length+(if ([]:List Keyword).isEmpty then 0 else 1)<30))=true:=by rfl)
  (hline:(apos.endLine==cpos.line)=true:=by rfl) (hs:starEach (e::es) X.env=(false,eval e X.env)::starEach es X.env:=by rfl) (hplain:(backTo cpos (starEach es X.env)).any (·.1)=false:=by rfl) :
  PE X (.Call (.Attribute o name apos) (e::es) [] cpos) (tBM X.K T r to t):=by
 intro pins s σ H Q I h
 refine wpAny_Call_method_late hbase hfew hline rfl (thn (ho pins s σ H _ I h) fun v s1 ⟨x,H1,I1,r1,ty,q1⟩=>?_)
 obtain ⟨h1,h2⟩:=tyV_is I1 r1 ty
 refine ⟨T,id,pa,slot,hty,h1,h2,?_⟩
 have hA:=ha cpos pins s1 σ H1 _ I1 q1
 rw [hs] at hA ⊢
 refine Calls.callWith_builtin (by show (false||(backTo cpos (starEach es X.env)).any (·.1))=false;rw [hplain] <;> rfl) (Calls.evalArgs_plain ?_)
 exact thn hA fun us s2 ⟨vs,H2,I2,r2,q2⟩=>hm pins s2 σ H2 x vs v us Q I2 r1 r2 q2
end
end L2
namespace L2
open PySem PySem.Spec PyProof.Rows
def MtM (X:Cx)(id:String)(r:V->List V->Hp->VK->Prop):Prop :=
 ∀ (pins:List (Addr×Obj)) (s:Shared) (σ:St) (H:Hp) (x:V) (xs:List V) (v:Value) (us:List Value) (Q:VK),Inv X pins σ H s->RelV x v->Vals xs us->r x xs H Q ->
  wpAny (model X.prog X.w) X.A (call (.builtin id) (v::us)) (EP X pins σ Q) X.xe s
theorem Vals.one:∀ {x:V} {us:List Value},Vals [x] us->∃ u,us=[u]∧RelV x u
 | _,_,.cons r .nil=>⟨_,rfl,r⟩
theorem Vals.zero:∀ {us:List Value},Vals [] us->us=[]
 | _,.nil=>rfl
theorem Vals.dropLast {xs:List V}{us:List Value}(h:Vals xs us):Vals xs.dropLast us.dropLast:=by
 induction h with
 | nil=>exact .nil
 | cons r t ih =>
  cases t with
  | nil=>exact .nil
  | cons q t'=>exact .cons r ih
theorem Vals.eraseIdx:∀ {xs:List V} {us:List Value} (i:Nat),Vals xs us->Vals (xs.eraseIdx i) (us.eraseIdx i)
 | _,_,_,.nil=>.nil
 | _,_,0,.cons _ t=>t
 | _,_,i+1,.cons r t=>.cons r (Vals.eraseIdx i t)
theorem Vals.reverse {xs:List V}{us:List Value}(h:Vals xs us):Vals xs.reverse us.reverse:=by
 induction h with
 | nil=>exact .nil
 | cons r t ih=>rw [List.reverse_cons,List.reverse_cons];exact Vals.append ih (.cons r .nil)
theorem erase_last {α:Type}(l:List α):l.eraseIdx (l.length-1)=l.dropLast:=by
 induction l with
 | nil=>rfl
 | cons a r ih =>
  cases r with
  | nil=>rfl
  | cons b r =>
   have e:(a::b::r).length-1=((b::r).length-1)+1:=by
    have h1:(a::b::r).length=r.length+2:=rfl
    have h2:(b::r).length=r.length+1:=rfl
    omega
   rw [e,List.eraseIdx_cons_succ,ih]
   all_goals rfl
theorem len_erase {α:Type}:∀ (l:List α) (i:Nat),(l.eraseIdx i).length<=l.length
 | [],_=>Nat.le_refl _
 | _::_,0=>Nat.le_succ _
 | _::r,i+1=>Nat.succ_le_succ (len_erase r i)
section
variable {X:Cx}{pins:List (Addr×Obj)}{σ:St}{H:Hp}{s:Shared}{l b:Addr}{xs ys zs:List V}
theorem Inv.lset {its its':List Value}{n:Nat}{f:Array Value->Array Value}{t':Nat}(I:Inv X pins σ H s)(hH:H l=some (.lst xs))
  (e:s.heap.get? l=some { cls:=.type "list",data:=.seq its.toArray n }) (hf:f its.toArray=its'.toArray) (hv:Vals ys its') (hz:ys.length<=sizeLine) :
  Inv X pins σ (upd H l (.lst ys)) { s with heap:=s.heap.update l (Obj.mapSeq f),toks:=t' }:=by
 have q:=PySem.IsL.update e f
 rw [hf] at q
 refine I.write (x:=l) (e:=l) (by rw [hH];exact trivial) (.inl rfl) (fun b' u hb hu=>(Heap.get?_update_other s.heap (Obj.mapSeq f) (Ne.symm hb)).trans hu) ⟨_,q⟩ ?_
 exact ⟨hz,its',_,hv,q⟩
theorem Inv.lnew {its:List Value}{t':Nat}(I:Inv X pins σ H s)(hv:Vals ys its)(hz:ys.length<=sizeLine) :
  Inv X pins σ (upd H s.heap.objs.size (.lst ys)) { s with heap:=s.heap.push { cls:=.type "list",data:=.seq its.toArray },toks:=t' } :=
 I.laid (fun _ _ q=>Heap.get?_push_of_some _ q) (Nat.le_refl _) ⟨hz,its,0,hv,Heap.get?_push_size _ rfl⟩
theorem Inv.fresh (I:Inv X pins σ H s):H s.heap.objs.size=none:=I.hok.fresh (Nat.le_refl _)
theorem Inv.lstM (I:Inv X pins σ H s)(hH:H l=some (.lst xs)):xs.length<=sizeLine∧∃ (its:List Value) (n:Nat),Vals xs its∧xs.length=its.length∧s.heap.get? l=some { cls:=.type "list",data:=.seq its.toArray n }:=by
 obtain ⟨z,its,n,r,e⟩:=I.hok l _ hH
 exact ⟨z,its,n,r,r.length,e⟩
end
section
variable {X:Cx}
def rAppend:V->List V->Hp->VK->Prop:=fun x vs H Q=>∃ l xs y,x = .ref l∧vs=[y]∧H l=some (.lst xs)∧xs.length<sizeLine∧Q .non (upd H l (.lst (xs++[y])))
theorem mt_append:MtM X "list.append" rAppend:=by
 intro pins s σ H x vs v us Q I rx rv h
 obtain ⟨l,xs,y,rfl,rfl,hH,hz,q⟩:=h
 cases rx
 obtain ⟨u,rfl,ru⟩:=rv.one
 obtain ⟨z,its,n,r,hl,e⟩:=I.lstM hH
 refine call_meets F.slot_list_append ⟨_,e,rfl⟩ F.entry_list_append (F.args_list_append_2 _ _) (PySem.list_append l its.toArray n u (by rw [List.size_toArray];omega)) ⟨e,?_⟩
 refine ⟨.non,_,I.lset (its':=its++[u]) hH e (by simp) (r.append (.cons ru .nil)) ?_,rfl,q⟩
 rw [List.length_append,List.length_singleton]
 omega
def rPop:V->List V->Hp->VK->Prop:=fun x vs H Q=>∃ l xs y,x = .ref l∧vs=[]∧H l=some (.lst xs)∧xs[xs.length-1]?=some y∧Q y (upd H l (.lst xs.dropLast))
theorem mt_pop:MtM X "list.pop" rPop:=by
 intro pins s σ H x vs v us Q I rx rv h
 obtain ⟨l,xs,y,rfl,rfl,hH,hy,q⟩:=h
 cases rx
 have hus:=rv.zero
 subst hus
 obtain ⟨z,its,n,r,hl,e⟩:=I.lstM hH
 obtain ⟨u,hu,ru⟩:=r.get hy
 have hy':its.toArray[its.toArray.size-1]?=some u:=by
  show its.toArray[its.length-1]?=some u
  rw [<- Array.getElem?_toList,<- hl]
  exact hu
 refine call_meets F.slot_list_pop ⟨_,e,rfl⟩ F.entry_list_pop (F.args_list_pop_1 _) (MeetsSeq.list_pop_last l its.toArray n u hy' (by rw [List.size_toArray];omega)) ⟨e,?_⟩
 refine ⟨y,_,I.lset (its':=its.dropLast) hH e ?_ r.dropLast ?_,ru,q⟩
 ·show its.toArray.eraseIdxIfInBounds (its.toArray.size-1)=its.dropLast.toArray
  rw [List.size_toArray,List.eraseIdxIfInBounds_toArray,erase_last]
 ·rw [List.length_dropLast]
  omega
def rPopAt:V->List V->Hp->VK->Prop:=fun x vs H Q=>∃ l xs i k y,x = .ref l∧vs=[.int i]∧H l=some (.lst xs)∧-(2 ^ 63)<=i∧i<2 ^ 63∧seqIndex? i xs.length=some k∧xs[k]?=some y∧Q y (upd H l (.lst (xs.eraseIdx k)))
theorem mt_popAt:MtM X "list.pop" rPopAt:=by
 intro pins s σ H x vs v us Q I rx rv h
 obtain ⟨l,xs,i,k,y,rfl,rfl,hH,h1,h2,hk,hy,q⟩:=h
 cases rx
 obtain ⟨u,rfl,ru⟩:=rv.one
 obtain ⟨t,rfl⟩:=ru
 obtain ⟨z,its,n,r,hl,e⟩:=I.lstM hH
 obtain ⟨w,hw,rw'⟩:=r.get hy
 refine call_meets F.slot_list_pop ⟨_,e,rfl⟩ F.entry_list_pop (F.args_list_pop_2 _ _)
  (MeetsSeq.list_pop_at l its.toArray n i t k w (fitsIndex_both h1 h2) (by rw [List.size_toArray,<- hl];exact hk) (by rw [<- Array.getElem?_toList];exact hw) (by rw [List.size_toArray];omega)) ⟨e,?_⟩
 refine ⟨y,_,I.lset (its':=its.eraseIdx k) hH e ?_ (r.eraseIdx k) ?_,rw',q⟩
 ·show its.toArray.eraseIdxIfInBounds k=(its.eraseIdx k).toArray
  rw [List.eraseIdxIfInBounds_toArray]
 ·have:=len_erase xs k
  omega
end
section
variable {prog:Program}{w:World}{A:Around}{E:Value->Shared->Prop}{s:Shared}
end
section
variable {X:Cx}
end
end L2
namespace Att
open PySem PySem.W PySem.Calls PyProof.Rows
theorem ints_of_wellAll {P:Params}{h:Heap}:∀ (ns:List Int) (vs:List Value),WellAll P h vs (ns.map WData.int)->IntsAre vs ns:=by
 intro ns
 induction ns with
 | nil =>
  intro vs w
  rw [List.map_nil] at w
  cases w
  exact .nil
 | cons n ns ih =>
  intro vs w
  rw [List.map_cons] at w
  cases w with
  | cons a b =>
   cases a
   exact .cons _ _ (ih _ b)
theorem script_of {l:OpenLaw}{n:Nat}(hn:l.most=some n){P:Params}{h:Heap}{args:List WData}{vals:List Value}
  (hpre:l.row.toRowW.claim.pre args=true) (hwl:WellAll P h vals args) :
  ∃ a vs ns,vals=[Value.ref a]∧args=[WData.list (ns.map WData.int)]∧h.get? a=some { cls:=.type "list",data:=.seq vs.toArray }∧IntsAre vs ns∧ns.length<=n:=by
 have hsh:WShape.hasAll [] args [.list .int]=true:=(pre_splitW hpre).1
 have hc:l.pre.holds [] { args:=args }=true:=(pre_splitW hpre).2
 obtain ⟨d,r,rfl,h1,h2⟩:=hasAllW_cons hsh
 obtain rfl:=hasAllW_nil h2
 obtain ⟨xs,rfl,h3⟩:=hasW_list h1
 obtain ⟨ns,rfl⟩:=items_int h3
 have hlen:ns.length<=n:=by
  unfold OpenLaw.pre at hc
  have h4:(WTm.not (.lt (.lit (.int (n:Int))) (.len (.arg 0)))).holds [] { args:=[.list (ns.map .int)] }=true:=by
   have h4:=(holds_andW hc).1
   rw [hn] at h4
   exact h4
  have h5:=condW_of h4 (w_not (w_lt w_lit (w_len_list (w_arg rfl))))
  rw [List.length_map] at h5
  refine Nat.le_of_not_lt fun q=>?_
  have q':(n:Int)<((ns.length:Nat):Int):=by omega
  first
   | (rw [decide_eq_true q'] at h5;exact absurd h5 (by decide))
   | (simp at h5;omega)
 cases hwl with
 | cons w1 w2 =>
  cases w2
  cases w1 with
  | list ho hall=>exact ⟨_,_,ns,rfl,rfl,ho,ints_of_wellAll ns _ hall,hlen⟩
theorem post_true (l:OpenLaw)(args:List WData):l.row.toRowW.claim.post args (.bool true) args=true :=
 postW_of (r:=l.row.toRowW) (X:=(true==true))
  (show WShape.has [] (.bool true) .bool=true by first | rfl | decide | simp [WShape.has,WShape.arms,WShape.armsAll])
  (show (WTm.eq .res (.lit (.bool true))).value [] { args:=args,res:=some (.bool true),after:=args }=some (.bool (true==true)) from w_eq_bool (w_res rfl) w_lit) rfl
theorem attach_call {l:OpenLaw}{n:Nat}{q:Program}{loose:List Str}{XP:(Str->Option Value)->Heap->Prop}{YP:World->Heap->Prop}{d:DefRec}
  (hn:l.most=some n) (hdf:d.params.defaults=[])
  (call:∀ (w:World) (s₀ s₁:Shared) (mg mb:Str->Option Value) (fa:Addr) (o:Obj) (pm cd doc:Value) (a:Addr) (vs:List Value) (ns:List Int),
   Ground q loose [] XP w s₀ mg mb s₁.heap->YP w s₁.heap ->
   s₁.heap.get? fa=some o->o.data = .func (docDef d.name d.params d.body d.scope pm cd doc)->s₁.heap.CodeRec cd d.name->mg d.name=some (.ref fa) ->
   s₁.heap.get? a=some { cls:=.type "list",data:=.seq vs.toArray }->IntsAre vs ns->ns.length<=n->s₁.gens = #[] ->
   codeAny (model l.prog w) callerA (.call (.ref fa) ⟨[.ref a],[]⟩) (fun r s'=>r = .ok (.ret (.bool true))∧OldK s₁.heap s'.heap∧s'.os=s₁.os∧AllBare s'.gens) s₁) :
  WalkO q loose XP YP l.row.toRowW d [] (fun f vs=>PySem.call f vs):=by
 intro w s₀ s₁ mg mb G Y fa o pm cd doc dV kV ho hd hcd hD hmg hg args vals as hpre hlay hrd hwl hlo
 obtain rfl:dV = .none:=Dflts.none hD hdf
 obtain rfl:kV = .none:=Dflts.noKw hD
 obtain ⟨a,vs,ns,rfl,rfl,hobj,hints,hlen⟩:=script_of hn hpre hwl
 refine enter_call (codeAny_mono (call w s₀ s₁ mg mb fa o pm cd doc a vs ns G Y ho (fd_plain hd) hcd hmg hobj hints hlen hg) fun r s' hq=>?_)
 obtain ⟨rfl,h2,h3,h4⟩:=hq
 exact ⟨.inl ⟨.bool true,.bool true,[],rfl,fun _=>rfl,.bool true,post_true l _,fun _=>⟨List.Pairwise.nil,fun _ hm=>(nomatch hm)⟩⟩,h2,h3,h4⟩
section
variable {prog:Program}{w:World}{A:Around}{E:Value->Shared->Prop}{s:Shared}{K:Frag}
end
end Att
namespace L2
open PySem PySem.Spec PyProof.Rows
theorem vals_ints:∀ {vs:List Value} {ns:List Int},IntsAre vs ns->Vals (ns.map V.int) vs
 | _,_,.nil=>.nil
 | _,_,.cons n t h=>.cons ⟨t,rfl⟩ (vals_ints h)
def Only (H:Hp):Prop:=∀ b,H b=none∨∃ o xs,H b=some (.frz o (.lst xs))
theorem law_call {P:Program}{w:World}{K:PySem.W.Frag}{mg mb:Str->Option Value}{CX:CXT}{k:Nat}{fa a:Addr}{fd:FuncData}{x:Str}{sp:Sp}{s₁:Shared}{vs:List Value}{ns:List Int}
  (KX:K.In s₁.heap) (hns:s₁.heap.Ns mainGlobals mg) (hb:s₁.heap.Ns builtinsNs mb) (hbb:∀ x:Str,x ≠ "__name__" -> mb x=bootBuiltins x) (hlim:s₁.heap.NoLimit) (hg:s₁.gens = #[])
  (ha:s₁.heap.get? a=some { cls:=.type "list",data:=.seq vs.toArray }) (hi:IntsAre vs ns) (hl:ns.length<=sizeLine) (hr:Room k callerA)
  (F:∀ base:Heap,K.In base->base.Ns mainGlobals mg->FnOk P w K mg base CX k fa fd [x] sp) (hbind:∀ (s:Shared) (u:Value),BindsTo s fd ⟨[u],[]⟩ [(x,u)])
  (hsp:∀ H:Hp,Only H->SqL K H a (ns.map V.int)->sp [.ref a] H (fun v _=>v = .bl true) fun _ _ _=>False)
  (hCX:∀ H e s',CX [] H s₁ (fun _ _ _=>False) e s'->False) :
  codeAny (model P w) callerA (.call (.ref fa) ⟨[.ref a],[]⟩) (fun r s'=>r = .ok (.ret (.bool true))∧OldK s₁.heap s'.heap∧s'.os=s₁.os∧AllBare s'.gens) s₁:=by
 have rv:=vals_ints hi
 have lenV:=hi.length
 have core:∀ H:Hp,Only H->SqL K H a (ns.map V.int)->HOk P w H s₁.heap->(∀ b,H b≠none->b=a)->(H a≠none->K.lookup a=none) ->
   codeAny (model P w) callerA (.call (.ref fa) ⟨[.ref a],[]⟩) (fun r s'=>r = .ok (.ret (.bool true))∧OldK s₁.heap s'.heap∧s'.os=s₁.os∧AllBare s'.gens) s₁:=by
  intro H hO hS hok hA hK
  have base_of:∀ {b:Addr} {o:Obj},s₁.heap.get? b=some o->H b=none->(hidT s₁.heap H).get? b=some o:=fun e n=>hidT_get e n
  have noA:∀ {b:Addr} {o:Obj} {es:Array DictEntry} {ep:Nat},s₁.heap.get? b=some o->o.data = .dict es ep->H b=none:=fun {b o es ep} e d=>by
   cases q:H b with
   | none=>rfl
   | some u =>
    have e':b=a:=hA b (by rw [q];simp)
    subst e'
    rw [ha] at e;cases e
    have d':Data.seq vs.toArray _=Data.dict es ep:=d
    cases d'
  have nsK:∀ {b:Addr} {m:Str->Option Value},s₁.heap.Ns b m->(hidT s₁.heap H).Ns b m:=fun {b m} ⟨o,es,ep,e,d,r⟩=>⟨o,es,ep,base_of e (noA e d),d,r⟩
  have hKb:K.In (hidT s₁.heap H):=fun b o e=>base_of (KX b o e) (by
   cases q:H b with
   | none=>rfl
   | some u =>
    have e':b=a:=hA b (by rw [q];simp)
    subst e'
    rw [hK (by rw [q];simp)] at e;cases e)
  have hM:Mod K mg (hidT s₁.heap H):=⟨hKb,nsK hns,⟨mb,nsK hb,hbb⟩,let ⟨mc,h1,h2⟩:=hlim;⟨mc,nsK h1,h2⟩⟩
  have e0:Env0 P w K mg (hidT s₁.heap H) callerA [] s₁ H:=⟨rfl,hM,fun b o e=>of_hidT e,Nat.le_of_eq (hidT_size _ _),trivial,fun b hb=>absurd (show b∈([]:List Addr) from hb) (by simp),hok,.of_eq hg⟩
  refine codeAny_mono ((F _ hKb (nsK hns)).run callerA [] s₁ H ⟨[.ref a],[]⟩ [.ref a] [.ref a] _ _ hr e0 (hbind s₁ (.ref a)) (.cons rfl .nil) (hsp H hO hS)) fun r s' h=>?_
  cases r with
  | error e=>exact (hCX H e s' h).elim
  | ok fl =>
   cases fl with
   | next=>exact False.elim h
   | brk=>exact False.elim h
   | cont=>exact False.elim h
   | ret u =>
    obtain ⟨v,H',os,bare,un,hok',r',q⟩:=h
    have q':v = .bl true:=q
    subst q'
    obtain rfl:u=Value.bool true:=r'
    refine ⟨rfl,OldK.of_keep fun b o e=>?_,os,bare⟩
    cases q:H b with
    | none=>exact un.keep b o e q (by intro z;exact absurd (show b∈([]:List Addr) from z) (by simp)) (by simp)
    | some u =>
     rcases hO b with z | ⟨ob,xs,z⟩
     ·rw [q] at z;cases z
     ·have z2:=un.frzs b ob _ z
      obtain ⟨e1,_⟩:=hok b _ z
      obtain ⟨e2,_⟩:=hok' b _ z2
      rw [e] at e1;cases e1
      exact e2
 cases hk:K.lookup a with
 | some o =>
  have e:=KX a o hk
  rw [ha] at e
  cases e
  refine core (fun _=>none) (fun _=>.inl rfl) (.inr ⟨_,vs.toArray,_,hk,rfl,rfl,rfl,by rw [List.size_toArray,lenV];exact hl,by simpa using rv⟩) (fun b u z=>by have z':(none:Option HO)=some u:=z;cases z') (fun b z=>absurd rfl z) fun z=>absurd rfl z
 | none =>
  refine core (fun b=>if b=a then some (.frz { cls:=.type "list",data:=.seq vs.toArray } (.lst (ns.map V.int))) else none) (fun b=>?_) (.inl (.inr ⟨{ cls:=.type "list",data:=.seq vs.toArray },if_pos rfl⟩)) (fun b u z=>?_) (fun b z=>?_) fun _=>hk
  ·by_cases hb:b=a
   ·exact .inr ⟨_,_,if_pos hb⟩
   ·exact .inl (if_neg hb)
  ·by_cases hb:b=a
   ·have z':=(if_pos hb).symm.trans z
    cases z'
    subst hb
    exact ⟨ha,by rw [List.length_map];exact hl,vs,_,rv,ha⟩
   ·have z':=(if_neg hb).symm.trans z
    cases z'
  ·by_cases hb:b=a
   ·exact hb
   ·exact absurd (if_neg hb) z
end L2
namespace L2
open PySem PySem.Spec PyProof.Rows
theorem walk_of {l:PySem.W.OpenLaw}{n k:Nat}{q:Program}{loose:List Str}{XP:(Str->Option Value)->Heap->Prop}{YP:World->Heap->Prop}{d:DefRec}{K:Params->PySem.W.Frag}{CX:World->CXT}{sp:World->Sp}{x:Str}
  (hn:l.most=some n) (hn2:n<=sizeLine) (hdf:d.params.defaults=[]) (hr:Room k callerA)
  (hY:∀ (w:World) (h:Heap),YP w h->(K w.params).In h)
  (F:∀ (w:World) (mg:Str->Option Value) (fa:Addr) (h:Heap),(K w.params).In h->h.Ns mainGlobals mg->mg d.name=some (.ref fa) ->
   ∃ fd:FuncData,(∀ (s:Shared) (u:Value),BindsTo s fd ⟨[u],[]⟩ [(x,u)]) ∧
    ∀ base:Heap,(K w.params).In base->base.Ns mainGlobals mg->FnOk l.prog w (K w.params) mg base (CX w) k fa fd [x] (sp w))
  (hsp:∀ (w:World) (H:Hp) (a:Addr) (ns:List Int),ns.length<=n->Only H->SqL (K w.params) H a (ns.map V.int)->sp w [.ref a] H (fun v _=>v = .bl true) fun _ _ _=>False)
  (hCX:∀ (w:World) (H:Hp) (s:Shared) (e:Value) (s':Shared),CX w [] H s (fun _ _ _=>False) e s'->False) :
  PySem.W.WalkO q loose XP YP l.row.toRowW d [] (fun f vs=>PySem.call f vs):=by
 refine Att.attach_call hn hdf fun w s₀ s₁ mg mb fa o pm cd doc a vs ns G Y ho hd hcd hmg hobj hints hlen hg=>?_
 have KX:=hY w _ Y
 obtain ⟨fd,hb,hF⟩:=F w mg fa _ KX G.T.g hmg
 exact law_call KX G.T.g G.T.b G.T.builtins G.T.nolimit hg hobj hints (Nat.le_trans hlen hn2) hr hF hb (fun H hO hS=>hsp w H a ns hlen hO hS) fun H e s'=>hCX w H s₁ e s'
end L2
namespace L2
open PySem PySem.Spec PyProof.Rows
def inClass (s:Stmt)(j:Nat):Stmt:=match s with
 | .ClassDef _ _ _ body _ _ _ _ _ _ _=>body.getD j (.Pass ⟨0,0,0,0⟩)
 | _=>.Pass ⟨0,0,0,0⟩
def defArgs (s:Stmt):Arguments:=match s with
 | .FunctionDef _ a _ _ _ _ _ _ _ _=>a
 | _=>{ posonlyargs:=[],args:=[],vararg:=none,kwonlyargs:=[],kw_defaults:=[],kwarg:=none,defaults:=[] }
def defBody (s:Stmt):List Stmt:=match s with
 | .FunctionDef _ _ b _ _ _ _ _ _ _=>b
 | _=>[]
def defScope (s:Stmt):Scope:=match s with
 | .FunctionDef _ _ _ _ _ _ sc _ _ _=>sc
 | _=>{ kind:=.function,names:=[],isGenerator:=false,isCoroutine:=false }
abbrev E0:XK:=fun _ _ _=>False
set_option genInjectivity false in
structure Fun (K:PySem.W.Frag)(x qual:Str)(st:Stmt)(f:Addr)(fd:FuncData):Prop where
 ex:∃ (oc:Value) (od:Option Addr) (kV doc pm:Value) (an:Option Addr) (cdv ct:Value) (osl:Array (Option Value)),
  fd=PySem.W.fnOf x qual (defArgs st) (defBody st) (defScope st) .none kV doc pm an cdv ct∧K.lookup f=some ⟨oc,od,.func fd,osl⟩∧PySem.W.codeIn K cdv qual=true
 kp:PySem.W.keepIn K (.ref f)=true
section
variable {P:Program}{w:World}{K:PySem.W.Frag}{mg:Str->Option Value}{base:Heap}
theorem Fun.binds {x qual:Str}{st:Stmt}{f:Addr}{fd:FuncData}{ps:List Str}(F:Fun K x qual st f fd)
  (h:∀ (kV doc pm:Value) (an:Option Addr) (cdv ct:Value) (us:List Value),us.length=ps.length->bindArgs (PySem.W.fnOf x qual (defArgs st) (defBody st) (defScope st) .none kV doc pm an cdv ct) ⟨us,[]⟩=pure (ps.zip us)):Binds K fd ps []:=by
 obtain ⟨oc,od,kV,doc,pm,an,cdv,ct,osl,rfl,lk,hcd⟩:=F.ex
 exact .all (h kV doc pm an cdv ct)
theorem fun_mk {x qual:Str}{st:Stmt}{f:Addr}{oc:Value}{od an:Option Addr}{osl:Array (Option Value)}{kV doc pm cdv ct:Value}(l:K.lookup f=some ⟨oc,od,.func (PySem.W.fnOf x qual (defArgs st) (defBody st) (defScope st) .none kV doc pm an cdv ct),osl⟩)
 (c:PySem.W.codeIn K cdv qual=true) (k:PySem.W.keepIn K (.ref f)=true):Fun K x qual st f (PySem.W.fnOf x qual (defArgs st) (defBody st) (defScope st) .none kV doc pm an cdv ct):=⟨⟨oc,od,kV,doc,pm,an,cdv,ct,osl,rfl,l,c⟩,k⟩
end
theorem hu_of {A:Around}{k:Nat}(hr:Room k A):A.units+1<cLine:=Nat.lt_of_le_of_lt (Nat.add_le_add_left (by decide:1<=64) _) hr.units
section
variable {X:Cx}
theorem pv (i:Nat){x:Str}{pos:Pos}(hN:X.N[i]?=some x:=by rfl)(hv:Vis X.env.scope x:=by first | exact Or.inl rfl | exact Or.inr (Or.inl rfl) | exact Or.inr (Or.inr rfl))(hd:(x==("__debug__" : Str))=false:=by decide)
 (hcd:(x==("__classdict__" : Str))=false:=by decide):PE X (.Name x pos) (tVar i):=pe_var hN hv hd hcd
end
theorem iteF {A B:Prop}(h:B):if false=true then A else B:=by
 rw [if_neg Bool.false_ne_true]
 exact h
theorem iteT {A B:Prop}(h:A):if true=true then A else B:=by
 rw [if_pos rfl]
 exact h
theorem ite2 {c A B:Prop}[Decidable c](h1:c->A)(h2:¬ c->B):if c then A else B:=by
 by_cases h:c
 ·rw [if_pos h]
  exact h1 h
 ·rw [if_neg h]
  exact h2 h
theorem iteNS {c A B:Prop}[Decidable c](hc:c)(h:B):if (!decide c)=true then A else B:=by
 rw [decide_eq_true hc]
 exact iteF h
def Same (H H':Hp):Prop:=∀ b o,H b=some o->H' b=some o
theorem Same.refl (H:Hp):Same H H:=fun _ _ h=>h
theorem Same.trans {H H1 H2:Hp}(a:Same H H1)(b:Same H1 H2):Same H H2:=fun c o h=>b c o (a c o h)
theorem Same.seq {K:PySem.W.Frag}{H H':Hp}{a:Addr}{xs:List V}(e:Same H H')(h:SqL K H a xs):SqL K H' a xs:=by
 rcases h with (h | ⟨o,h⟩) | h
 ·exact .inl (.inl (e _ _ h))
 ·exact .inl (.inr ⟨o,e _ _ h⟩)
 ·exact .inr h
end L2
namespace Wd
abbrev W:=List Nat
theorem lele {a b c:W}(h:¬ b<a)(h':¬ c<b):¬ c<a:=fun hc=>List.not_lt.mpr (List.le_trans (List.not_lt.mp h) (List.not_lt.mp h')) hc
def rot (k:Nat)(w:W):W:=w.drop k++w.take k
theorem ext_get {a b:W}(hl:a.length=b.length)(h:∀ i,i<a.length->a[i]?=b[i]?):a=b:=by
 apply List.ext_getElem? 
 intro i
 by_cases hi:i<a.length
 ·exact h i hi
 ·rw [List.getElem?_eq_none (by omega),List.getElem?_eq_none (by omega)]
def leastTo (w:W):Nat->W
 | 0=>w
 | n+1=>if rot (n+1) w<leastTo w n then rot (n+1) w else leastTo w n
def least (w:W):W:=leastTo w (w.length-1)
end Wd
namespace Wd
def Prime (w:W):Prop:=w≠[]∧∀ k,0<k->k<w.length->w<rot k w
end Wd
namespace Wd
def rep (n:Nat)(l:W):W:=(List.replicate n l).flatten
theorem rep_succ (n:Nat)(l:W):rep (n+1) l=l++rep n l:=by unfold rep;rw [List.replicate_succ,List.flatten_cons]
theorem rep_zero (l:W):rep 0 l=[]:=rfl
theorem rep_one (l:W):rep 1 l=l:=by rw [rep_succ,rep_zero,List.append_nil]
theorem rep_len (n:Nat)(l:W):(rep n l).length=n*l.length:=by
 induction n with
 | zero=>rw [rep_zero,Nat.zero_mul];rfl
 | succ n ih=>rw [rep_succ,List.length_append,ih,Nat.succ_mul,Nat.add_comm]
theorem rep_get {l:W}{n i:Nat}(h:i<n*l.length):(rep n l)[i]?=l[i % l.length]?:=by
 induction n generalizing i with
 | zero=>rw [Nat.zero_mul] at h;omega
 | succ n ih =>
  rw [rep_succ]
  rw [Nat.succ_mul] at h
  by_cases hi:i<l.length
  ·rw [List.getElem?_append_left hi,Nat.mod_eq_of_lt hi]
  ·rw [List.getElem?_append_right (by omega),ih (by omega)]
   congr 1
   rw [<- Nat.mod_eq_sub_mod (by omega)]
end Wd
namespace Wd
end Wd
namespace Wd
end Wd
namespace Dt
abbrev Mx:=Nat->Nat->Int
def sg (j:Nat):Int:=if j % 2=0 then 1 else -1
section
variable {n N p q i j k l:Nat}{A B:Mx}{f g:Nat->Int}{c m:Int}
def tr (p i:Nat):Nat:=if i=p then p+1 else if i=p+1 then p else i
def mv (p:Nat)(A:Mx):Mx:=fun i k=>if i=0 then A p k else if i<=p then A (i-1) k else A i k
end
end Dt
namespace Dt
def sN:Nat->(Nat->Nat)->Nat
 | 0,_=>0
 | n+1,f=>sN n f+f n
section
variable {n N p q i j k l:Nat}{A B:Mx}{f g:Nat->Nat}{c m:Int}
end
end Dt
namespace Wd
def ringAt (t:W)(n i:Nat):W:=(List.range n).map fun k=>t.getD ((i+k) % t.length) 0
theorem ringAt_len (t:W)(n i:Nat):(ringAt t n i).length=n:=by rw [ringAt,List.length_map,List.length_range]
theorem ringAt_get {t:W}{n i k:Nat}(h:k<n)(ht:0<t.length):(ringAt t n i)[k]?=t[(i+k) % t.length]?:=by
 rw [ringAt,List.getElem?_map,List.getElem?_range h]
 show some (t.getD ((i+k) % t.length) 0)=_
 rw [List.getD_eq_getElem?_getD,List.getElem?_eq_getElem (Nat.mod_lt _ ht)]
 rfl
theorem row_at {t:W}{n i:Nat}(h:i+n<=t.length):(t.drop i).take n=ringAt t n i:=by
 apply ext_get
 ·rw [List.length_take,List.length_drop,ringAt_len]
  omega
 ·intro k hk
  rw [List.length_take,List.length_drop] at hk
  rw [List.getElem?_take_of_lt (by omega),List.getElem?_drop,ringAt_get (by omega) (by omega),Nat.mod_eq_of_lt (by omega)]
theorem ring_at {t:W}{n i c:Nat}(h:i+n<=c*t.length)(ht:0<t.length):((rep c t).drop i).take n=ringAt t n i:=by
 apply ext_get
 ·rw [List.length_take,List.length_drop,rep_len,ringAt_len]
  omega
 ·intro k hk
  rw [List.length_take,List.length_drop,rep_len] at hk
  rw [List.getElem?_take_of_lt (by omega),List.getElem?_drop,ringAt_get (by omega) ht,rep_get (by omega)]
def rowW (t:W)(n:Nat):List W:=(List.range (t.length+1-n)).map (ringAt t n)
def ringW (t:W)(n:Nat):List W:=(List.range t.length).map (ringAt t n)
def win (t:W)(n:Nat)(b:Bool):List W:=if b=true then ringW t n else rowW t n
theorem ringW_len (t:W)(n:Nat):(ringW t n).length=t.length:=by rw [ringW,List.length_map,List.length_range]
end Wd
namespace Wd
theorem ringW_get {t:W}{n i:Nat}(h:i<t.length):(ringW t n)[i]?=some (ringAt t n i):=by
 rw [ringW,List.getElem?_map,List.getElem?_range h];rfl
theorem sorted_same:∀ {xs ys:List W},xs.Perm ys->xs.Pairwise (fun a b=>¬ b<a)->ys.Pairwise (fun a b=>¬ b<a)->xs=ys:=by
 intro xs ys h h1 h2
 refine List.Perm.eq_of_pairwise ?_ h1 h2 h
 intro a b _ _ z1 z2
 exact Std.Trichotomous.trichotomous a b z2 z1
end Wd
namespace Hg
variable {bg en:List Nat->List Nat}
inductive Rch (bg en:List Nat->List Nat)(ms:List (List Nat))(p:List Nat):List Nat->Prop
 | self:Rch bg en ms p p
 | fw {w:List Nat}:w∈ms->Rch bg en ms p (bg w)->Rch bg en ms p (en w)
 | bw {w:List Nat}:w∈ms->Rch bg en ms p (en w)->Rch bg en ms p (bg w)
def Cl (bg en:List Nat->List Nat)(ls:List (List Nat))(w:List Nat):Prop:=bg w∈ls↔en w∈ls
theorem Rch.inside {ms ls:List (List Nat)}{p z:List Nat}(hp:p∈ls)(hc:∀ w∈ms,Cl bg en ls w)(h:Rch bg en ms p z):z∈ls:=by
 induction h with
 | self=>exact hp
 | fw hw _ ih=>exact (hc _ hw).mp ih
 | bw hw _ ih=>exact (hc _ hw).mpr ih
def addT (ls:List (List Nat))(t:List Nat):List (List Nat):=if t∈ls then ls else ls++[t]
theorem addT_mem {ls:List (List Nat)}{t z:List Nat}:z∈addT ls t↔z∈ls∨z=t:=by
 unfold addT
 split
 ·rename_i h
  exact ⟨.inl,fun g=>g.elim id fun e=>e▸h⟩
 ·rw [List.mem_append,List.mem_singleton]
theorem addT_nd {ls:List (List Nat)}{t:List Nat}(h:ls.Nodup):(addT ls t).Nodup:=by
 unfold addT
 split
 ·exact h
 ·rename_i g
  refine List.nodup_append.mpr ⟨h,by simp,fun a ha b hb e=>?_⟩
  rw [List.mem_singleton] at hb
  exact g (hb▸e▸ha)
theorem addT_pre (ls:List (List Nat))(t:List Nat):ls <+: addT ls t:=by
 unfold addT
 split
 ·exact List.prefix_refl _
 ·exact List.prefix_append ..
theorem addT_len (ls:List (List Nat))(t:List Nat):(addT ls t).length<=ls.length+1:=by
 unfold addT
 split
 ·omega
 ·simp
set_option genInjectivity false in
structure Pass (bg en:List Nat->List Nat)(ms:List (List Nat))(p:List Nat)(fs:List (List Nat))(i:Nat)(ls:List (List Nat)):Prop where
 nd:ls.Nodup
 pre:fs <+: ls
 rch:∀ z∈ls,Rch bg en ms p z
 cl:ls.length=fs.length->∀ w∈ms.take i,Cl bg en fs w
theorem Pass.zero {ms fs:List (List Nat)}{p:List Nat}(nd:fs.Nodup)(rch:∀ z∈fs,Rch bg en ms p z):Pass bg en ms p fs 0 fs:=⟨nd,List.prefix_refl _,rch,fun _ w hw=>by rw [List.take_zero] at hw;cases hw⟩
theorem take_mem {ms:List (List Nat)}{i:Nat}{w v:List Nat}(h:ms[i]?=some w)(hv:v∈ms.take (i+1)):v∈ms.take i∨v=w:=by
 rw [List.take_add_one,h,List.mem_append] at hv
 rcases hv with z | z
 ·exact .inl z
 ·exact .inr (by simpa using z)
theorem Pass.yes {ms fs ls:List (List Nat)}{p w:List Nat}{i:Nat}(h:Pass bg en ms p fs i ls)(hw:ms[i]?=some w)(hi:bg w∈ls∨en w∈ls):Pass bg en ms p fs (i+1) (addT (addT ls (bg w)) (en w)):=by
 have hm:=List.mem_of_getElem? hw
 have p1:=(addT_pre ls (bg w)).trans (addT_pre (addT ls (bg w)) (en w))
 refine ⟨addT_nd (addT_nd h.nd),h.pre.trans p1,fun z hz=>?_,fun e v hv=>?_⟩
 ·rw [addT_mem,addT_mem] at hz
  have hb:Rch bg en ms p (bg w)∧Rch bg en ms p (en w):=by
   rcases hi with g | g
   ·exact ⟨h.rch _ g,.fw hm (h.rch _ g)⟩
   ·exact ⟨.bw hm (h.rch _ g),h.rch _ g⟩
  rcases hz with (z | rfl) | rfl
  ·exact h.rch _ z
  ·exact hb.1
  ·exact hb.2
 ·have l1:=h.pre.length_le
  have l2:=p1.length_le
  have e1:ls.length=fs.length:=by omega
  rcases take_mem hw hv with g | rfl
  ·exact h.cl e1 v g
  ·have q1:=h.pre.eq_of_length (by omega)
   have q2:=p1.eq_of_length (by omega)
   subst q1
   have m1:bg v∈fs:=by rw [q2,addT_mem,addT_mem];exact .inl (.inr rfl)
   have m2:en v∈fs:=by rw [q2,addT_mem];exact .inr rfl
   exact ⟨fun _=>m2,fun _=>m1⟩
theorem Pass.no {ms fs ls:List (List Nat)}{p w:List Nat}{i:Nat}(h:Pass bg en ms p fs i ls)(hw:ms[i]?=some w)(h1:¬ bg w∈ls)(h2:¬ en w∈ls):Pass bg en ms p fs (i+1) ls:=by
 refine ⟨h.nd,h.pre,h.rch,fun e v hv=>?_⟩
 rcases take_mem hw hv with g | rfl
 ·exact h.cl e v g
 ·exact ⟨fun z=>absurd (h.pre.subset z) h1,fun z=>absurd (h.pre.subset z) h2⟩
def allP (bg en:List Nat->List Nat)(ms:List (List Nat)):List (List Nat):=ms.map bg++ms.map en
theorem rch_in {ms:List (List Nat)}{p z:List Nat}(h:Rch bg en ms p z):z=p∨z∈allP bg en ms:=by
 cases h with
 | self=>exact .inl rfl
 | fw hw _=>exact .inr (List.mem_append.mpr (.inr (List.mem_map_of_mem hw)))
 | bw hw _=>exact .inr (List.mem_append.mpr (.inl (List.mem_map_of_mem hw)))
theorem nd_len {α:Type}[BEq α][LawfulBEq α]:∀ {ls ms:List α},ls.Nodup->(∀ z∈ls,z∈ms)->ls.length<=ms.length
 | [],_,_,_=>Nat.zero_le _
 | a::ls,ms,h,hs=>by
  rw [List.nodup_cons] at h
  have ha:=hs a (List.mem_cons_self ..)
  have ih:=nd_len (ls:=ls) (ms:=ms.erase a) h.2 fun z hz=>(List.mem_erase_of_ne (fun e:z=a=>h.1 (e▸hz))).mpr (hs z (List.mem_cons_of_mem _ hz))
  have:=List.length_erase_of_mem ha
  have:=List.length_pos_of_mem ha
  rw [List.length_cons]
  omega
theorem len_le {ms ls:List (List Nat)}{p:List Nat}(h:ls.Nodup)(hr:∀ z∈ls,Rch bg en ms p z):ls.length<=2*ms.length+1:=by
 have:=nd_len (ms:=p::allP bg en ms) h fun z hz=>List.mem_cons.mpr (rch_in (hr z hz))
 unfold allP at this
 rw [List.length_cons,List.length_append,List.length_map,List.length_map] at this
 omega
end Hg
namespace Dt
section
variable {N F b d e n:Nat}
def pm (N:Nat):Nat->Nat->Nat->Nat
 | 0,_,_=>1 % N
 | f+1,b,e=>if e=0 then 1 % N else if e % 2=1 then b*pm N f (b*b % N) (e/2) % N else pm N f (b*b % N) (e/2)
end
end Dt
namespace Dt
section
variable {N F b d e n:Nat}
end
end Dt
namespace Dt
end Dt
namespace Dt
def rs (n:Nat)(r:List Int):Nat:=sN n fun k=>(r.getD k 0).natAbs
def kn:List Nat:=[133,211,598,652,721,850,1282]
end Dt
namespace Dt
section
variable {n m p q i j k l:Nat}{A B T U:Mx}{f g:Nat->Int}{c:Nat->Int}
end
end Dt
namespace Dt
section
variable {n i j k l m:Nat}{A B:Mx}{f:Nat->Nat}{c:Int}
def un (i k:Nat):Int:=if k=i then 1 else 0
end
end Dt
namespace Dt
def rowW (n i w:Nat):Nat->Int:=fun k=>un i k-if w<n then un w k else 0
section
variable {n m i:Nat}{A:Mx}{Ws:Nat->List Nat}{c:List Nat}
def goF (n:Nat)(c:List Nat)(i:Nat):Nat:=if i<n then c.getD i n else i
def goN (n:Nat)(c:List Nat):Nat->Nat->Nat
 | 0,i=>i
 | k+1,i=>goF n c (goN n c k i)
def comes (n:Nat)(c:List Nat):Prop:=∀ i,i<n->¬ goN n c n i<n
end
end Dt
namespace Dt
def cE (words:List (List Nat))(o:List Nat):Int:=((words.countP fun w=>decide (w.drop 1=o):Nat):Int)
def rI (texts:List (List Nat))(t:List Nat)(words:List (List Nat)):List Int:=texts.map fun o=>if o=t then ((words.length:Nat):Int)-cE words t else-cE words o
end Dt
namespace Dt
def sT (ls:List (List Nat))(cw:List Nat->List Nat)(t:List Nat):List Nat:=if t∈ls then (cw t).drop 1 else t
def iT (ls:List (List Nat))(cw:List Nat->List Nat):Nat->List Nat->List Nat
 | 0,t=>t
 | k+1,t=>sT ls cw (iT ls cw k t)
end Dt
namespace Dt
inductive R2 {α β:Type}(R:α->β->Prop):List α->List β->Prop
 | nil:R2 R [] []
 | cons {a:α} {b:β} {as:List α} {bs:List β}:R a b->R2 R as bs->R2 R (a::as) (b::bs)
section
variable {α β:Type}{R R':α->β->Prop}{as:List α}{bs:List β}
theorem R2.len (h:R2 R as bs):as.length=bs.length:=by
 induction h with
 | nil=>rfl
 | cons _ _ ih=>rw [List.length_cons,List.length_cons,ih]
theorem R2.mono (h:R2 R as bs)(f:∀ a b,a∈as->R a b->R' a b):R2 R' as bs:=by
 induction h with
 | nil=>exact .nil
 | cons r _ ih=>exact .cons (f _ _ (List.mem_cons_self ..) r) (ih fun a b ha=>f a b (List.mem_cons_of_mem _ ha))
theorem R2.get (h:R2 R as bs):∀ {i:Nat} {b:β},bs[i]?=some b->∃ a,as[i]?=some a∧R a b:=by
 induction h with
 | nil=>intro i b e;simp at e
 | cons r _ ih =>
  intro i b e
  cases i with
  | zero=>rw [List.getElem?_cons_zero] at e;cases e;exact ⟨_,rfl,r⟩
  | succ i=>rw [List.getElem?_cons_succ] at e;rw [List.getElem?_cons_succ];exact ih e
theorem R2.snoc {a:α}{b:β}(h:R2 R as bs)(r:R a b):R2 R (as++[a]) (bs++[b]):=by
 induction h with
 | nil=>exact .cons r .nil
 | cons r' _ ih=>exact .cons r' ih
end
abbrev W:=List Nat
def cmT (ls:List W)(cw:W->W):Bool:=ls.all fun t=>decide (iT ls cw ls.length t∉ls)
end Dt
namespace Hg
variable {bg en:List Nat->List Nat}
def Tr (bg en:List Nat->List Nat):List Nat->List (List Nat)->List Nat->Prop
 | p,[],q=>p=q
 | p,w::ws,q=>bg w=p∧Tr bg en (en w) ws q
theorem Tr.snoc {w:List Nat}:∀ {ws:List (List Nat)} {p:List Nat},Tr bg en p ws (bg w)->Tr bg en p (ws++[w]) (en w)
 | [],_,h=>⟨h.symm,rfl⟩
 | _::_,_,h=>⟨h.1,Tr.snoc h.2⟩
theorem Tr.take:∀ {ws:List (List Nat)} {p q:List Nat} (k:Nat),Tr bg en p ws q->∃ r,Tr bg en p (ws.take k) r
 | _,p,_,0,_=>⟨p,by rw [List.take_zero];rfl⟩
 | [],p,_,_+1,_=>⟨p,rfl⟩
 | _::ws,_,_,k+1,h=>by
  obtain ⟨r,hr⟩:=Tr.take k h.2
  exact ⟨r,h.1,hr⟩
theorem Tr.last {w:List Nat}:∀ {ws:List (List Nat)} {p q:List Nat},Tr bg en p ws q->ws[ws.length-1]?=some w->q=en w
 | [],_,_,_,e=>by simp at e
 | [v],_,_,h,e=>by
  have e':v=w:=by simpa using e
  rw [<- e']
  exact h.2.symm
 | _::v::ws,_,_,h,e=>Tr.last (ws:=v::ws) h.2 (by simpa using e)
theorem Tr.exc (χ:List Nat->Bool):∀ {ws:List (List Nat)} {p q:List Nat},Tr bg en p ws q->((ws.filter fun l=>χ (bg l)).length:Int)-((ws.filter fun l=>χ (en l)).length:Int)=(if χ p then 1 else 0)-(if χ q then 1 else 0)
 | [],p,q,h=>by
  cases h
  simp
 | w::ws,p,q,h=>by
  have ih:=Tr.exc χ h.2
  rw [List.filter_cons,List.filter_cons,h.1]
  by_cases h1:χ p <;> by_cases h2:χ (en w) <;> simp [h1,h2] at ih ⊢ <;> omega
theorem Tr.rch {ms:List (List Nat)}{p:List Nat}:∀ {ws:List (List Nat)} {r q:List Nat},Tr bg en r ws q->(∀ w∈ws,w∈ms)->Rch bg en ms p r->∀ w∈ws,Rch bg en ms p (bg w)∧Rch bg en ms p (en w)
 | v::ws,r,q,h,hs,hr,w,hw=>by
  have h1:Rch bg en ms p (bg v):=by rw [h.1];exact hr
  have h2:Rch bg en ms p (en v):=.fw (hs v (List.mem_cons_self ..)) h1
  rcases List.mem_cons.mp hw with rfl | hw
  ·exact ⟨h1,h2⟩
  ·exact Tr.rch h.2 (fun w hw=>hs w (List.mem_cons_of_mem _ hw)) h2 w hw
theorem Rch.trans {ms:List (List Nat)}{p z y:List Nat}(h1:Rch bg en ms p z)(h2:Rch bg en ms z y):Rch bg en ms p y:=by
 induction h2 with
 | self=>exact h1
 | fw hw _ ih=>exact .fw hw ih
 | bw hw _ ih=>exact .bw hw ih
theorem Rch.symm {ms:List (List Nat)}{p z:List Nat}(h:Rch bg en ms p z):Rch bg en ms z p:=by
 induction h with
 | self=>exact .self
 | fw hw _ ih=>exact (Rch.bw hw .self).trans ih
 | bw hw _ ih=>exact (Rch.fw hw .self).trans ih
end Hg
namespace Wd
def spell (k:Nat):Nat->Nat->W
 | 0,_=>[]
 | n+1,N=>spell k n (N/k)++[97+N % k]
def num (k:Nat)(w:W):Nat:=w.foldl (fun a c=>a*k+(c-97)) 0
def allW (k n:Nat):List W:=(List.range (k ^ n)).map (spell k n)
end Wd
namespace Wd
def Okk (k:Nat)(w:W):Prop:=∀ c∈w,97<=c∧c<97+k
def Lst (w:W):Prop:=w=least w
def fill (k n:Nat)(p:W):W:=p++List.replicate (n-p.length) (96+k)
instance (w:W):Decidable (Lst w):=inferInstanceAs (Decidable (w=least w))
set_option genInjectivity false in
structure LW (k n:Nat)(w:W):Prop where
 len:w.length=n
 ok:Okk k w
 lst:Lst w
end Wd
namespace Wd
def Nn (k:Nat)(w:W)(m:Nat):Prop:=∀ v,LW k w.length v->∀ p,m<=p->p<w.length->v.take p=w.take p->¬ w.getD p 0<v.getD p 0
end Wd
namespace Wd
end Wd
namespace Wd
end Wd
namespace Wd
theorem nodup_le:∀ (a b:List W),a.Nodup->(∀ x∈a,x∈b)->a.length<=b.length
 | [],b,_,_=>Nat.zero_le _
 | x::a,b,hn,hs=>by
  obtain ⟨h1,h2⟩:=List.nodup_cons.mp hn
  have hx:x∈b:=hs x List.mem_cons_self
  have:=nodup_le a (b.erase x) h2 fun y hy=>(List.mem_erase_of_ne (fun e=>h1 (by rw [<- e];exact hy))).mpr (hs y (List.mem_cons_of_mem _ hy))
  rw [List.length_erase_of_mem hx] at this
  have hp:0<b.length:=List.length_pos_of_mem hx
  rw [List.length_cons]
  omega
end Wd
namespace Wd
end Wd
namespace Wd
section
variable {k n:Nat}{t:W}
theorem full {a b:List W}(hn:a.Nodup)(hs:∀ x∈a,x∈b)(hl:b.length<=a.length){x:W}(hx:x∈b):x∈a:=by
 refine Classical.byContradiction fun hno=>?_
 have:=nodup_le (x::a) b (List.nodup_cons.mpr ⟨hno,hn⟩) fun y hy=>by
  rcases List.mem_cons.mp hy with rfl | hy
  ·exact hx
  ·exact hs y hy
 rw [List.length_cons] at this
 omega
end
end Wd
namespace Wd
open Hg
def beg (l:W):W:=l.take (l.length-1)
def fin (l:W):W:=l.drop 1
theorem Tr.app {p r q:W}:∀ {xs ys:List W} {p:W},Tr beg fin p xs r->Tr beg fin r ys q->Tr beg fin p (xs++ys) q
 | [],_,_,h,g=>by cases h;exact g
 | x::xs,_,_,h,g=>⟨h.1,Tr.app (p:=p) h.2 g⟩
def sl (t:W)(i j:Nat):W:=(t.drop i).take (j-i)
def hd (w:W):Nat:=w.getD 0 0
theorem tr_get {p q:W}:∀ {us:List W} {p:W} {i:Nat},Tr beg fin p us q->i<us.length->(∃ w,us[i]?=some w∧fin w=if h:i+1<us.length then beg us[i+1] else q):=by
 intro us
 induction us with
 | nil=>intro p i _ h;exact absurd h (Nat.not_lt_zero _)
 | cons u r ih =>
  intro p' i h hi
  cases i with
  | zero =>
   refine ⟨u,rfl,?_⟩
   cases r with
   | nil =>
    rw [dif_neg (by simp)]
    exact h.2
   | cons v r' =>
    rw [dif_pos (by simp)]
    exact h.2.1.symm
  | succ i =>
   obtain ⟨w,e1,e2⟩:=ih (i:=i) h.2 (by simpa using hi)
   refine ⟨w,by rw [List.getElem?_cons_succ];exact e1,?_⟩
   rw [e2]
   by_cases hh:i+1<r.length
   ·rw [dif_pos hh,dif_pos (by simpa using hh)]
    rfl
   ·rw [dif_neg hh,dif_neg (by simpa using hh)]
theorem ring_tr {us:List W}{p:W}{n:Nat}(hn:1<=n)(hl:∀ w∈us,w.length=n)(h:Tr beg fin p us p):ringW (us.map hd) n=us:=by
 rcases Nat.eq_zero_or_pos us.length with h0 | h0
 ·rw [List.length_eq_zero_iff.mp h0];rfl
 have nx:∀ i,i<us.length->∃ w v,us[i]?=some w∧us[(i+1) % us.length]?=some v∧fin w=beg v:=fun i hi=>by
  obtain ⟨w,e1,e2⟩:=tr_get (p:=p) h hi
  by_cases hh:i+1<us.length
  ·rw [dif_pos hh] at e2
   exact ⟨w,_,e1,by rw [Nat.mod_eq_of_lt hh];exact List.getElem?_eq_getElem hh,e2⟩
  ·rw [dif_neg hh] at e2
   refine ⟨w,us[0],e1,by rw [show i+1=us.length by omega,Nat.mod_self];exact List.getElem?_eq_getElem h0,?_⟩
   rw [e2]
   cases us with
   | nil=>exact absurd h0 (Nat.not_lt_zero _)
   | cons u r=>exact h.1.symm
 have key:∀ k i w,k<n->i<us.length->us[i]?=some w->∃ v,us[(i+k) % us.length]?=some v∧w[k]?=some (hd v):=by
  intro k
  induction k with
  | zero =>
   intro i w _ hi e
   refine ⟨w,by rw [Nat.add_zero,Nat.mod_eq_of_lt hi];exact e,?_⟩
   have hw:=hl w (List.mem_of_getElem? e)
   unfold hd
   rw [List.getD_eq_getElem?_getD,List.getElem?_eq_getElem (by omega)]
   rfl
  | succ k ih =>
   intro i w hk hi e
   obtain ⟨w',v,e1,e2,e3⟩:=nx i hi
   rw [e] at e1
   cases e1
   have hv:=hl v (List.mem_of_getElem? e2)
   obtain ⟨x,g1,g2⟩:=ih ((i+1) % us.length) v (by omega) (Nat.mod_lt _ h0) e2
   refine ⟨x,?_,?_⟩
   ·rw [<- g1,Nat.mod_add_mod,show i+1+k=i+(k+1) by omega]
   ·have:(fin w)[k]?=(beg v)[k]?:=by rw [e3]
    unfold fin beg at this
    rw [List.getElem?_drop,List.getElem?_take_of_lt (by omega),g2,show 1+k=k+1 by omega] at this
    exact this
 apply List.ext_getElem?
 intro i
 by_cases hi:i<us.length
 ·rw [ringW_get (by rw [List.length_map];exact hi),List.getElem?_eq_getElem hi]
  congr 1
  have hw:=hl us[i] (List.getElem_mem hi)
  apply List.ext_getElem?
  intro k
  by_cases hk:k<n
  ·obtain ⟨v,g1,g2⟩:=key k i us[i] hk hi (List.getElem?_eq_getElem hi)
   rw [ringAt_get hk (by rw [List.length_map];exact h0),List.length_map,List.getElem?_map,g1,g2]
   rfl
  ·rw [List.getElem?_eq_none (by rw [ringAt_len];omega),List.getElem?_eq_none (by omega)]
 ·rw [List.getElem?_eq_none (by rw [ringW_len,List.length_map];omega),List.getElem?_eq_none (by omega)]
section
variable {t:W}{n a b c d:Nat}
end
end Wd
namespace Wd
section
variable {r g:W}{n:Nat}
def pcs (t:W)(n i:Nat):W:=beg (ringAt t n i)
end
end Wd
namespace Wd
open Hg
def lst (us:List W):W:=us.getD (us.length-1) []
def ext (ws us:List W):List (List W):=(ws.filter fun w=>decide (beg w=fin (lst us)) && !decide (w∈us)).map fun w=>us++[w]
section
variable {ws us:List W}{w0 w:W}{n k:Nat}
end
end Wd
namespace Wd
open Hg
def cnt (f:W->W)(E:List W)(v:W):Nat:=(E.filter fun w=>decide (f w=v)).length
def Bal (E:List W)(s t:W):Prop:=∀ v,cnt beg E v+(if v=t then 1 else 0)=cnt fin E v+(if v=s then 1 else 0)
section
variable {E L us:List W}{s t v p q w:W}
theorem cnt_cons (f:W->W)(e:W)(E:List W)(v:W):cnt f (e::E) v=(if f e=v then 1 else 0)+cnt f E v:=by
 unfold cnt
 rw [List.filter_cons]
 by_cases h:f e=v
 ·rw [if_pos (decide_eq_true h),if_pos h,List.length_cons,Nat.add_comm]
 ·rw [if_neg (by rw [decide_eq_false h];exact Bool.false_ne_true),if_neg h,Nat.zero_add]
theorem cnt_app (f:W->W)(A B:List W)(v:W):cnt f (A++B) v=cnt f A v+cnt f B v:=by
 unfold cnt
 rw [List.filter_append,List.length_append]
theorem cnt_perm {A B:List W}(f:W->W)(h:A.Perm B)(v:W):cnt f A v=cnt f B v:=(h.filter _).length_eq
theorem Bal.perm {A B:List W}(h:Bal A s t)(hp:A.Perm B):Bal B s t:=fun v=>by rw [<- cnt_perm beg hp,<- cnt_perm fin hp];exact h v
theorem tr_bal:∀ {us:List W} {p:W},Tr beg fin p us q->Bal us p q
 | [],p,h=>fun v=>by
  have h:p=q:=h
  subst h
  rfl
 | w::us,p,h=>fun v=>by
  have ih:=tr_bal h.2 v
  have e:beg w=p:=h.1
  rw [cnt_cons,cnt_cons]
  have e1:(if v=p then 1 else 0)=(if beg w=v then 1 else 0):=by
   by_cases c:v=p
   ·rw [if_pos c,if_pos (by rw [e,c])]
   ·rw [if_neg c,if_neg (fun z=>c (by rw [<- z,e]))]
  have e2:(if v=fin w then 1 else 0)=(if fin w=v then 1 else 0):=by
   by_cases c:v=fin w
   ·rw [if_pos c,if_pos c.symm]
   ·rw [if_neg c,if_neg (fun z=>c z.symm)]
  omega
theorem Bal.rest (h:Bal E s t)(hp:E.Perm (us++L))(ht:Tr beg fin s us q):Bal L q t:=fun v=>by
 have h1:=(h.perm hp) v
 have h2:=tr_bal ht v
 rw [cnt_app,cnt_app] at h1
 omega
theorem Bal.out (h:Bal L v t)(hne:v≠t):∃ e∈L,beg e=v:=by
 have h1:=h v
 rw [if_neg hne,if_pos rfl] at h1
 have h2:0<cnt beg L v:=by omega
 obtain ⟨e,he⟩:=List.exists_mem_of_length_pos h2
 obtain ⟨g1,g2⟩:=List.mem_filter.mp he
 exact ⟨e,g1,of_decide_eq_true g2⟩
theorem Bal.step (hb:Bal E s t){e:W}(he:e∈E)(h:beg e=s):Bal (E.erase e) (fin e) t:=hb.rest (us:=[e]) (List.perm_cons_erase he) ⟨h,rfl⟩
end
end Wd
namespace Dt
open Wd Hg
section
variable {ts:List W}{f:W->W}
theorem iT_out {t:W}(h:t∉ts):∀ k,iT ts f k t=t
 | 0=>rfl
 | k+1=>by
  show sT ts f (iT ts f k t)=t
  rw [iT_out h k]
  unfold sT
  rw [if_neg h]
theorem iT_add {t:W}:∀ l k,iT ts f (l+k) t=iT ts f l (iT ts f k t)
 | 0,k=>by rw [Nat.zero_add];rfl
 | l+1,k=>by
  rw [show l+1+k=(l+k)+1 by omega]
  show sT ts f (iT ts f (l+k) t)=sT ts f (iT ts f l (iT ts f k t))
  rw [iT_add l k]
theorem cmT_iff:cmT ts f=true↔∀ χ:W->Prop,(∀ t,χ t->t∈ts∧χ ((f t).drop 1))->∀ t,¬ χ t:=by
 constructor
 ·intro h χ hc t ht
  have key:∀ k,χ (iT ts f k t):=fun k=>by
   induction k with
   | zero=>exact ht
   | succ k ih =>
    show χ (sT ts f (iT ts f k t))
    unfold sT
    rw [if_pos (hc _ ih).1]
    exact (hc _ ih).2
  exact of_decide_eq_true (List.all_eq_true.mp h t (hc t ht).1) (hc _ (key ts.length)).1
 ·intro h
  refine List.all_eq_true.mpr fun t ht=>decide_eq_true fun hn=>?_
  have lt:∀ k,k<=ts.length->iT ts f k t∈ts:=fun k hk=>by
   refine Classical.byContradiction fun z=>?_
   have e:iT ts f (ts.length-k+k) t=iT ts f k t:=by rw [iT_add];exact iT_out z _
   rw [show ts.length-k+k=ts.length by omega] at e
   rw [e] at hn
   exact z hn
  obtain ⟨a,b,hab,hb,heq⟩:∃ a b,a<b∧b<=ts.length∧iT ts f a t=iT ts f b t:=by
   refine Classical.byContradiction fun z=>?_
   have nd:((List.range (ts.length+1)).map fun k=>iT ts f k t).Nodup:=by
    refine List.pairwise_map.mpr (List.Pairwise.imp_of_mem (fun {x y} hx hy hxy he=>z ⟨x,y,hxy,?_,he⟩) List.pairwise_lt_range)
    have:=List.mem_range.mp hy
    omega
   have:=Hg.nd_len (ms:=ts) nd fun y hy=>by
    obtain ⟨k,hk,rfl⟩:=List.mem_map.mp hy
    have:=List.mem_range.mp hk
    exact lt k (by omega)
   rw [List.length_map,List.length_range] at this
   omega
  refine h (fun u=>∃ k,a<=k∧k<b∧u=iT ts f k t) (fun u ⟨k,h1,h2,h3⟩=>?_) (iT ts f a t) ⟨a,Nat.le_refl _,hab,rfl⟩
  subst h3
  refine ⟨lt k (by omega),?_⟩
  have e:(f (iT ts f k t)).drop 1=iT ts f (k+1) t:=by
   show _=sT ts f (iT ts f k t)
   unfold sT
   rw [if_pos (lt k (by omega))]
  rw [e]
  by_cases hk:k+1<b
  ·exact ⟨k+1,by omega,hk,rfl⟩
  ·exact ⟨a,Nat.le_refl _,hab,by rw [heq,show b=k+1 by omega]⟩
end
def og (E:List W)(t:W):List W:=E.filter fun w=>decide (beg w=t)
def rm (E:List W)(w:W):List W:=E.filter fun x=>!decide (x=w)
section
variable {E:List W}{a b t w:W}
end
def ordN:Nat->List W->W->W->List (List W)
 | 0,_,a,b=>if a=b then [[]] else []
 | n+1,E,a,b=>(og E a).flatMap fun w=>(ordN n (rm E w) (fin w) b).map fun us=>w::us
def eN (E:List W)(a b:W):Nat:=(ordN E.length E a b).length
end Dt
namespace Dt
open Wd Hg
theorem tr_app:∀ {xs ys:List W} {p q:W},Tr beg fin p (xs++ys) q↔∃ r,Tr beg fin p xs r∧Tr beg fin r ys q
 | [],ys,p,q=>⟨fun h=>⟨p,rfl,h⟩,fun ⟨r,h1,h2⟩=>by have e:p=r:=h1;rw [e];exact h2⟩
 | x::xs,ys,p,q=>by
  constructor
  ·rintro ⟨h1,h2⟩
   obtain ⟨r,h3,h4⟩:=tr_app.mp h2
   exact ⟨r,⟨h1,h3⟩,h4⟩
  ·rintro ⟨r,⟨h1,h3⟩,h4⟩
   exact ⟨h1,tr_app.mpr ⟨r,h3,h4⟩⟩
end Dt
namespace Dt
open Wd Hg
end Dt
namespace Dt
open Wd Hg
end Dt
namespace Wd
def it (f:W->W):Nat->W->W
 | 0,w=>w
 | k+1,w=>f (it f k w)
section
variable {f:W->W}{L:List W}{w:W}{p:Nat}
end
end Wd
namespace Wd
section
variable {f:W->W}{r:W}{n:Nat}{L:List W}
end
end Wd
namespace Wd
open Hg
section
variable {ms us xs ys:List W}{p q r t e w0:W}{n:Nat}
theorem Tr.split:∀ {xs:List W} {p:W},Tr beg fin p (xs++ys) q->∃ r,Tr beg fin p xs r∧Tr beg fin r ys q
 | [],p,h=>⟨p,rfl,h⟩
 | x::xs,p,h=>by
  obtain ⟨r,h1,h2⟩:=Tr.split (xs:=xs) h.2
  exact ⟨r,⟨h.1,h1⟩,h2⟩
theorem tr_turn (h:Tr beg fin p us p)(hp:us.Perm ms)(hw:w0∈ms):∃ vs,Tr beg fin (beg w0) (w0::vs) (beg w0)∧(w0::vs).Perm ms:=by
 obtain ⟨xs,ys,rfl⟩:=List.append_of_mem (hp.mem_iff.mpr hw)
 obtain ⟨r,h1,h2,h3⟩:=Tr.split h
 refine ⟨ys++xs,⟨rfl,Tr.app (p:=p) h3 (h2.symm▸h1)⟩,?_⟩
 refine List.Perm.trans ?_ hp
 exact List.perm_append_comm (l₁:=w0::ys) (l₂:=xs)
theorem Bal.turn (h:Bal ms p p)(r:W):Bal ms r r:=fun v=>by have:=h v;omega
end
end Wd
namespace Wd
open Hg
section
variable {ms us vs:List W}{p q m0 t:W}{n:Nat}
end
end Wd
namespace Dt
open Wd Hg
def rk (b:W):List W->List W->Nat
 | _,[]=>0
 | E,w::us=>(((og E (beg w)).filter fun x=>decide (x<w)).map fun x=>eN (rm E x) (fin x) b).sum+rk b (rm E w) us
theorem asc_of {E:List W}(hn:E.Nodup)(hs:E.Pairwise fun x y=>¬ y<x):E.Pairwise (· < ·):=by
 refine List.Pairwise.imp₂ (fun a b h1 h2=>?_) hs hn
 exact Classical.byContradiction fun z=>h2 (Std.Trichotomous.trichotomous a b z h1)
section
variable {m0:W}{us vs ms:List W}{n:Nat}
end
end Dt
namespace Dt
open Wd Hg
end Dt
namespace Dt
open Wd Hg
def gset (g:W->List W)(t w:W):W->List W:=fun x=>if x=t then [w] else g x
theorem gset_self {g:W->List W}{t w:W}:gset g t w t=[w]:=if_pos rfl
theorem gset_ne {g:W->List W}{t w x:W}(h:x≠t):gset g t w x=g x:=if_neg h
def trs (ts:List W):List W->(W->List W)->List (List W)
 | [],g=>if cmT ts (fun t=>(g t).headD [])=true then [[]] else []
 | t::r,g=>(g t).flatMap fun w=>(trs ts r (gset g t w)).map fun us=>w::us
theorem iT_congr {ls:List W}{f f':W->W}(h:∀ t∈ls,f t=f' t){t:W}:∀ k,iT ls f k t=iT ls f' k t
 | 0=>rfl
 | k+1=>by
  show sT ls f (iT ls f k t)=sT ls f' (iT ls f' k t)
  rw [iT_congr h k]
  unfold sT
  split
  ·rename_i hm
   rw [h _ hm]
  ·rfl
theorem cmT_congr {ls:List W}{f f':W->W}(h:∀ t∈ls,f t=f' t):cmT ls f=cmT ls f':=by
 unfold cmT
 congr 1
 funext t
 rw [iT_congr h]
def pk:List W->W->W
 | [],_=>[]
 | w::us,t=>if beg w=t then w else pk us t
theorem pk_head {w:W}{us:List W}:pk (w::us) (beg w)=w:=if_pos rfl
theorem mem_trs {ts:List W}:∀ {r:List W} {g:W->List W} {us:List W},r.Nodup->(∀ t∈r,∀ w∈g t,beg w=t)->(us∈trs ts r g↔us.map beg=r∧(∀ w∈us,w∈g (beg w))∧cmT ts (fun t=>if t∈r then pk us t else (g t).headD [])=true)
 | [],g,us,_,_=>by
  show us∈(if cmT ts (fun t=>(g t).headD [])=true then [[]] else ([]:List (List W)))↔_
  have e:cmT ts (fun t=>if t∈([]:List W) then pk us t else (g t).headD [])=cmT ts (fun t=>(g t).headD []):=cmT_congr fun t _=>if_neg (by simp)
  rw [e]
  constructor
  ·intro h
   by_cases z:cmT ts (fun t=>(g t).headD [])=true
   ·rw [if_pos z] at h
    rw [List.mem_singleton.mp h]
    exact ⟨rfl,fun w hw=>(by cases hw),z⟩
   ·rw [if_neg z] at h
    cases h
  ·rintro ⟨h1,_,h3⟩
   rw [if_pos h3,List.map_eq_nil_iff.mp h1]
   exact List.mem_singleton.mpr rfl
 | t::r,g,us,hn,hb=>by
  obtain ⟨hn1,hn2⟩:=List.nodup_cons.mp hn
  have hne:∀ x∈r,x≠t:=fun x hx e=>hn1 (e▸hx)
  have ih:=fun (w:W) (vs:List W)=>mem_trs (ts:=ts) (r:=r) (g:=gset g t w) (us:=vs) hn2 fun x hx v hv=>hb x (List.mem_cons_of_mem _ hx) v (by rw [gset_ne (hne x hx)] at hv;exact hv)
  have ec:∀ (w:W) (vs:List W),beg w=t->cmT ts (fun x=>if x∈r then pk vs x else (gset g t w x).headD [])=cmT ts (fun x=>if x∈t::r then pk (w::vs) x else (g x).headD []):=fun w vs hw=>cmT_congr fun x _=>by
   by_cases hx:x=t
   ·rw [hx,if_neg hn1,if_pos (List.mem_cons_self ..),gset_self,<- hw,pk_head]
    rfl
   ·by_cases hr:x∈r
    ·rw [if_pos hr,if_pos (List.mem_cons_of_mem _ hr)]
     show _=if beg w=x then w else pk vs x
     rw [if_neg fun z=>hx (z.symm.trans hw)]
    ·rw [if_neg hr,if_neg fun z=>(List.mem_cons.mp z).elim hx hr,gset_ne hx]
  show us∈((g t).flatMap fun w=>(trs ts r (gset g t w)).map fun us=>w::us)↔_
  rw [List.mem_flatMap]
  constructor
  ·rintro ⟨w,hw,h⟩
   obtain ⟨vs,hv,rfl⟩:=List.mem_map.mp h
   obtain ⟨h1,h2,h3⟩:=(ih w vs).mp hv
   have hwt:=hb t (List.mem_cons_self ..) w hw
   rw [ec w vs hwt] at h3
   refine ⟨by rw [List.map_cons,h1,hwt],fun v hv=>?_,h3⟩
   rcases List.mem_cons.mp hv with z | z
   ·rw [z,hwt];exact hw
   ·have:=h2 v z
    rw [gset_ne (hne _ (by rw [<- h1];exact List.mem_map_of_mem z))] at this
    exact this
  ·rintro ⟨h1,h2,h3⟩
   cases us with
   | nil=>cases h1
   | cons w vs =>
    obtain ⟨hwt,h1⟩:=List.cons.inj h1
    refine ⟨w,by have:=h2 w (List.mem_cons_self ..);rw [hwt] at this;exact this,List.mem_map_of_mem ((ih w vs).mpr ⟨h1,fun v hv=>?_,?_⟩)⟩
    ·rw [gset_ne (hne _ (by rw [<- h1];exact List.mem_map_of_mem hv))]
     exact h2 v (List.mem_cons_of_mem _ hv)
    ·rw [ec w vs hwt]
     exact h3
end Dt
namespace Dt
open Wd Hg
theorem pk_mem:∀ {us:List W},(us.map beg).Nodup->∀ w∈us,pk us (beg w)=w
 | [],_,w,h=>by cases h
 | v::us,hn,w,h=>by
  obtain ⟨h1,h2⟩:=List.nodup_cons.mp hn
  show (if beg v=beg w then v else pk us (beg w))=w
  rcases List.mem_cons.mp h with z | z
  ·rw [z,if_pos rfl]
  ·rw [if_neg (fun e:beg v=beg w=>h1 (e▸List.mem_map_of_mem z)),pk_mem h2 w z]
theorem iT_first {ls:List W}{f:W->W}{t:W}:∀ k,iT ls f (k+1) t=iT ls f k (sT ls f t)
 | 0=>rfl
 | k+1=>by
  show sT ls f (iT ls f (k+1) t)=sT ls f (iT ls f k (sT ls f t))
  rw [iT_first k]
theorem iT_stay {ls:List W}{f:W->W}{t:W}{k:Nat}(h:iT ls f k t∉ls):∀ j,iT ls f (k+j) t∉ls
 | 0=>h
 | j+1=>by
  show sT ls f (iT ls f (k+j) t)∉ls
  rw [show sT ls f (iT ls f (k+j) t)=iT ls f (k+j) t from if_neg (iT_stay h j)]
  exact iT_stay h j
theorem iT_soon {ls:List W}{f:W->W}:∀ m,(∀ t,iT ls f (m+1) t∉ls->iT ls f m t∉ls)->∀ k t,iT ls f (m+k) t∉ls->iT ls f m t∉ls
 | m,h,0,t,hk=>hk
 | m,h,k+1,t,hk=>by
  have h':∀ j t,iT ls f (m+j+1) t∉ls->iT ls f (m+j) t∉ls:=fun j=>by
   induction j with
   | zero=>exact h
   | succ j ih =>
    intro t ht
    rw [show m+(j+1)=(m+j)+1 by omega,iT_first]
    rw [iT_first] at ht
    exact ih _ ht
  exact iT_soon m h k t (h' k t hk)
def outN (ls:List W)(f:W->W)(m:Nat):Nat:=(ls.filter fun t=>decide (iT ls f m t∉ls)).length
theorem outN_all {ls:List W}{f:W->W}(h:∀ t∈ls,∃ m,iT ls f m t∉ls):∀ t∈ls,iT ls f ls.length t∉ls:=by
 have key:∀ m,m<=outN ls f m∨∃ j,j<=m∧∀ t,iT ls f (j+1) t∉ls->iT ls f j t∉ls:=fun m=>by
  induction m with
  | zero=>exact .inl (Nat.zero_le _)
  | succ m ih =>
   rcases ih with ih | ⟨j,hj,h1⟩
   ·by_cases hz:∀ t,iT ls f (m+1) t∉ls->iT ls f m t∉ls
    ·exact .inr ⟨m,by omega,hz⟩
    ·left
     obtain ⟨t0,h0⟩:=Classical.not_forall.mp hz
     obtain ⟨h1,h2⟩:=Classical.not_imp.mp h0
     have h2:iT ls f m t0∈ls:=Classical.not_not.mp h2
     have ht0:t0∈ls:=Classical.byContradiction fun z=>by
      rw [iT_out z] at h2
      exact z h2
     have hlt:outN ls f m<outN ls f (m+1):=by
      unfold outN
      have gen:∀ l:List W,(l.filter fun t=>decide (iT ls f m t∉ls)).length<=(l.filter fun t=>decide (iT ls f (m+1) t∉ls)).length∧(t0∈l->(l.filter fun t=>decide (iT ls f m t∉ls)).length<(l.filter fun t=>decide (iT ls f (m+1) t∉ls)).length):=fun l=>by
       induction l with
       | nil=>exact ⟨Nat.le_refl _,fun z=>(by cases z)⟩
       | cons x l ih =>
        rw [List.filter_cons,List.filter_cons]
        by_cases e1:iT ls f m x∉ls
        ·have e2:=iT_stay e1 1
         rw [if_pos (decide_eq_true e1),if_pos (decide_eq_true e2),List.length_cons,List.length_cons]
         refine ⟨Nat.succ_le_succ ih.1,fun hz=>Nat.succ_lt_succ (ih.2 ?_)⟩
         rcases List.mem_cons.mp hz with z | z
         ·exact absurd (z▸h2) e1
         ·exact z
        ·rw [if_neg fun z=>e1 (of_decide_eq_true z)]
         by_cases e2:iT ls f (m+1) x∉ls
         ·rw [if_pos (decide_eq_true e2),List.length_cons]
          exact ⟨Nat.le_succ_of_le ih.1,fun _=>Nat.lt_succ_of_le ih.1⟩
         ·rw [if_neg fun z=>e2 (of_decide_eq_true z)]
          refine ⟨ih.1,fun hz=>ih.2 ?_⟩
          rcases List.mem_cons.mp hz with z | z
          ·exact absurd (z▸h1) e2
          ·exact z
      exact (gen ls).2 ht0
     omega
   ·exact .inr ⟨j,by omega,h1⟩
 intro t ht
 rcases key ls.length with h1 | ⟨j,hj,h1⟩
 ·have h2:(ls.filter fun t=>decide (iT ls f ls.length t∉ls))=ls:=List.filter_eq_self.mpr (List.length_filter_eq_length_iff.mp (Nat.le_antisymm (List.length_filter_le ..) h1))
  exact of_decide_eq_true (List.filter_eq_self.mp h2 t ht)
 ·obtain ⟨m,hm⟩:=h t ht
  have h3:iT ls f j t∉ls:=by
   by_cases e:m<=j
   ·have:=iT_stay hm (j-m)
    rw [show m+(j-m)=j by omega] at this
    exact this
   ·refine iT_soon j h1 (m-j) t ?_
    rw [show j+(m-j)=m by omega]
    exact hm
  have:=iT_stay h3 (ls.length-j)
  rw [show j+(ls.length-j)=ls.length by omega] at this
  exact this
theorem sub_len {a b:List W}(hn:a.Nodup)(h:∀ x∈a,x∈b):a.length<=b.length:=nodup_le a b hn h
theorem come_iff {ts us ks:List W}{p:W}(hts:ts.Nodup)(hp:p∉ts)(hb:us.map beg=ts)(he:∀ w∈us,fin w=p∨fin w∈ts)(hk:ks.Nodup)(hpk:p∈ks)(hc:∀ w∈us,fin w∈ks->beg w∈ks)(hm:∀ χ:W->Prop,χ p->(∀ w∈us,χ (fin w)->χ (beg w))->∀ k∈ks,χ k) :
  ks.length=ts.length+1↔cmT ts (pk us)=true:=by
 have hbn:(us.map beg).Nodup:=by rw [hb];exact hts
 have hin:∀ w∈us,beg w∈ts:=fun w hw=>by rw [<- hb];exact List.mem_map_of_mem hw
 have hof:∀ t∈ts,∃ w∈us,beg w=t:=fun t ht=>by rw [<- hb] at ht;exact List.mem_map.mp ht
 have hst:∀ w∈us,sT ts (pk us) (beg w)=fin w:=fun w hw=>by
  unfold sT
  rw [if_pos (hin w hw),pk_mem hbn w hw]
  rfl
 have hsub:∀ k∈ks,k∈p::ts:=hm (fun k=>k∈p::ts) (List.mem_cons_self ..) fun w hw _=>List.mem_cons_of_mem _ (hin w hw)
 have hcm:cmT ts (pk us)=true↔∀ t∈ts,iT ts (pk us) ts.length t∉ts:=by
  unfold cmT
  rw [List.all_eq_true]
  exact ⟨fun h t ht=>of_decide_eq_true (h t ht),fun h t ht=>decide_eq_true (h t ht)⟩
 rw [hcm]
 constructor
 ·intro hl
  have hall:∀ t∈ts,t∈ks:=fun t ht=>Wd.full hk hsub (by rw [List.length_cons];omega) (List.mem_cons_of_mem _ ht)
  have h1:=hm (fun k=>∃ m,iT ts (pk us) m k∉ts) ⟨0,hp⟩ fun w hw ⟨m,h⟩=>⟨m+1,by rw [iT_first,hst w hw];exact h⟩
  exact outN_all fun t ht=>h1 t (hall t ht)
 ·intro h
  have hto:∀ m t,(t=p∨t∈ts)->iT ts (pk us) m t∉ts->t∈ks:=fun m=>by
   induction m with
   | zero =>
    intro t ht hn
    rcases ht with z | z
    ·rw [z];exact hpk
    ·exact absurd z hn
   | succ m ih =>
    intro t ht hn
    rcases ht with z | z
    ·rw [z];exact hpk
    ·obtain ⟨w,hw,rfl⟩:=hof t z
     rw [iT_first,hst w hw] at hn
     exact hc w hw (ih _ (he w hw) hn)
  have h1:(p::ts).length<=ks.length:=sub_len (List.nodup_cons.mpr ⟨hp,hts⟩) fun x hx=>by
   rcases List.mem_cons.mp hx with z | z
   ·rw [z];exact hpk
   ·exact hto _ x (.inr z) (h x z)
  have h2:=sub_len hk hsub
  rw [List.length_cons] at h1 h2
  omega
end Dt
namespace Dt
open Wd Hg
section
variable {ms us ps:List W}{p q x m0:W}{n k:Nat}
end
end Dt
namespace Dt
open Wd Hg
end Dt
namespace Wd
open Hg
end Wd
namespace Dt
open Wd
end Dt
namespace Wd
end Wd
namespace Wd
end Wd
namespace Wd
end Wd
namespace Wd
end Wd
namespace Wd
def dvt (n j:Nat):List Nat:=((List.range j).map (· + 1)).filter fun e=>decide (n % e=0)
open Classical in
def prs (k:Nat)(w:W)(e:Nat):List W:=(allW k e).filter fun q=>decide (Prime q∧¬ w<rep (w.length/e) q)
def rl (k:Nat)(w:W):List W:=(dvt w.length w.length).flatMap fun e=>(prs k w e).map (rep (w.length/e))
def pc (k:Nat)(w:W)(e:Nat):Nat:=(prs k w e).length
def gw (k:Nat)(w:W)(d:Nat):W:=if w<rep (w.length/d) (w.take d) then spell k d (num k (w.take d)-1) else w.take d
end Wd
namespace Wd
end Wd
namespace Wd
end Wd
namespace Wd
end Wd
namespace Wd
section
variable {k n:Nat}{pre ls:List W}{f:W}
end
end Wd
namespace Wd
def due (k n:Nat)(f:W):List W:=(allW k n).filter fun w=>!decide (least w<f)
section
variable {k n:Nat}{pre ls:List W}{f:W}
end
end Wd
namespace Wd
end Wd
namespace Wd
section
variable {k n:Nat}{pre ls:List W}{f:W}
end
section
variable {k n:Nat}{f:W}
end
end Wd
namespace Wd
end Wd
namespace Wd
section
variable {k n:Nat}{f:W}
end
end Wd
namespace Wd
end Wd
namespace Wd
open Hg
variable {s t:W}
def Ords (O:W->List W)(L:List W):Prop:=∀ p,(O p).Perm (L.filter fun w=>decide (beg w=p))
def upO (O:W->List W)(p:W)(l:List W):W->List W:=fun q=>if q=p then l else O q
def walkO:Nat->(W->List W)->W->List W
 | 0,_,_=>[]
 | n+1,O,p=>match O p with
  | []=>[]
  | w::r=>w::walkO n (upO O p r) (fin w)
def LeadO (d:W->Nat)(t:W)(O:W->List W):Prop:=∀ p,p≠t->∀ l,(O p).getLast?=some l->d (fin l)<d p
theorem Ords.mem {O:W->List W}{L:List W}(h:Ords O L){p w:W}:w∈O p↔w∈L∧beg w=p:=by
 rw [(h p).mem_iff,List.mem_filter,decide_eq_true_iff]
theorem Ords.step {O:W->List W}{L:List W}(h:Ords O L){p w:W}{r:List W}(e:O p=w::r):w∈L∧beg w=p∧Ords (upO O p r) (L.erase w):=by
 obtain ⟨hw,hb⟩:=h.mem.mp (by rw [e];exact List.mem_cons_self ..)
 refine ⟨hw,hb,fun q=>?_⟩
 have hp:L.Perm (w::L.erase w):=List.perm_cons_erase hw
 have h1:=(h q).trans (hp.filter _)
 unfold upO
 by_cases hq:q=p
 ·subst hq
  rw [if_pos rfl]
  rw [e,List.filter_cons,if_pos (decide_eq_true hb)] at h1
  exact (List.perm_cons w).mp h1
 ·rw [if_neg hq]
  rw [List.filter_cons,if_neg (by rw [decide_eq_false (fun z=>hq (z.symm.trans hb))];exact Bool.false_ne_true)] at h1
  exact h1
theorem walk_filter:∀ (k:Nat) {L:List W} {O:W->List W} {v:W},L.length=k->Ords O L->(walkO k O v).length=k->∀ p,(walkO k O v).filter (fun w=>decide (beg w=p))=O p
 | 0,L,O,v,hk,h,_,p=>by
  have:L=[]:=List.length_eq_zero_iff.mp hk
  subst this
  exact (h p).eq_nil.symm
 | k+1,L,O,v,hk,h,hw,p=>by
  unfold walkO at hw ⊢
  cases e:O v with
  | nil=>rw [e] at hw;cases hw
  | cons w r =>
   rw [e] at hw
   obtain ⟨hm,hb,h2⟩:=h.step e
   have ih:=walk_filter k (v:=fin w) (by rw [List.length_erase_of_mem hm];omega) h2 (Nat.succ.inj hw) p
   dsimp only
   rw [List.filter_cons,ih]
   unfold upO
   by_cases hp:p=v
   ·rw [if_pos hp,if_pos (decide_eq_true (hb.trans hp.symm)),hp,e]
   ·rw [if_neg hp,if_neg (by rw [decide_eq_false (fun z=>hp (z.symm.trans hb))];exact Bool.false_ne_true)]
theorem walk_again:∀ {ws:List W} {v q:W},Tr beg fin v ws q->walkO ws.length (fun p=>ws.filter fun w=>decide (beg w=p)) v=ws
 | [],_,_,_=>rfl
 | w::ws,v,q,h=>by
  have hb:=h.1
  show (match (w::ws).filter fun x=>decide (beg x=v) with | []=>[] | w'::r=>w'::walkO ws.length (upO (fun p=>(w::ws).filter fun x=>decide (beg x=p)) v r) (fin w'))=_
  rw [List.filter_cons,if_pos (decide_eq_true hb)]
  dsimp only
  have:upO (fun p=>(w::ws).filter fun x=>decide (beg x=p)) v (ws.filter fun x=>decide (beg x=v))=fun p=>ws.filter fun x=>decide (beg x=p):=by
   funext p
   unfold upO
   by_cases hp:p=v
   ·rw [if_pos hp,hp]
   ·rw [if_neg hp]
    show ((w::ws).filter fun x=>decide (beg x=p))=_
    rw [List.filter_cons,if_neg (by rw [decide_eq_false (fun z=>hp (z.symm.trans hb))];exact Bool.false_ne_true)]
  rw [this,walk_again h.2]
def dd (t:W):List W->W->Nat
 | [],_=>0
 | w::ws,p=>if p=t then 0 else if (ws.filter fun x=>decide (beg x=p))≠[] then dd t ws p else if beg w=p then ws.length+1 else 0
theorem dd_t:∀ ws:List W,dd t ws t=0
 | []=>rfl
 | w::ws=>if_pos rfl
theorem dd_le:∀ (ws:List W) (p:W),dd t ws p<=ws.length
 | [],_=>Nat.le_refl _
 | w::ws,p=>by
  unfold dd
  have:=dd_le ws p
  rw [List.length_cons]
  split
  ·omega
  ·split
   ·omega
   ·split <;> omega
theorem dd_pos:∀ {ws:List W} {p:W},p≠t->(ws.filter fun x=>decide (beg x=p))≠[]->1<=dd t ws p
 | [],p,_,h=>absurd rfl h
 | w::ws,p,hp,h=>by
  unfold dd
  rw [if_neg hp]
  split
  ·rename_i h1
   exact dd_pos hp h1
  ·rename_i h1
   split
   ·omega
   ·rename_i h2
    rw [List.filter_cons,if_neg (by rw [decide_eq_false h2];exact Bool.false_ne_true)] at h
    exact absurd h h1
theorem exit_of:∀ {ws:List W} {u l:W},Tr beg fin u ws t->l∈ws->fin l≠t->(ws.filter fun x=>decide (beg x=fin l))≠[]
 | w::ws,u,l,h,hl,hne=>by
  rcases List.mem_cons.mp hl with rfl | hl
  ·cases ws with
   | nil=>exact absurd h.2 hne
   | cons x ws =>
    intro z
    have:x∈(l::x::ws).filter fun y=>decide (beg y=fin l):=List.mem_filter.mpr ⟨List.mem_cons_of_mem _ (List.mem_cons_self ..),decide_eq_true h.2.1⟩
    rw [z] at this
    cases this
  ·have:=exit_of h.2 hl hne
   intro z
   apply this
   rw [List.filter_eq_nil_iff] at z ⊢
   exact fun a ha=>z a (List.mem_cons_of_mem _ ha)
theorem lead_of:∀ {ws:List W} {u:W},Tr beg fin u ws t->LeadO (dd t ws) t (fun p=>ws.filter fun x=>decide (beg x=p))
 | [],u,h,p,hp,l,hl=>by cases hl
 | w::ws,u,h,p,hp,l,hl=>by
  have hl:((w::ws).filter fun x=>decide (beg x=p)).getLast?=some l:=hl
  by_cases hex:(ws.filter fun x=>decide (beg x=p))=[]
  ·have hb:beg w=p:=by
    apply Classical.byContradiction
    intro z
    rw [List.filter_cons,if_neg (by rw [decide_eq_false z];exact Bool.false_ne_true),hex] at hl
    cases hl
   rw [List.filter_cons,if_pos (decide_eq_true hb),hex] at hl
   obtain rfl:w=l:=Option.some.inj hl
   have e:dd t (w::ws) p=ws.length+1:=by
    unfold dd
    rw [if_neg hp,if_neg (fun z=>z hex),if_pos hb]
   rw [e]
   unfold dd
   split
   ·omega
   ·rename_i hf
    split
    ·have:=dd_le (t:=t) ws (fin w)
     omega
    ·rename_i h1
     exfalso
     cases ws with
     | nil=>exact hf h.2
     | cons x ws =>
      apply h1
      intro z
      have:x∈(x::ws).filter fun y=>decide (beg y=fin w):=List.mem_filter.mpr ⟨List.mem_cons_self ..,decide_eq_true h.2.1⟩
      rw [z] at this
      cases this
  ·have hl2:(ws.filter fun x=>decide (beg x=p)).getLast?=some l:=by
    rw [List.filter_cons] at hl
    split at hl
    ·cases hq:ws.filter fun x=>decide (beg x=p) with
     | nil=>exact absurd hq hex
     | cons a r=>rw [hq,List.getLast?_cons_cons] at hl;exact hl
    ·exact hl
   have hlm:l∈ws:=(List.mem_filter.mp (List.mem_of_getLast? hl2)).1
   have ih:=lead_of h.2 p hp l hl2
   have e:dd t (w::ws) p=dd t ws p:=by
    conv=>lhs;unfold dd
    rw [if_neg hp,if_pos hex]
   rw [e]
   by_cases hf:fin l=t
   ·rw [hf,dd_t]
    exact dd_pos hp hex
   ·have e2:dd t (w::ws) (fin l)=dd t ws (fin l):=by
     conv=>lhs;unfold dd
     rw [if_neg hf,if_pos (exit_of h.2 hlm hf)]
    rw [e2]
    exact ih
end Wd
namespace Wd
open Hg
variable {t:W}
def LeadX (f:W->W)(t:W)(O:W->List W):Prop:=(∀ p,p≠t->∀ l,(O p).getLast?=some l->l=f p)∧∀ χ:W->Prop,(∀ p,χ p->p≠t∧χ (fin (f p)))->∀ p,¬ χ p
theorem LeadX.step {f:W->W}{O:W->List W}(h:LeadX f t O){p w:W}{r:List W}(e:O p=w::r):LeadX f t (upO O p r):=⟨fun q hq l hl=>by
 unfold upO at hl
 by_cases hp:q=p
 ·subst hp
  rw [if_pos rfl] at hl
  refine h.1 q hq l ?_
  rw [e]
  cases r with
  | nil=>cases hl
  | cons a r=>rw [List.getLast?_cons_cons];exact hl
 ·rw [if_neg hp] at hl
  exact h.1 q hq l hl,h.2⟩
theorem no_outX {f:W->W}{O:W->List W}{L:List W}(hb:Bal L t t)(h:Ords O L)(hl:LeadX f t O)(h0:O t=[])(p:W):O p=[]:=by
 apply Classical.byContradiction
 refine hl.2 (fun p=>O p≠[]) (fun p hp=>⟨fun z=>hp (by rw [z];exact h0),?_⟩) p
 cases e:(O p).getLast? with
 | none=>exact absurd (List.getLast?_eq_none_iff.mp e) hp
 | some l =>
  have hpt:p≠t:=fun z=>hp (by rw [z];exact h0)
  obtain rfl:=hl.1 p hpt l e
  have hm:=h.mem.mp (List.mem_of_getLast? e)
  intro z
  have hf:0<cnt fin L (fin (f p)):=List.length_pos_iff.mpr fun y=>by
   have:f p∈L.filter fun w=>decide (fin w=fin (f p)):=List.mem_filter.mpr ⟨hm.1,decide_eq_true rfl⟩
   rw [y] at this
   cases this
  have hc:cnt beg L (fin (f p))=0:=by
   have:=(h (fin (f p))).length_eq
   rw [z] at this
   exact this.symm
  have:=hb (fin (f p))
  omega
theorem all_goneX {f:W->W}:∀ (k:Nat) {L:List W} {O:W->List W} {v:W},L.length=k->Bal L v t->Ords O L->LeadX f t O->(walkO k O v).Perm L∧Tr beg fin v (walkO k O v) t
 | 0,L,O,v,hk,hb,h,hl=>by
  have:L=[]:=List.length_eq_zero_iff.mp hk
  subst this
  refine ⟨List.Perm.refl _,?_⟩
  show v=t
  have:=hb v
  apply Classical.byContradiction
  intro z
  rw [if_neg z,if_pos rfl] at this
  cases this
 | k+1,L,O,v,hk,hb,h,hl=>by
  cases e:O v with
  | nil =>
   exfalso
   by_cases hv:v=t
   ·subst hv
    have:L=[]:=by
     cases L with
     | nil=>rfl
     | cons w L =>
      exfalso
      have h1:=no_outX hb h hl e (beg w)
      have:=h.mem.mpr ⟨List.mem_cons_self ..,rfl⟩
      rw [h1] at this
      cases this
    rw [this] at hk
    cases hk
   ·obtain ⟨w,hw,hbw⟩:=hb.out hv
    have:=h.mem.mpr ⟨hw,hbw⟩
    rw [e] at this
    cases this
  | cons w r =>
   obtain ⟨hw,hbw,h2⟩:=h.step e
   have hlen:(L.erase w).length=k:=by rw [List.length_erase_of_mem hw];omega
   obtain ⟨h3,h4⟩:=all_goneX k hlen (hb.step hw hbw) h2 (hl.step e)
   unfold walkO
   rw [e]
   exact ⟨(List.Perm.cons w h3).trans (List.perm_cons_erase hw).symm,hbw,h4⟩
theorem tree_lead {ts:List W}{ws:List W}{f:W->W}{u:W}(h:Tr beg fin u ws t)(hf:∀ p∈ts,(ws.filter fun x=>decide (beg x=p)).getLast?=some (f p))(ht:t∉ts):Dt.cmT ts f=true:=by
 rw [Dt.cmT_iff]
 intro χ hc p hp
 have hl:=lead_of h
 have key:∀ (k:Nat) (p:W),dd t ws p<=k->¬ χ p:=by
  intro k
  induction k with
  | zero =>
   intro p hk hp
   obtain ⟨h1,h2⟩:=hc p hp
   have:=hl p (fun z=>ht (z▸h1)) (f p) (hf p h1)
   omega
  | succ k ih =>
   intro p hk hp
   obtain ⟨h1,h2⟩:=hc p hp
   have:=hl p (fun z=>ht (z▸h1)) (f p) (hf p h1)
   exact ih (fin (f p)) (by omega) h2
 exact key _ p (Nat.le_refl _) hp
end Wd
namespace Dt
open Wd Hg
end Dt
namespace Dt
open Wd
theorem pk_map {f:W->W}:∀ {so:List W},(∀ t∈so,beg (f t)=t)->∀ t∈so,pk (so.map f) t=f t
 | [],_,t,h=>nomatch h
 | a::so,hb,t,h=>by
  show (if beg (f a)=t then f a else pk (so.map f) t)=f t
  rw [hb a (List.mem_cons_self ..)]
  by_cases e:a=t
  ·rw [if_pos e,e]
  ·rw [if_neg e]
   exact pk_map (fun u hu=>hb u (List.mem_cons_of_mem _ hu)) t ((List.mem_cons.mp h).resolve_left (Ne.symm e))
end Dt
namespace Wd
open Hg
def Whl (E:List W)(m0:W)(O:W->List W):Prop:=(∀ p,(O p).Perm (Dt.og E p))∧∃ r,O (beg m0)=m0::r
def ptO (h:W)(O:W->List W)(p:W):List W:=if p=h then (O p).drop 1 else (O p).dropLast
def lsO (O:W->List W)(p:W):W:=(O p).getLast?.getD []
def ptT (h:W)(O:W->List W)(ps:List W):List W:=(ps.filter fun p=>decide (p≠h)).map (lsO O)
theorem og_map {f:W->W}:∀ {so:List W},so.Nodup->(∀ t∈so,beg (f t)=t)->∀ p,Dt.og (so.map f) p=if p∈so then [f p] else []
 | [],_,_,p=>rfl
 | a::so,hn,hb,p=>by
  obtain ⟨h1,h2⟩:=List.nodup_cons.mp hn
  have ih:=og_map h2 (fun t ht=>hb t (List.mem_cons_of_mem _ ht)) p
  have ha:=hb a (List.mem_cons_self ..)
  unfold Dt.og at ih ⊢
  rw [List.map_cons,List.filter_cons,ih,ha]
  by_cases e:a=p
  ·subst e
   rw [if_pos (decide_eq_true rfl),if_neg h1,if_pos (List.mem_cons_self ..)]
  ·rw [if_neg (fun z=>e (of_decide_eq_true z))]
   by_cases hp:p∈so
   ·rw [if_pos hp,if_pos (List.mem_cons_of_mem _ hp)]
   ·rw [if_neg hp,if_neg (fun z=>(List.mem_cons.mp z).elim (fun z=>e z.symm) hp)]
section
variable {E ps:List W}{m0 h:W}{O:W->List W}
theorem Whl.mem (hw:Whl E m0 O){p w:W}:w∈O p↔w∈E∧beg w=p:=by
 rw [(hw.1 p).mem_iff]
 unfold Dt.og
 rw [List.mem_filter,decide_eq_true_iff]
theorem lsO_eq {p:W}(hne:O p≠[]):(O p).getLast?=some (lsO O p):=by
 unfold lsO
 cases e:(O p).getLast? with
 | none=>exact absurd (List.getLast?_eq_none_iff.mp e) hne
 | some l=>rfl
theorem Whl.last (hw:Whl E m0 O){p:W}(hne:O p≠[]):lsO O p∈E∧beg (lsO O p)=p:=hw.mem.mp (List.mem_of_getLast? (lsO_eq hne))
theorem drop_last {p:W}(hne:O p≠[]):(O p).dropLast++[lsO O p]=O p:=by
 have h2:=lsO_eq hne
 rw [List.getLast?_eq_some_getLast hne] at h2
 rw [<- Option.some.inj h2]
 exact List.dropLast_concat_getLast hne
theorem Whl.put (hw:Whl E m0 O)(hn:ps.Nodup)(ho:∀ p∈ps,O p≠[]){p:W}(hp:p∈ps):ptO (beg m0) O p++Dt.og (ptT (beg m0) O ps) p=if p=beg m0 then (O p).drop 1 else O p:=by
 unfold ptT ptO
 rw [og_map (hn.filter _) fun t ht=>(hw.last (ho t (List.mem_filter.mp ht).1)).2]
 by_cases e:p=beg m0
 ·rw [if_pos e,if_pos e,if_neg (show p∉ps.filter (fun p=>decide (p≠beg m0)) from fun z=>(of_decide_eq_true (List.mem_filter.mp z).2:p≠beg m0) e),List.append_nil]
 ·rw [if_neg e,if_neg e,if_pos (List.mem_filter.mpr ⟨hp,decide_eq_true e⟩),drop_last (ho p hp)]
theorem Whl.head (hw:Whl E m0 O):m0::(O (beg m0)).drop 1=O (beg m0):=by
 obtain ⟨r,e⟩:=hw.2
 rw [e]
 rfl
theorem whl_ring {R:List W}{r:List W}(hp:R.Perm E)(h0:R=m0::r):Whl E m0 (Dt.og R):=⟨fun p=>hp.filter _,(Dt.og r (beg m0)),by
 unfold Dt.og
 rw [h0,List.filter_cons,if_pos (decide_eq_true rfl)]⟩
theorem cm_ring {R:List W}(ht:Tr beg fin h R h)(ho:∀ p∈ps,Dt.og R p≠[]):Dt.cmT (ps.filter fun p=>decide (p≠h)) (lsO (Dt.og R))=true :=
 tree_lead ht (fun p hp=>lsO_eq (O:=Dt.og R) (ho p (List.mem_filter.mp hp).1)) fun z=>of_decide_eq_true (List.mem_filter.mp z).2 rfl
theorem out_ring {R:List W}(ht:Tr beg fin (beg m0) R (beg m0))(hm:m0∈R){w p:W}(hw:w∈R)(hp:p=beg w∨p=fin w):Dt.og R p≠[]:=by
 have key:∀ {v:W},v∈R->Dt.og R (beg v)≠[]:=fun {v} hv z=>by
  have:v∈Dt.og R (beg v):=List.mem_filter.mpr ⟨hv,decide_eq_true rfl⟩
  rw [z] at this
  cases this
 rcases hp with rfl | rfl
 ·exact key hw
 ·by_cases e:fin w=beg m0
  ·rw [e]
   exact key hm
  ·exact exit_of ht hw e
theorem Whl.ring (hw:Whl E m0 O)(hb:Bal E (beg m0) (beg m0))(hps:∀ w∈E,beg w∈ps)(hc:Dt.cmT (ps.filter fun p=>decide (p≠beg m0)) (lsO O)=true)(hE:E≠[]) :
  ∃ r,walkO E.length O (beg m0)=m0::r∧(m0::r).Perm E∧Tr beg fin (beg m0) (m0::r) (beg m0)∧Dt.og (m0::r)=O:=by
 have hlead:LeadX (fun p=>if p∈ps∧p≠beg m0 then lsO O p else 0::beg m0) (beg m0) O:=by
  refine ⟨fun p hp l hl=>?_,fun χ hχ=>?_⟩
  ·have hm:=hw.mem.mp (List.mem_of_getLast? hl)
   have hps':=hps l hm.1
   rw [hm.2] at hps'
   dsimp only
   rw [if_pos ⟨hps',hp⟩]
   unfold lsO
   rw [hl]
   rfl
  ·refine Dt.cmT_iff.mp hc χ fun p hp=>?_
   obtain ⟨h1,h2⟩:=hχ p hp
   dsimp only at h2
   by_cases e:p∈ps
   ·rw [if_pos ⟨e,h1⟩] at h2
    exact ⟨List.mem_filter.mpr ⟨e,decide_eq_true h1⟩,h2⟩
   ·rw [if_neg (fun z=>e z.1)] at h2
    exact absurd rfl (hχ _ h2).1
 obtain ⟨h1,h2⟩:=all_goneX E.length rfl hb (O:=O) hw.1 hlead
 obtain ⟨r0,e0⟩:=hw.2
 have hl:E.length≠0:=fun z=>hE (List.length_eq_zero_iff.mp z)
 have hf:=walk_filter E.length (v:=beg m0) rfl (O:=O) hw.1 h1.length_eq
 obtain ⟨r,er⟩:∃ r,walkO E.length O (beg m0)=m0::r:=by
  obtain ⟨k,hk⟩:∃ k,E.length=k+1:=⟨E.length-1,by omega⟩
  rw [hk]
  unfold walkO
  rw [e0]
  exact ⟨_,rfl⟩
 rw [er] at h1 h2 hf
 exact ⟨r,er,h1,h2,funext hf⟩
theorem Whl.other (hw:Whl E m0 O)(hn:ps.Nodup)(ho:∀ p∈ps,O p≠[])(hps:∀ w∈E,beg w∈ps){fs:List (List W)}(hl:fs.length=ps.length)(hf:∀ (j:Nat) (p:W) (f:List W),ps[j]?=some p->fs[j]?=some f->f.Perm (ptO (beg m0) O p)) :
  ∃ O',Whl E m0 O'∧(∀ p∈ps,O' p≠[])∧ps.map (ptO (beg m0) O')=fs∧∀ p∈ps,p≠beg m0->lsO O' p=lsO O p:=by
 have hm0:beg m0∈ps:=by
  obtain ⟨r,e⟩:=hw.2
  exact hps m0 (hw.mem.mp (by rw [e];exact List.mem_cons_self ..)).1
 have hfp:∀ p∈ps,∃ f,fs[ps.idxOf p]?=some f∧f.Perm (ptO (beg m0) O p):=fun p hp=>by
  have hi:ps.idxOf p<ps.length:=List.idxOf_lt_length_of_mem hp
  refine ⟨fs[ps.idxOf p]'(by omega),List.getElem?_eq_getElem _,hf (ps.idxOf p) p _ ?_ (List.getElem?_eq_getElem _)⟩
  rw [List.getElem?_eq_getElem hi,List.getElem_idxOf]
 refine ⟨fun p=>if p∈ps then (if p=beg m0 then m0::(fs[ps.idxOf p]?).getD [] else (fs[ps.idxOf p]?).getD []++[lsO O p]) else [],⟨fun p=>?_,(fs[ps.idxOf (beg m0)]?).getD [],?_⟩,fun p hp=>?_,?_,fun p hp he=>?_⟩
 ·dsimp only
  by_cases hp:p∈ps
  ·rw [if_pos hp]
   obtain ⟨f,e1,e2⟩:=hfp p hp
   rw [e1]
   refine List.Perm.trans ?_ (hw.1 p)
   unfold ptO at e2
   by_cases e:p=beg m0
   ·rw [if_pos e] at e2 ⊢
    have h3:=hw.head
    rw [<- e] at h3
    rw [<- h3]
    exact e2.cons _
   ·rw [if_neg e] at e2 ⊢
    rw [<- drop_last (ho p hp)]
    exact e2.append_right _
  ·rw [if_neg hp]
   have:Dt.og E p=[]:=by
    unfold Dt.og
    rw [List.filter_eq_nil_iff]
    intro w hw' z
    exact hp (of_decide_eq_true z▸hps w hw')
   rw [this]
 ·dsimp only
  rw [if_pos hm0,if_pos rfl]
 ·dsimp only
  rw [if_pos hp]
  split
  ·exact List.cons_ne_nil _ _
  ·exact List.append_ne_nil_of_right_ne_nil _ (List.cons_ne_nil _ _)
 ·refine List.ext_getElem? fun j=>?_
  rw [List.getElem?_map]
  by_cases hj:j<ps.length
  ·rw [List.getElem?_eq_getElem hj,List.getElem?_eq_getElem (by omega:j<fs.length)]
   have hp:ps[j]∈ps:=List.getElem_mem hj
   have hi:ps.idxOf ps[j]=j:=List.Nodup.idxOf_getElem hn j hj
   show some (ptO _ _ _)=_
   unfold ptO
   dsimp only
   rw [if_pos hp,hi,List.getElem?_eq_getElem (by omega:j<fs.length)]
   by_cases e:ps[j]=beg m0
   ·rw [if_pos e,if_pos e];rfl
   ·rw [if_neg e,if_neg e,List.dropLast_concat];rfl
  ·rw [List.getElem?_eq_none (by omega),List.getElem?_eq_none (by omega)];rfl
 ·have:∀ l:List W,∀ x:W,lsO (fun _=>l++[x]) p=x:=fun l x=>by
   unfold lsO
   rw [List.getLast?_concat];rfl
  unfold lsO
  dsimp only
  rw [if_pos hp,if_neg he,List.getLast?_concat];rfl
theorem ptT_cong {O':W->List W}(hl:∀ p∈ps,p≠h->lsO O' p=lsO O p):ptT h O' ps=ptT h O ps:=by
 unfold ptT
 exact List.map_congr_left fun p hp=>hl p (List.mem_filter.mp hp).1 (of_decide_eq_true (List.mem_filter.mp hp).2)
end
end Wd
namespace L2
open PySem PySem.Spec PyProof.Rows
def tx (l:List Nat):Str:=⟨l.toArray⟩
abbrev T (l:List Nat):V:=.str (tx l)
theorem tx_len (l:List Nat):(tx l).length=l.length:=by simp [tx,Str.length]
theorem tx_cps (l:List Nat):(tx l).cps.toList=l:=by simp [tx]
theorem tx_eta (x:Str):tx x.cps.toList=x:=by cases x;simp [tx]
theorem tx_inj {a b:List Nat}(h:tx a=tx b):a=b:=by
 have e:=congrArg (fun x:Str=>x.cps.toList) h
 simpa [tx] using e
theorem T_inj {a b:List Nat}(h:T a=T b):a=b:=tx_inj (V.str.inj h)
theorem T_dec {a b:List Nat}:decide (T a=T b)=decide (a=b):=by
 rw [Bool.eq_iff_iff,decide_eq_true_iff,decide_eq_true_iff]
 exact ⟨T_inj,fun h=>by rw [h]⟩
theorem tx_app (a b:List Nat):tx a++tx b=tx (a++b):=by
 rw [<- tx_eta (tx a++tx b),PySem.W.KT.app_list,tx_cps,tx_cps]
section
variable {X:Cx}
theorem op_add_T:OpR X (binaryOp .Add) (fun x y H Q=>∃ a,x=T a∧∃ b,y=T b∧a.length+b.length<=sizeLine∧Q (T (a++b)) H):=by
 intro pins s σ H x y v u Q I rx ry h
 obtain ⟨a,e1,b,e2,hz,q⟩:=h
 exact op_add_str pins s σ H x y v u Q I rx ry ⟨tx a,tx b,e1,e2,by rw [tx_len,tx_len];exact hz,by rw [tx_app];exact q⟩
theorem op_eq_T:OpR X (compareOp .Eq) (fun x y H Q=>∃ a,x=T a∧∃ b,y=T b∧Q (.bl (decide (a=b))) H):=by
 intro pins s σ H x y v u Q I rx ry h
 obtain ⟨a,rfl,b,rfl,q⟩:=h
 exact op_eq pins s σ H _ _ v u Q I rx ry ⟨rfl,by rw [T_dec];exact q⟩
theorem op_ne_T:OpR X (compareOp .NotEq) (fun x y H Q=>∃ a,x=T a∧∃ b,y=T b∧Q (.bl (!decide (a=b))) H):=by
 intro pins s σ H x y v u Q I rx ry h
 obtain ⟨a,rfl,b,rfl,q⟩:=h
 exact op_ne pins s σ H _ _ v u Q I rx ry ⟨rfl,by rw [T_dec];exact q⟩
theorem op_eq_I:OpR X (compareOp .Eq) (fun x y H Q=>∃ a,x = .int a∧∃ b,y = .int b∧Q (.bl (decide (a=b))) H):=by
 intro pins s σ H x y v u Q I rx ry h
 obtain ⟨a,rfl,b,rfl,q⟩:=h
 exact op_eq pins s σ H _ _ v u Q I rx ry ⟨rfl,by rw [dec_int,Bool.beq_eq_decide_eq];exact q⟩
theorem op_ne_I:OpR X (compareOp .NotEq) (fun x y H Q=>∃ a,x = .int a∧∃ b,y = .int b∧Q (.bl (!decide (a=b))) H):=by
 intro pins s σ H x y v u Q I rx ry h
 obtain ⟨a,rfl,b,rfl,q⟩:=h
 exact op_ne pins s σ H _ _ v u Q I rx ry ⟨rfl,by rw [dec_int,Bool.beq_eq_decide_eq];exact q⟩
def cutL (l:List Nat)(lo hi:Option Int):List Nat:=(l.drop (HT.sIx l.length 0 lo)).take (HT.sIx l.length l.length hi-HT.sIx l.length 0 lo)
theorem clip_sIx (v:Option Int)(n d:Nat):(match v with | none=>(d:Int) | some i=>max 0 (min (if i<0 then i+(n:Int) else i) (n:Int)))=((HT.sIx n d v:Nat):Int):=by
 cases v with
 | none=>rfl
 | some i =>
  show max 0 (min (if i<0 then i+(n:Int) else i) (n:Int))=(((if i<0 then (i+(n:Int)).toNat else min i.toNat n):Nat):Int)
  by_cases hi:i<0
  ·simp only [if_pos hi];omega
  ·simp only [if_neg hi];omega
theorem indices_sIx (lo hi:Option Int)(n:Nat):Builtin.Str.strSliceIndices lo hi 1 n=Builtin.Str.strSliceIndices (some ((HT.sIx n 0 lo:Nat):Int)) (some ((HT.sIx n n hi:Nat):Int)) 1 n:=by
 have h1:=HT.sIx_le n 0 (Nat.zero_le _) lo
 have h2:=HT.sIx_le n n (Nat.le_refl _) hi
 have c1:=clip_sIx lo n 0
 have c2:=clip_sIx hi n n
 have d1:=clip_sIx (some ((HT.sIx n 0 lo:Nat):Int)) n 0
 have d2:=clip_sIx (some ((HT.sIx n n hi:Nat):Int)) n n
 rw [HT.sIx_nat,Nat.min_eq_left h1] at d1
 rw [HT.sIx_nat,Nat.min_eq_left h2] at d2
 unfold Builtin.Str.strSliceIndices
 simp only [show ((1:Int)>0) from by decide,if_true]
 have g:∀ a b c d:Int,a=c->b=d->sliceRange a b 1=sliceRange c d 1:=fun a b c d h1 h2=>by rw [h1,h2]
 exact g _ _ _ _ (c1.trans d1.symm) (c2.trans d2.symm)
theorem slice_tx (l:List Nat)(lo hi:Option Int):Txt.slice (tx l) lo hi=tx (cutL l lo hi):=by
 have h1:=HT.sIx_le l.length 0 (Nat.zero_le _) lo
 have h2:=HT.sIx_le l.length l.length (Nat.le_refl _) hi
 unfold Txt.slice
 rw [tx_len,indices_sIx]
 by_cases hab:HT.sIx l.length 0 lo<=HT.sIx l.length l.length hi
 ·have e:=StrLaws.sliceText_nat (tx l) hab (by rw [tx_len];exact h2)
  unfold StrLaws.sliceText at e
  rw [tx_len,tx_cps] at e
  exact e
 ·have e0:Builtin.Str.strSliceIndices (some ((HT.sIx l.length 0 lo:Nat):Int)) (some ((HT.sIx l.length l.length hi:Nat):Int)) 1 l.length=[]:=by
   unfold Builtin.Str.strSliceIndices sliceRange
   have n1:¬ (((HT.sIx l.length 0 lo:Nat):Int)<0):=by omega
   have n2:¬ (((HT.sIx l.length l.length hi:Nat):Int)<0):=by omega
   simp only [show ((1:Int)>0) from by decide,if_true,if_neg n1,if_neg n2]
   have n3:¬ (max (0:Int) (min ((HT.sIx l.length 0 lo:Nat):Int) (l.length:Int))<max (0:Int) (min ((HT.sIx l.length l.length hi:Nat):Int) (l.length:Int))):=by omega
   simp [n3]
  have e1:cutL l lo hi=[]:=by
   unfold cutL
   rw [show HT.sIx l.length l.length hi-HT.sIx l.length 0 lo=0 by omega,List.take_zero]
  rw [e0,e1]
  cases l with
  | nil=>rfl
  | cons c r=>rfl
theorem sl_T:SlR X (fun x lo hi H Q=>∃ a,x=T a∧a.length<=sizeLine∧Q (T (cutL a lo hi)) H):=by
 intro pins s σ H x v vl vu lo hi sl Q I rx hs pl pu h
 obtain ⟨a,rfl,hz,q⟩:=h
 obtain ⟨t,rfl⟩:=rx
 obtain ⟨l,hl1,hl2⟩:∃ l:Option (Int×Tok),partValue l=vl∧l.map (·.1)=lo:=by
  cases pl with
  | none=>exact ⟨none,rfl,rfl⟩
  | int i t=>exact ⟨some (i,t),rfl,rfl⟩
 obtain ⟨u,hu1,hu2⟩:∃ u:Option (Int×Tok),partValue u=vu∧u.map (·.1)=hi:=by
  cases pu with
  | none=>exact ⟨none,rfl,rfl⟩
  | int i t=>exact ⟨some (i,t),rfl,rfl⟩
 refine ⟨"str",_,F.slot_str_getitem.lookup,typeIs_str _ _ _,?_⟩
 have hsl:s.heap.IsSlice sl l u none:=by
  obtain ⟨o,ho,hc,hd⟩:=hs
  exact ⟨o,ho,hc,by rw [hl1,hu1];exact hd⟩
 refine wpAny_getItem_str_slice hsl rfl ?_
 have key:(if ((1:Int)==1&&(Builtin.Str.strSliceIndices lo hi 1 (tx a).length).length==(tx a).length)=true then (tx a) else ⟨((Builtin.Str.strSliceIndices lo hi 1 (tx a).length).filterMap ((tx a).cps[·]?)).toArray⟩)=tx (cutL a lo hi):=slice_tx a lo hi
 unfold sliceMade slicePicked
 rw [hl2,hu2]
 refine post_val_or_str ⟨?_,fun t' k=>?_⟩
 ·show (Txt.slice (tx a) lo hi).length<=sizeLine
  exact Nat.le_trans (Txt.slice_le _ _ _) (by rw [tx_len];exact hz)
 ·refine ⟨T (cutL a lo hi),H,I.tok _,⟨t',?_⟩,q⟩
  exact congrArg (fun z=>Value.str z t') key
theorem rep_length (n:Nat)(l:List Nat):(Wd.rep n l).length=n*l.length:=Wd.rep_len n l
theorem foldl_cps (n:Nat)(c:Array Nat):∀ acc:Array Nat,(List.replicate n c).foldl (· ++ ·) acc=acc++(Wd.rep n c.toList).toArray:=by
 induction n with
 | zero=>intro acc;simp [Wd.rep]
 | succ n ih =>
  intro acc
  rw [List.replicate_succ,List.foldl_cons,ih]
  rw [Wd.rep_succ,Array.append_assoc]
  congr 1
  apply Array.ext'
  simp
theorem mul_tx (n:Nat)(l:List Nat):Txt.mul (tx l) (n:Int)=tx (Wd.rep n l):=by
 unfold Txt.mul
 by_cases h1:(n:Int)<1
 ·have e:n=0:=by omega
  subst e
  rw [if_pos h1]
  rfl
 ·rw [if_neg h1]
  by_cases h2:((n:Int)==1||(tx l).length==0)=true
  ·rw [if_pos h2]
   rw [Bool.or_eq_true,beq_iff_eq,beq_iff_eq,tx_len] at h2
   rcases h2 with h2 | h2
   ·have e:n=1:=by omega
    subst e
    rw [Wd.rep_one]
   ·have e:l=[]:=List.length_eq_zero_iff.mp h2
    subst e
    have:Wd.rep n []=[]:=List.length_eq_zero_iff.mp (by rw [rep_length];simp)
    rw [this]
  ·rw [if_neg h2,Int.toNat_natCast,foldl_cps]
   simp [tx]
theorem op_mul_T:OpR X (binaryOp .Mult) (fun x y H Q=>∃ a,x=T a∧∃ n:Nat,y = .int n∧(n<=sizeLine∧n*a.length<=sizeLine)∧Q (T (Wd.rep n a)) H):=by
 intro pins s σ H x y v u Q I rx ry h
 obtain ⟨a,rfl,n,rfl,⟨h1,h2⟩,q⟩:=h
 obtain ⟨t,rfl⟩:=rx
 obtain ⟨t',rfl⟩:=ry
 have hs:sizeLine=16777216:=sizeLine_eq
 refine SB.mul ⟨?_,?_,?_⟩ fun t' k=>⟨T (Wd.rep n a),H,I.tok _,⟨t',by rw [mul_tx]⟩,q⟩
 ·have e1:decide ((n:Int) < -(2 ^ 63:Int))=false:=decide_eq_false (by omega)
  have e2:decide ((n:Int)≥2 ^ 63)=false:=decide_eq_false (by omega)
  rw [e1,e2]
  rfl
 ·intro hn _
  rw [tx_len]
  have h3:n*a.length<=16777216:=by omega
  intro hc
  have h4:((n*a.length:Nat):Int)<=16777216:=by omega
  have hn':(0:Int)<n:=by omega
  have h5:((2 ^ 63-1)/(n:Int))*n<=2 ^ 63-1:=Int.ediv_mul_le _ (by omega)
  have h6:(2 ^ 63-1:Int)<((2 ^ 63-1)/(n:Int)+1)*n:=Int.lt_ediv_add_one_mul_self _ hn'
  have h7:((2 ^ 63-1)/(n:Int)+1)*n<=(a.length:Int)*n:=Int.mul_le_mul_of_nonneg_right (by omega) (by omega)
  have h8:((n*a.length:Nat):Int)=(a.length:Int)*n:=by rw [Int.natCast_mul,Int.mul_comm]
  omega
 ·intro hn _
  rw [tx_len,Int.toNat_natCast,Nat.mul_comm]
  unfold Builtin.Str.tooLong
  exact decide_eq_false (by omega)
theorem strsAre_T:∀ {ls:List (List Nat)} {us:List Value},Vals (ls.map T) us->StrsAre us (ls.map tx)
 | [],us,r=>by
  cases r
  exact .nil
 | l::ls,us,r=>by
  rw [List.map_cons] at r
  cases r with
  | cons r1 r2 =>
   obtain ⟨t,rfl⟩:=r1
   exact .cons _ _ (strsAre_T r2)
theorem glued_empty:∀ (ls:List (List Nat)) (acc:Array Nat),(ls.map tx).foldl (fun acc p=>acc++(tx []).cps++p.cps) acc=acc++ls.flatten.toArray
 | [],acc=>by simp
 | l::ls,acc=>by
  rw [List.map_cons,List.foldl_cons,glued_empty ls]
  simp [tx]
theorem join_tx (ls:List (List Nat)):Txt.join (tx []) (ls.map tx)=tx ls.flatten:=by
 unfold Txt.join Builtin.Str.glued
 cases ls with
 | nil=>rfl
 | cons l ls =>
  rw [List.map_cons,List.drop_succ_cons,List.drop_zero,List.headD_cons,glued_empty]
  simp [tx]
theorem sum_len_tx (ls:List (List Nat)):((ls.map tx).map (·.length)).sum=ls.flatten.length:=by
 induction ls with
 | nil=>rfl
 | cons l ls ih=>rw [List.map_cons,List.map_cons,List.sum_cons,ih,List.flatten_cons,List.length_append,tx_len]
theorem mt_join:MtR X "str.join" (fun x xs H Q=>x=T []∧∃ (p:Addr) (ls:List (List Nat)),xs=[.ref p]∧SqL X.K H p (ls.map T)∧ls.flatten.length<=sizeLine∧Q (T ls.flatten) H):=by
 intro pins s σ H x xs v us Q I rx rs h
 obtain ⟨rfl,p,ls,rfl,hq,hz,q⟩:=h
 obtain ⟨t,rfl⟩:=rx
 obtain ⟨u,rfl,ru⟩:=vals1 rs
 cases ru
 obtain ⟨its,r,pl,_⟩:=I.list hq
 have hs:sizeLine=16777216:=sizeLine_eq
 refine join_list pl.isList (ys:=ls.map tx) (by simpa using strsAre_T r) ?_ fun t' k=>⟨T ls.flatten,H,I.tok _,⟨t',by rw [join_tx]⟩,q⟩
 rw [sum_len_tx,tx_len,List.length_nil,Nat.mul_zero]
 omega
end
end L2
namespace L2
theorem cutL_from {w:List Nat}{k:Nat}(h:k<=w.length):cutL w (some (k:Int)) none=w.drop k:=by
 unfold cutL
 rw [HT.sIx_nat,HT.sIx_none,Nat.min_eq_left h]
 exact List.take_of_length_le (by rw [List.length_drop];omega)
theorem cutL_to {w:List Nat}{k:Nat}(h:k<=w.length):cutL w none (some (k:Int))=w.take k:=by
 unfold cutL
 rw [HT.sIx_nat,HT.sIx_none,Nat.min_eq_left h,List.drop_zero,Nat.sub_zero]
theorem cutL_mid {w:List Nat}{a b:Nat}(hb:b<=w.length)(hab:a<=b):cutL w (some (a:Int)) (some (b:Int))=(w.drop a).take (b-a):=by
 unfold cutL
 rw [HT.sIx_nat,HT.sIx_nat,Nat.min_eq_left hb,Nat.min_eq_left (show a<=w.length by omega)]
end L2
namespace L2
open PySem PySem.Spec PyProof.Rows
set_option genInjectivity false in
structure CompSc (N N':List Str)(sc scope:Scope)(x:Str):Prop where
 kind:scope.kind = .function
 cell:∀ y∈scope.names,y.2≠.cell
 names:∀ y∈scope.names,y.2 = .local->scope.names.lookup y.1=some .local
 var:scope.names.lookup x=some .local
 ok:∀ y∈scope.names,y.2 = .free->sc.names.lookup y.1=some .cell∨sc.names.lookup y.1=some .free
 hd:N'[0]?=some x
 len:N'.length=N.length+1
 sub:∀ i,i<N.length->N'[i+1]?=N[i]?∨(N'[i+1]?.map fun y=>scope.names.lookup y)=some none
 noe:scope.names.lookup ("" : Str)=none
 nol:∀ y∈N'.tail,scope.names.lookup y≠some .local
 nd:N'.Nodup
def closOf (cells:List (Str×Addr)):List (Str×NameKind)->List (Str×Addr)->List (Str×Addr)
 | [],acc=>acc
 | (n,k)::r,acc=>closOf cells r (if k == .free then (n,(cells.lookup n).getD 0)::acc else acc)
theorem clos_sound {cells:List (Str×Addr)}{y:Str}{c:Addr}:∀ (names:List (Str×NameKind)) (acc:List (Str×Addr)),(∀ z∈names,z.2 = .free->∃ c,cells.lookup z.1=some c) ->
  (acc.lookup y=some c->cells.lookup y=some c)->(closOf cells names acc).lookup y=some c->cells.lookup y=some c
 | [],acc,_,ha,h=>ha h
 | (n,k)::r,acc,hz,ha,h=>by
  unfold closOf at h
  refine clos_sound r _ (fun z hm=>hz z (List.mem_cons_of_mem _ hm)) (fun q=>?_) h
  split at q
  ·rename_i hk
   obtain ⟨c',e⟩:=hz (n,k) List.mem_cons_self (by simpa using hk)
   rw [List.lookup_cons] at q
   split at q
   ·rename_i he
    have:y=n:=by simpa using he
    subst this
    rw [e] at q
    rw [e]
    exact q
   ·exact ha q
  ·exact ha q
theorem clos_acc {cells:List (Str×Addr)}{y:Str}:∀ (names:List (Str×NameKind)) (acc:List (Str×Addr)),(∃ c,acc.lookup y=some c)->∃ c,(closOf cells names acc).lookup y=some c
 | [],acc,h=>h
 | (n,k)::r,acc,⟨c,h⟩=>by
  unfold closOf
  refine clos_acc r _ ?_
  split
  ·rw [List.lookup_cons]
   split
   ·exact ⟨_,rfl⟩
   ·exact ⟨c,h⟩
  ·exact ⟨c,h⟩
theorem clos_has {cells:List (Str×Addr)}{y:Str}:∀ (names:List (Str×NameKind)) (acc:List (Str×Addr)),(y,NameKind.free)∈names->∃ c,(closOf cells names acc).lookup y=some c
 | (n,k)::r,acc,h=>by
  unfold closOf
  rcases List.mem_cons.mp h with e | h
  ·cases e
   refine clos_acc r _ ⟨(cells.lookup y).getD 0,?_⟩
   simp
  ·exact clos_has r _ h
theorem clos_eq {scope:Scope}{env:Env}(h:∀ z∈scope.names,z.2 = .free->∃ c,env.cells.lookup z.1=some c):closureFor scope env=pure (closOf env.cells scope.names []):=by
 have gen:∀ (names:List (Str×NameKind)) (acc:List (Str×Addr)),(∀ z∈names,z.2 = .free->∃ c,env.cells.lookup z.1=some c) ->
   (forIn names acc fun (x:Str×NameKind) (r:List (Str×Addr))=>(if (x.2==NameKind.free)=true then (do let a <- cellOf env x.1;pure (ForInStep.yield ((x.1,a)::r))) else pure (ForInStep.yield r):Sem (ForInStep (List (Str×Addr)))))=(pure (closOf env.cells names acc):Sem (List (Str×Addr))):=by
  intro names
  induction names with
  | nil=>intro acc _;rfl
  | cons z r ih =>
   intro acc hz
   obtain ⟨n,k⟩:=z
   rw [List.forIn_cons]
   unfold closOf
   by_cases hk:(k==NameKind.free)=true
   ·obtain ⟨c,e⟩:=hz (n,k) List.mem_cons_self (by simpa using hk)
    have e':env.cells.lookup n=some c:=e
    simp only [hk,if_true,cellOf,e',pure_bind,Option.getD_some]
    exact ih _ fun z hm=>hz z (List.mem_cons_of_mem _ hm)
   ·simp only [hk,Bool.false_eq_true,if_false,pure_bind]
    exact ih _ fun z hm=>hz z (List.mem_cons_of_mem _ hm)
 have g:=gen scope.names [] h
 unfold closureFor
 refine Eq.trans ?_ (congrArg (fun (m:Sem (List (Str×Addr)))=>m >>= fun cs=>pure cs) g)
 rfl
theorem relabel_lookup (scope:Scope)(env:Env)(y:Str):(relabel scope env).names.lookup y=(scope.names.lookup y).map fun k=>if (k==NameKind.free&&env.scope.kind == .function&&env.kindOf y==some .cell)=true then NameKind.cell else k:=by
 unfold relabel
 show List.lookup y (scope.names.map fun (n,k)=>if (k==NameKind.free&&env.scope.kind == .function&&env.kindOf n==some .cell)=true then (n,NameKind.cell) else (n,k))=_
 induction scope.names with
 | nil=>rfl
 | cons z r ih =>
  obtain ⟨n,k⟩:=z
  rw [List.map_cons]
  by_cases hy:(y==n)=true
  ·have e:y=n:=by simpa using hy
   subst e
   by_cases hc:(k==NameKind.free&&env.scope.kind == .function&&env.kindOf y==some .cell)=true
   ·simp only [hc,if_true,List.lookup_cons,beq_self_eq_true,Option.map_some]
   ·simp only [hc,if_false,List.lookup_cons,beq_self_eq_true,Option.map_some,Bool.false_eq_true]
  ·have hy':(y==n)=false:=by simpa using hy
   by_cases hc:(k==NameKind.free&&env.scope.kind == .function&&env.kindOf n==some .cell)=true
   ·simp only [hc,if_true,List.lookup_cons,hy']
    exact ih
   ·simp only [hc,if_false,List.lookup_cons,hy',Bool.false_eq_true]
    exact ih
theorem lookup_mem {κ:Type}:∀ {l:List (Str×κ)} {y:Str} {k:κ},l.lookup y=some k->(y,k)∈l:=fun h=>PySem.mem_of_lookup h
abbrev cxComp (X:Cx)(N':List Str)(scope:Scope)(cl:List (Str×Addr))(C:Addr)(s:Shared)(H:Hp)(fp:List Addr):Cx :=
 { X with env:=compEnvC scope cl C X.env,N:=N',s₀:=s,H₀:=H,outer:=X.stack,stack:=X.stack,ex:=fp,fn:=fun _=>false,xe:=fun _ _=>False }
abbrev tstF (cds:List Expr)(env:Env):Sem Bool:=forIn cds true fun c r=>if r=true then do let ok <- isTrue c env (eval c env);pure (ForInStep.yield ok) else pure (ForInStep.yield r)
def PTL (X:Cx)(cds:List Expr)(t:TT):Prop :=
 ∀ (pins:List (Addr×Obj)) (s:Shared) (σ:St) (H:Hp) (Q:Bool->Hp->Prop),Inv X pins σ H s->t σ H Q->wpAny (model X.prog X.w) X.A (tstF cds X.env) (TP X pins σ Q) X.xe s
theorem ptl_nil {X:Cx}:PTL X [] (fun _ H k=>k true H):=fun pins s σ H Q I q=>wpAny_tests_nil ⟨H,I,q⟩
theorem ptl_one {X:Cx}{cd:Expr}{tc:TT}(h:PT X cd tc):PTL X [cd] tc:=fun pins s σ H Q I q=>wpAny_tests_one (h pins s σ H Q I q)
theorem codeAny_compLoop_ts {prog:Program}{w:World}{A:Around}{R:Result->Shared->Prop}{s:Shared}{elt target iter:Expr}{cds:List Expr}{scope:Scope}{pos:Pos}{it acc:Value}{env:Env}(I:Nat->Shared->Prop)
  (turn:∀ n s,I n s->wpAny (model prog w) A (pyNext it) (fun r s₁=>match r with
   | none=>R (.ok .next) s₁
   | some v=>wpAny (model prog w) A (letOwnedTupleGo target it v) (fun _ s₁'=>wpAny (model prog w) A (assign target env v) (fun _ s₂=>wpAny (model prog w) A (tstF cds env) (fun ok s₂' =>
    if ok=true then wpAny (model prog w) A (eval elt env) (fun x s₃ =>
     wpAny (model prog w) A (call (.builtin "list.append") [acc,x]) (fun _ s₄=>∃ m,m<n∧I m s₄) (fun _ _=>False) s₃) (fun _ _=>False) s₂'
    else ∃ m,m<n∧I m s₂') (fun _ _=>False) s₂) (fun _ _=>False) s₁') (fun _ _=>False) s₁) (fun _ _=>False) s)
  (n:Nat) (h:I n s) :
  codeAny (model prog w) A (.compLoop (.ListComp elt [⟨target,iter,cds,0⟩] scope pos) 0 it acc env) R s:=by
 refine codeAny_loop rfl I (fun n s hI=>?_) n h
 show wpAny _ A ((compTurn (.ListComp elt [⟨target,iter,cds,0⟩] scope pos) 0 it acc env).onRaise (fun x=>do noteFrame x env;theTreesLotGoes x)) _ _ s
 refine wpAny_noted ?_
 rw [compTurn_list]
 refine wpAny_bind (wpAny_standAt (wpAny_bind (wpAny_mono (turn n s hI) (fun r s₁ h₁=>?_) fun _ _ h'=>h'.elim)))
 cases r with
 | none=>exact wpAny_pure h₁
 | some v =>
  refine wpAny_bind (wpAny_mono h₁ (fun _ s₀ h₀=>?_) fun _ _ h'=>h'.elim)
  refine wpAny_bind (wpAny_mono h₀ (fun _ s₂ h₂=>?_) fun _ _ h'=>h'.elim)
  refine wpAny_bind ((wpAny_mono h₂ (fun ok s₃ h₃=>?_) fun _ _ h'=>h'.elim))
  cases ok with
  | false=>exact wpAny_pure ⟨rfl,by simpa using h₃⟩
  | true =>
   have h₃':=h₃
   simp only [if_true] at h₃'
   exact wpAny_bind (wpAny_bind (wpAny_mono h₃' (fun x s₄ h₄=>wpAny_bind (wpAny_mono h₄ (fun _ s₅ h₅=>wpAny_pure (wpAny_pure ⟨rfl,h₅⟩)) fun _ _ h'=>h'.elim)) fun _ _ h'=>h'.elim))
def compAt (te:TE)(σ:St)(Q:VK)(J:It)(H1:Hp):Prop:=∀ D,H1 D=none->∃ W:Nat->Nat->List V->Hp->Prop,(∃ m,W 0 m [] (upd H1 D (.lst [])))∧∀ i m ys H2,W i m ys H2 ->
 (J.stop i H2∧Q (.ref D) H2)∨(J.go i H2∧ys.length<sizeLine∧∃ N:V->Hp->Prop,(∀ v H',N v H'->H' D=some (.lst ys)∧∃ m',m'<m∧W (i+1) m' (ys++[v]) (upd H' D (.lst (ys++[v])))) ∧
  ∀ y H',J.yld i H2 y H'->te (some y::σ) H' N)
def tComp (wi:TI)(te:TE):TE:=fun σ H Q=>wi σ H (compAt te σ Q)
def compAtF (tc:TT)(te:TE)(σ:St)(Q:VK)(J:It)(H1:Hp):Prop:=∀ D,H1 D=none->∃ W:Nat->Nat->List V->Hp->Prop,(∃ m,W 0 m [] (upd H1 D (.lst [])))∧∀ i m ys H2,W i m ys H2 ->
 (J.stop i H2∧Q (.ref D) H2)∨(J.go i H2∧ys.length<sizeLine∧∃ N:V->Hp->Prop,(∀ v H',N v H'->H' D=some (.lst ys)∧∃ m',m'<m∧W (i+1) m' (ys++[v]) (upd H' D (.lst (ys++[v])))) ∧
  ∃ Nn:Hp->Prop,(∀ H',Nn H'->∃ m',m'<m∧W (i+1) m' ys H') ∧
  ∀ y H',J.yld i H2 y H'->tc (some y::σ) H' fun b H''=>if b=true then te (some y::σ) H'' N else Nn H'')
def tCompF (wi:TI)(tc:TT)(te:TE):TE:=fun σ H Q=>wi σ H (compAtF tc te σ Q)
section
variable {X:Cx}{N':List Str}{scope:Scope}{x:Str}{px:Pos}{elt iter:Expr}{cds:List Expr}{pos:Pos}{te:TE}{tc:TT}{wi:TI}
theorem compx_core (S:CompSc X.N N' X.env.scope scope x)(hc:X.calm=true)(ht:∀ cl C s H fp,PTL (cxComp X N' scope cl C s H fp) cds tc)(he:∀ cl C s H fp,PE (cxComp X N' scope cl C s H fp) elt te)
  {pins:List (Addr×Obj)} {σ:St} {H:Hp} {s:Shared} {Q:VK} {E:Value->Shared->Prop} {RR:Value->Addr->Result->Shared->Prop} {it:Addr} {fp:List Addr} {tn:Nat->Heap->Prop} {J:It}
  (I:Inv X pins σ H s) (T:Turn X.prog X.w X.K (.Name x px) J fp it tn) (st:tn 0 s.heap) (f2:∀ b∈fp,FpOk X pins H b)
  (hw:compAtF tc te σ Q J H)
  (hRR:∀ D C s' H',Inv X pins σ H' s'->(∃ m,s'.heap.Ns C m)->C≠X.env.locals->(∀ y c,X.env.cells.lookup y=some c->c≠C)->H' C=none->X.s₀.heap.objs.size<=C->(∀ p∈X.pn++pins,p.1≠C)->Q (.ref D) H'->RR (.ref D) C (.ok .next) s') :
  ∃ cl,closureFor scope X.env=pure cl∧wpAny (model X.prog X.w) X.A (newList []) (fun acc s₃=>wpAny (model X.prog X.w) X.A (newFunctionEnv scope X.env.globals cl [] X.env.qual none .none (some X.env)) (fun cenv s₄ =>
   codeAny (model X.prog X.w) X.A (.compStart (.ListComp elt [⟨.Name x px,iter,cds,0⟩] scope pos) 0 (.ref it) acc { cenv with scope:=relabel scope X.env }) (RR acc cenv.locals) s₄) E s₃) E s:=by
 have hfree:∀ z∈scope.names,z.2 = .free->∃ c,X.env.cells.lookup z.1=some c:=fun z hz hk=>by
  rcases S.ok z hz hk with q | q
  ·exact I.ok.has z.1 (.inl q)
  ·exact I.ok.has z.1 (.inr q)
 refine ⟨_,clos_eq hfree,?_⟩
 have clS:∀ y c,(closOf X.env.cells scope.names []).lookup y=some c->X.env.cells.lookup y=some c:=fun y c=>clos_sound scope.names [] hfree fun q=>by cases q
 generalize hcl:closOf X.env.cells scope.names []=cl at clS
 have clH:∀ y,scope.names.lookup y=some .free->∃ c,cl.lookup y=some c:=fun y hy=>by
  rw [<- hcl]
  exact clos_has scope.names [] (lookup_mem hy)
 refine wpAny_newObj_type (wpAny_newFunctionEnv S.cell (by intro y hy;simp at hy) (fun h₁ hns₁ hsb₁=>?_) S.kind)
 have I3:Inv X pins σ (upd H s.heap.objs.size (.lst [])) { s with heap:=s.heap.push { cls:=.type "list",data:=.seq ([]:List Value).toArray } }:=I.lnew (t':=s.toks) .nil (Nat.zero_le _)
 obtain ⟨W,⟨m0,w0⟩,turn⟩:=hw s.heap.objs.size I.fresh
 dsimp only at hns₁ hsb₁ ⊢
 generalize hs3:({ s with heap:=s.heap.push { cls:=.type "list",data:=.seq ([]:List Value).toArray } }:Shared)=s3 at I3
 have hh3:s3.heap=s.heap.push { cls:=.type "list",data:=.seq ([]:List Value).toArray }:=by rw [<- hs3]
 have hsz3:s3.heap.objs.size=s.heap.objs.size+1:=by rw [hh3,Heap.size_push]
 rw [<- hh3] at hns₁ hsb₁ ⊢
 have old:∀ b o,s3.heap.get? b=some o->h₁.get? b=some o:=fun b o e=>hsb₁.extBut b o (by have:=Heap.lt_size e;exact Nat.ne_of_lt this) (Heap.get?_push_of_some _ e)
 have old0:∀ b o,s.heap.get? b=some o->h₁.get? b=some o:=fun b o e=>old b o (by rw [hh3];exact Heap.get?_push_of_some _ e)
 have CneL:s3.heap.objs.size≠X.env.locals:=Nat.ne_of_gt I3.lt
 have CneC:∀ y c,X.env.cells.lookup y=some c->c≠s3.heap.objs.size:=fun y c e z=>by
  obtain ⟨v,q⟩:=I3.cell y c e
  have:=q.lt
  rw [z] at this
  exact absurd this (Nat.lt_irrefl _)
 have CneP:∀ p∈X.pn++pins,p.1≠s3.heap.objs.size:=fun p hp z=>by
  have:=Heap.lt_size (I3.pin p hp).1
  rw [z] at this
  exact absurd this (Nat.lt_irrefl _)
 have CfreeH:∀ b o,s3.heap.get? b=some o->b<s3.heap.objs.size:=fun b o e=>by have:=Heap.lt_size e;exact this
 have fpLt:∀ b∈fp,b<s3.heap.objs.size:=fun b hb=>by
  obtain ⟨o,e,_⟩:=T.obj 0 s.heap st b hb
  rw [hsz3]
  exact Nat.lt_succ_of_lt (Heap.lt_size e)
 have fpD:∀ b∈fp,b≠s.heap.objs.size:=fun b hb=>by
  obtain ⟨o,e,_⟩:=T.obj 0 s.heap st b hb
  exact Nat.ne_of_lt (Heap.lt_size e)
 have ok':(cxComp X N' scope cl s3.heap.objs.size s3 (upd H s.heap.objs.size (.lst [])) fp).Ok:=by
  refine ⟨I3.ok.mod,?_,I3.ok.glob,I3.ok.blt,Nat.le_refl _,fun y z c h1 h2=>I3.ok.inj y z c (clS y c h1) (clS z c h2),fun y hy=>?_,fun y c hf=>(by cases hf),I3.ok.hd,I3.ok.frames,.inl rfl,fun b hb=>⟨Nat.ne_of_lt (fpLt b hb),fun y c e=>(f2 b hb).2.2.2.2.1 y c (clS y c e)⟩,
   fun b o e=>I3.bs b o e,Nat.le_trans I3.ok.bsz I3.sz,fun b o e hb=>?_,fun b hb z=>?_,I3.stack,I3.stkFree⟩
  ·show (relabel scope X.env).kind = .function
   exact S.kind
  ·have hy':(relabel scope X.env).names.lookup y=some .cell∨(relabel scope X.env).names.lookup y=some .free:=hy
   rw [relabel_lookup] at hy'
   cases q:scope.names.lookup y with
   | none=>rw [q] at hy';rcases hy' with z | z <;> cases z
   | some k =>
    have hm:=lookup_mem q
    cases k with
    | free=>exact clH y q
    | cell=>exact absurd rfl (S.cell _ hm)
    | «local» => rw [q] at hy';rcases hy' with z | z <;> simp at z
    | globalExplicit=>rw [q] at hy';rcases hy' with z | z <;> simp at z
    | globalImplicit=>rw [q] at hy';rcases hy' with z | z <;> simp at z
  ·rcases (f2 b hb).2.2.2.1 with z | z
   ·exact I.ok.noex b o e z
   ·exact absurd (Nat.lt_of_lt_of_le (Heap.lt_size e) (Nat.le_trans I.ok.bsz z)) (Nat.lt_irrefl _)
  ·rcases List.mem_cons.mp (I3.stkSub b z) with q | q
   ·exact (f2 b hb).2.1 q
   ·exact (f2 b hb).2.2.1 q
 have fpOk':∀ {H':Hp},(∀ b∈fp,H' b=none)->∀ b∈fp,FpOk (cxComp X N' scope cl s3.heap.objs.size s3 (upd H s.heap.objs.size (.lst [])) fp) pins H' b:=fun hn b hb =>
  ⟨hn b hb,Nat.ne_of_lt (fpLt b hb),fun z=>by
   rcases List.mem_cons.mp (I3.stkSub b z) with q | q
   ·exact (f2 b hb).2.1 q
   ·exact (f2 b hb).2.2.1 q,.inl hb,fun y c e=>(f2 b hb).2.2.2.2.1 y c (clS y c e),(f2 b hb).2.2.2.2.2⟩
 have I4:Inv (cxComp X N' scope cl s3.heap.objs.size s3 (upd H s.heap.objs.size (.lst [])) fp) pins (none::σ) (upd H s.heap.objs.size (.lst [])) { s3 with heap:=h₁,toks:=s3.toks+([]:List (Str×Value)).length }:=by
  refine ⟨ok',rfl,I3.bare,Un.kept old,⟨_,hns₁,fun i y v e1 e2 vis=>?_⟩,fun y c e=>?_,?_,fun y c e=>I3.freeC y c (clS y c e),fun p hp=>?_,I3.hok.kept old,?_⟩
  ·cases i with
   | zero=>cases e2
   | succ i =>
    have e2':σ[i]?=some (some v):=by simpa using e2
    have hi:i<X.N.length:=by rw [<- I3.len];exact (List.getElem?_eq_some_iff.mp e2').1
    have vis':(relabel scope X.env).names.lookup y=some .local∨(relabel scope X.env).names.lookup y=some .cell∨(relabel scope X.env).names.lookup y=some .free:=vis
    have e1':N'[i+1]?=some y:=e1
    rcases S.sub i hi with q | q
    ·rw [e1'] at q
     have hy:X.N[i]?=some y:=q.symm
     have hmem:y∈N'.tail:=by
      rw [List.mem_iff_getElem?]
      exact ⟨i,by rw [List.getElem?_tail];exact e1'⟩
     have hfr:scope.names.lookup y=some .free:=by
      rw [relabel_lookup] at vis'
      cases q2:scope.names.lookup y with
      | none=>rw [q2] at vis';rcases vis' with z | z | z <;> cases z
      | some k =>
       cases k with
       | free=>rfl
       | cell=>exact absurd rfl (S.cell _ (lookup_mem q2))
       | «local» => exact absurd q2 (S.nol y hmem)
       | globalExplicit=>rw [q2] at vis';rcases vis' with z | z | z <;> simp at z
       | globalImplicit=>rw [q2] at vis';rcases vis' with z | z | z <;> simp at z
     have hok:=S.ok (y,.free) (lookup_mem hfr) rfl
     obtain ⟨m,hn,hl⟩:=I3.loc
     have visX:Vis X.env.scope y:=by
      rcases hok with z | z
      ·exact .inr (.inl z)
      ·exact .inr (.inr z)
     obtain ⟨u,r,l⟩:=hl i y v hy e2' visX
     refine ⟨u,r,.inr ⟨?_,?_⟩⟩
     ·show (relabel scope X.env).names.lookup y=some .cell∨(relabel scope X.env).names.lookup y=some .free
      rw [relabel_lookup,hfr,Option.map_some]
      by_cases hcnd:(NameKind.free==NameKind.free&&X.env.scope.kind == .function&&X.env.kindOf y==some .cell)=true
      ·left
       rw [if_pos hcnd]
      ·right
       rw [if_neg hcnd]
     ·rcases l with ⟨k,_⟩ | ⟨k,c,e,z⟩
      ·have k':X.env.scope.names.lookup y=some .local:=k
       have hok':X.env.scope.names.lookup y=some .cell∨X.env.scope.names.lookup y=some .free:=hok
       rw [k'] at hok'
       rcases hok' with z | z <;> cases z
      ·obtain ⟨c',e'⟩:=clH y hfr
       have e3:=clS y c' e'
       rw [e] at e3
       cases e3
       obtain ⟨o,ho,hd⟩:=z
       exact ⟨c,e',o,old c o ho,hd⟩
    ·rw [e1'] at q
     have q:scope.names.lookup y=none:=Option.some.inj q
     rw [relabel_lookup,q] at vis'
     rcases vis' with z | z | z <;> cases z
  ·obtain ⟨v,o,ho,hd⟩:=I3.cell y c (clS y c e)
   exact ⟨v,o,old c o ho,hd⟩
  ·show upd H s.heap.objs.size (.lst []) s3.heap.objs.size=none
   exact I3.hok.fresh (Nat.le_refl _)
  ·obtain ⟨e,n,ne,nf,d⟩:=I3.pin p hp
   refine ⟨old _ _ e,n,CneP p hp,fun z=>?_,d⟩
   rcases List.mem_cons.mp (I3.stkSub p.1 z) with q | q
   ·exact ne q
   ·exact nf q
  ·show (none::σ).length=N'.length
   rw [S.len,List.length_cons,I3.len]
 have st4:tn 0 h₁:=T.keep 0 s.heap h₁ st fun b _ o e=>old0 b o e
 have loop:∀ s₄:Shared,s₄ = { s3 with heap:=h₁,toks:=s3.toks+([]:List (Str×Value)).length } ->
   codeAny (model X.prog X.w) X.A (.compLoop (.ListComp elt [⟨.Name x px,iter,cds,0⟩] scope pos) 0 (.ref it) (.ref s.heap.objs.size) (compEnvC scope cl s3.heap.objs.size X.env)) (RR (.ref s.heap.objs.size) s3.heap.objs.size) s₄:=by
  rintro s₄ rfl
  refine codeAny_compLoop_ts (fun n s'=>∃ i v0 ys H',Inv (cxComp X N' scope cl s3.heap.objs.size s3 (upd H s.heap.objs.size (.lst [])) fp) pins (v0::σ) H' s'∧tn i s'.heap∧(∀ b∈fp,H' b=none)∧W i n ys H') ?_ m0
   ⟨0,none,[],_,I4,st4,fun b hb=>by rw [upd_ne (fpD b hb)];exact (f2 b hb).1,w0⟩
  rintro n s5 ⟨i,v0,ys,H5,I5,st5,fr5,w5⟩
  rcases turn i n ys H5 w5 with ⟨stop,qn⟩ | ⟨go,hz,N,hN,Nn,hNn,step⟩
  ·refine thn (T.done (cxComp X N' scope cl s3.heap.objs.size s3 (upd H s.heap.objs.size (.lst [])) fp) rfl rfl rfl hc i pins s5 (v0::σ) H5 (fun _ _=>False) I5 (fpOk' fr5) st5 stop) fun r s6 ⟨hr,I6⟩=>?_
   subst hr
   have hch:∀ b∈fp,(b∈X.ex∨X.s₀.heap.objs.size<=b)∧b≠X.env.locals∧(∀ x c,X.env.cells.lookup x=some c->c≠b)∧∀ p∈X.pn++pins,p.1≠b:=fun b hb =>
    ⟨(f2 b hb).2.2.2.1,(f2 b hb).2.1,(f2 b hb).2.2.2.2.1,(f2 b hb).2.2.2.2.2⟩
   have I7:Inv X pins σ H5 s6:=I3.call' (ch:=fp) I6.os I6.base I6.hok I6.bare hch
   obtain ⟨m,hm,_⟩:=I6.loc
   exact hRR s.heap.objs.size s3.heap.objs.size s6 H5 I7 ⟨m,hm⟩ CneL CneC I6.free (Nat.le_trans I3.sz (Nat.le_refl _)) CneP qn
  ·refine thn (T.item (cxComp X N' scope cl s3.heap.objs.size s3 (upd H s.heap.objs.size (.lst [])) fp) rfl rfl rfl hc i pins s5 (v0::σ) H5 (fun _ _=>False) I5 (fpOk' fr5) st5 go) fun r s6 ⟨u,hr,h6⟩=>?_
   subst hr
   refine thn h6 fun _ s7 ⟨y,H7,I7,r7,y7,st7,fr7⟩=>?_
   have I7':=I7.pinned (fpOk' fr7) (T.obj _ _ st7)
   refine wpAny_assign_Name (store_ok (i:=0) (v:=y) I7' S.nd S.hd (.inl (lookup_relabel_local S.var)) r7 (fun s8 I8=>?_) (.inr (lookup_relabel_local S.var)))
   have I8':Inv (cxComp X N' scope cl s3.heap.objs.size s3 (upd H s.heap.objs.size (.lst [])) fp) (pins++pinsAt fp s7.heap) (some y::σ) H7 s8:=I8
   refine thn (ht cl s3.heap.objs.size s3 (upd H s.heap.objs.size (.lst [])) fp _ s8 (some y::σ) H7 (fun b H''=>if b=true then te (some y::σ) H'' N else Nn H'') I8' (step y H7 y7)) fun okb s8 ⟨H8,I8,q8⟩=>?_
   cases okb with
   | false =>
    have q8':Nn H8:=by simpa using q8
    obtain ⟨m',hm,w9⟩:=hNn H8 q8'
    refine ⟨m',hm,i+1,some y,ys,_,I8.unpinned,T.keep _ _ _ st7 fun b hb o e=>(I8.pin (b,o) (List.mem_append_right _ (List.mem_append_right _ (mem_pinsAt hb e)))).1,fun b hb=>?_,w9⟩
    obtain ⟨o,e,d⟩:=T.obj _ _ st7 b hb
    exact (I8.pin (b,o) (List.mem_append_right _ (List.mem_append_right _ (mem_pinsAt hb e)))).2.1
   | true =>
    refine thn (he cl s3.heap.objs.size s3 (upd H s.heap.objs.size (.lst [])) fp _ s8 (some y::σ) H8 N I8 (by simpa using q8)) fun w s9 ⟨v,H9,I9,r9,q9⟩=>?_
    obtain ⟨hD9,m',hm,w9⟩:=hN v H9 q9
    refine thn (mt_append _ s9 (some y::σ) H9 (.ref s.heap.objs.size) [v] (.ref s.heap.objs.size) [w] (fun z H10=>z = .non∧H10=upd H9 s.heap.objs.size (.lst (ys++[v]))) I9 rfl (.cons r9 .nil) ⟨s.heap.objs.size,ys,v,rfl,rfl,hD9,hz,rfl,rfl⟩) fun _ s10 ⟨z,H10,I10,_,ez,e10⟩=>?_
    subst e10
    refine ⟨m',hm,i+1,some y,ys++[v],_,I10.unpinned,T.keep _ _ _ st7 fun b hb o e=>(I10.pin (b,o) (List.mem_append_right _ (List.mem_append_right _ (mem_pinsAt hb e)))).1,fun b hb=>?_,w9⟩
    obtain ⟨o,e,d⟩:=T.obj _ _ st7 b hb
    exact (I10.pin (b,o) (List.mem_append_right _ (List.mem_append_right _ (mem_pinsAt hb e)))).2.1
 exact codeAny_compStart_list (loop _ (by rw [<- hs3])) (T.self X.A 0 _ _ _ st4 (loop _ (by rw [<- hs3])))
theorem compAt.toF {te:TE}{σ:St}{Q:VK}{J:It}{H:Hp}(hw:compAt te σ Q J H):compAtF (fun _ H k=>k true H) te σ Q J H:=fun D hD=>by
 obtain ⟨W,h0,hW⟩:=hw D hD
 refine ⟨W,h0,fun i m ys H2 hw2=>?_⟩
 rcases hW i m ys H2 hw2 with g | ⟨g1,g2,N,g3,g4⟩
 ·exact .inl g
 ·exact .inr ⟨g1,g2,N,g3,fun _=>False,fun _ z=>z.elim,fun y H' hy=>iteT (g4 y H' hy)⟩
theorem pe_compx {at':St->VK->It->Hp->Prop}(S:CompSc X.N N' X.env.scope scope x)(hc:X.calm=true)(hi:PI X (.Name x px) iter wi)(ht:∀ cl C s H fp,PTL (cxComp X N' scope cl C s H fp) cds tc)(he:∀ cl C s H fp,PE (cxComp X N' scope cl C s H fp) elt te)(cv:∀ σ Q J H,at' σ Q J H->compAtF tc te σ Q J H)
  (hs:∀ x,foldedSetIterable iter X.env x=pure x:=by intro _;rfl):PE X (.ListComp elt [⟨.Name x px,iter,cds,0⟩] scope pos) (fun σ H Q=>wi σ H (at' σ Q)):=by
 intro pins s σ H Q I h
 rw [eval_ListComp]
 have hfree:∀ z∈scope.names,z.2 = .free->∃ c,X.env.cells.lookup z.1=some c:=fun z hz hk=>by
  rcases S.ok z hz hk with q | q
  ·exact I.ok.has z.1 (.inl q)
  ·exact I.ok.has z.1 (.inr q)
 refine wpAny_comprehension_free (use:=none) rfl hs (clos_eq hfree) S.kind S.names (thn (hi pins s σ H _ I h) fun xv s1 h1=>thn h1 fun itv s2 h2=>?_)
 obtain ⟨it,fp,tn,J,H2,e,I2,T,st2,f2,hw⟩:=h2
 subst e
 obtain ⟨cl,hcl,hrun⟩:=compx_core (tc:=tc) (cds:=cds) (elt:=elt) (iter:=iter) (pos:=pos) (px:=px) (E:=X.xe) (RR:=fun acc C=>compPost (model X.prog X.w) X.A X.xe none (EP X pins σ Q) acc C) S hc ht he I2 T st2 f2 (cv _ _ _ _ hw) (fun D C s' H' I' ⟨m,hm⟩ n1 n2 n3 n4 n5 q =>
  ⟨m,hm,fun h' hsb=>⟨.ref D,H',I'.turned (it:=C) (t':=s'.toks) (fun b o hb e=>(hsb.2 b hb).trans e) n3 n1 (.inr n4) n2 n5,rfl,q⟩⟩)
 have ecl:(pure (closOf X.env.cells scope.names []):Sem (List (Str×Addr)))=pure cl:=(clos_eq hfree).symm.trans hcl
 have ecl':closOf X.env.cells scope.names []=cl:=by
  injection ecl
 rw [ecl']
 exact hrun
theorem ps_setCompx {at':St->VK->It->Hp->Prop}{i:Nat}{y:Str}{py spos:Pos}(S:CompSc X.N N' X.env.scope scope x)(hc:X.calm=true)(hi:PI X (.Name x px) iter wi)(ht:∀ cl C s H fp,PTL (cxComp X N' scope cl C s H fp) cds tc)(he:∀ cl C s H fp,PE (cxComp X N' scope cl C s H fp) elt te)(cv:∀ σ Q J H,at' σ Q J H->compAtF tc te σ Q J H)
  (hN:X.N.Nodup) (hy:X.N[i]?=some y) (hyl:X.env.scope.names.lookup y=some .local)
  (hsw:swapsWith (.ListComp elt [⟨.Name x px,iter,cds,0⟩] scope pos) (some (.Name y py)) spos.line X.env=pure true:=by rfl)
  (hs:∀ x,foldedSetIterable iter X.env x=pure x:=by intro _;rfl):PS X (.Assign [.Name y py] (.ListComp elt [⟨.Name x px,iter,cds,0⟩] scope pos) spos) (tAsg (fun σ H Q=>wi σ H (at' σ Q)) (gName i)):=by
 intro pins s σ H D0 I h
 have hfree:∀ z∈scope.names,z.2 = .free->∃ c,X.env.cells.lookup z.1=some c:=fun z hz hk=>by
  rcases S.ok z hz hk with q | q
  ·exact I.ok.has z.1 (.inl q)
  ·exact I.ok.has z.1 (.inr q)
 rw [exec_Assign_Name_used _ _ _ _ hsw]
 refine wpAny_bind (wpAny_standAt (wpAny_bind ?_))
 show wpAny _ X.A (do let _ <- comprehension (.ListComp elt [⟨.Name x px,iter,cds,0⟩] scope pos) scope X.env _ (newList []) false (eval iter X.env) (some (assign (.Name y py) X.env))) _ _ s
 refine wpAny_bind (wpAny_mono (wpAny_comprehension_free (use:=some (assign (.Name y py) X.env)) (Q:=fun _ s'=>SP X pins D0 .next s') rfl hs (clos_eq hfree) S.kind S.names
  (thn (hi pins s σ H _ I h) fun xv s1 h1=>thn h1 fun itv s2 h2=>?_)) (fun _ s' hq=>wpAny_pure (wpAny_pure hq)) fun _ _ e=>e)
 obtain ⟨it,fp,tn,J,H2,e,I2,T,st2,f2,hw⟩:=h2
 subst e
 obtain ⟨cl,hcl,hrun⟩:=compx_core (tc:=tc) (cds:=cds) (elt:=elt) (iter:=iter) (pos:=pos) (px:=px) (E:=X.xe) (Q:=fun x H1=>gName i x σ H1 D0.nx) (RR:=fun acc C=>compPost (model X.prog X.w) X.A X.xe (some (assign (.Name y py) X.env)) (fun _ s'=>SP X pins D0 .next s') acc C) S hc ht he I2 T st2 f2 (cv _ _ _ _ hw) (fun D C s' H' I' ⟨m,hm⟩ n1 n2 n3 n4 n5 q=>by
  show wpAny _ X.A (assign (.Name y py) X.env (.ref D)) _ _ _
  refine wpAny_assign_Name (store_ok2 (i:=i) (v:=.ref D) I' hN hy (.inl hyl) rfl (fun s'' I'' ⟨a,hsa,hwa⟩=>?_) (.inr hyl))
  have haC:C≠a:=by
   rcases hwa with z | z
   ·rw [z];exact n1
   ·intro z2
    exact n2 y a z z2.symm
  refine ⟨m,hm.sameBut hsa haC,fun h' hsb=>?_⟩
  exact ⟨_,H',I''.turned (it:=C) (t':=s''.toks) (fun b o hb e=>(hsb.2 b hb).trans e) n3 n1 (.inr n4) n2 n5,q⟩)
 have ecl:(pure (closOf X.env.cells scope.names []):Sem (List (Str×Addr)))=pure cl:=(clos_eq hfree).symm.trans hcl
 have ecl':closOf X.env.cells scope.names []=cl:=by
  injection ecl
 rw [ecl']
 exact hrun
theorem pe_comp (S:CompSc X.N N' X.env.scope scope x)(hc:X.calm=true)(hi:PI X (.Name x px) iter wi)(he:∀ cl C s H fp,PE (cxComp X N' scope cl C s H fp) elt te)
  (hs:∀ x,foldedSetIterable iter X.env x=pure x:=by intro _;rfl):PE X (.ListComp elt [⟨.Name x px,iter,[],0⟩] scope pos) (tComp wi te) :=
 pe_compx (at':=fun σ Q=>compAt te σ Q) S hc hi (fun _ _ _ _ _=>ptl_nil) he (fun _ _ _ _ h=>h.toF) hs
theorem ps_setComp {i:Nat}{y:Str}{py spos:Pos}(S:CompSc X.N N' X.env.scope scope x)(hc:X.calm=true)(hi:PI X (.Name x px) iter wi)(he:∀ cl C s H fp,PE (cxComp X N' scope cl C s H fp) elt te)
  (hN:X.N.Nodup) (hy:X.N[i]?=some y) (hyl:X.env.scope.names.lookup y=some .local)
  (hsw:swapsWith (.ListComp elt [⟨.Name x px,iter,[],0⟩] scope pos) (some (.Name y py)) spos.line X.env=pure true:=by rfl)
  (hs:∀ x,foldedSetIterable iter X.env x=pure x:=by intro _;rfl):PS X (.Assign [.Name y py] (.ListComp elt [⟨.Name x px,iter,[],0⟩] scope pos) spos) (tAsg (tComp wi te) (gName i)) :=
 ps_setCompx (at':=fun σ Q=>compAt te σ Q) S hc hi (fun _ _ _ _ _=>ptl_nil) he (fun _ _ _ _ h=>h.toF) hN hy hyl hsw hs
end
theorem comp_range {lo:Int}{n:Nat}{te:TE}{σ:St}{H:Hp}{Q:VK}(f:Nat->V)(hn:n<=sizeLine)
  (he:∀ i H',i<n->Same H H'->∀ N:V->Hp->Prop,(∀ H'',Same H' H''->N (f i) H'')->te (some (.int (lo+i))::σ) H' N)
  (hq:∀ D H',H D=none->Same H H'->H' D=some (.lst ((List.range n).map f))->Q (.ref D) H') :
  compAt te σ Q (Itr lo n) H:=by
 intro D hD
 refine ⟨fun i m ys H2=>m=n-i∧i<=n∧ys=(List.range i).map f∧Same H H2∧H2 D=some (.lst ys),⟨n,rfl,Nat.zero_le _,rfl,fun b o e=>?_,upd_same⟩,?_⟩
 ·rw [upd_ne (ne_of_none e hD)]
  exact e
 ·rintro i m ys H2 ⟨rfl,hi,rfl,hs,hd⟩
  by_cases hlt:i<n
  ·refine .inr ⟨hlt,by rw [List.length_map,List.length_range];omega,fun v H'=>v=f i∧Same H2 H',fun v H' ⟨ev,hs'⟩=>⟨hs' D _ hd,n-(i+1),by omega,rfl,hlt,?_,fun b o e=>?_,upd_same⟩,fun y H' hy=>?_⟩
   ·rw [ev,List.range_succ,List.map_append]
    rfl
   ·rw [upd_ne (ne_of_none e hD)]
    exact hs' b o (hs b o e)
   ·obtain ⟨e1,e2⟩:=hy
    subst e1 e2
    exact he i _ hlt hs _ fun H'' h''=>⟨rfl,h''⟩
  ·have e:i=n:=by omega
   subst e
   exact .inl ⟨Nat.le_refl _,hq D H2 hD hs hd⟩
end L2
namespace L2
open PySem PySem.Spec PyProof.Rows
set_option genInjectivity false in
structure Cal (P:Program)(w:World)(K:PySem.W.Frag)(mg:Str->Option Value)(base:Heap)(CX:CXT)(x:Str)(k:Nat)(ps:List Str)(sp:Sp):Prop where
 ex:∃ (f:Addr) (fd:FuncData),FnOk P w K mg base CX k f fd ps sp∧mg x=some (.ref f)∧PySem.W.keepIn K (.ref f)=true∧Binds K fd ps []
section
variable {X:Cx}
theorem pe_cal {CX:CXT}{x:Str}{j k:Nat}{ps:List Str}{sp:Sp}{E:XK}{e:Expr}{es:List Expr}{t:TA}{p pos:Pos}(c:Cal X.prog X.w X.K X.mg X.base CX x j ps sp)(hr:Room k X.A)(hx:Passes CX X E)(ha:PA X (e::es) t)
  (hjk:j<=k:=by decide) (hg:Gl X x:=by rfl) (hdb:(x==("__debug__" : Str))=false:=by decide) (he:starEach (e::es) X.env=(false,eval e X.env)::starEach es X.env:=by rfl) (hpl:(backTo pos (starEach es X.env)).any (·.1)=false:=by rfl) :
  PE X (.Call (.Name x p) (e::es) [] pos) (tCall sp [] E t):=by
 obtain ⟨f,fd,F,hm,hk,hb⟩:=c.ex
 exact pe_call F (hr.mono hjk) hg hm hk hb .nil hx ha hdb he hpl
theorem pe_strT (l:List Nat){x:Str}{j pos}(h:x=tx l):PE X (.Constant (.str x) j pos) (tC (T l)):=by
 subst h
 exact pe_str
theorem call_len_T:CallR X (.builtin "len") (fun xs H Q=>∃ (l:List Nat),xs=[T l]∧l.length<=sizeLine∧Q (.int (l.length:Nat)) H):=by
 intro pins s σ H xs us Q I r h
 obtain ⟨l,e,hz,q⟩:=h
 exact call_len_str pins s σ H xs us Q I r ⟨tx l,e,by rw [tx_len];exact hz,by rw [tx_len];exact q⟩
theorem ix_T:IxR X (fun x y H Q=>∃ (l:List Nat),x=T l∧∃ (i:Int),y = .int i∧l.length<=sizeLine∧∃ c,atI l i=some c∧Q (T [c]) H):=by
 intro value slice pins s σ H x y v u Q I rx ry h hs
 obtain ⟨l,e1,i,e2,hz,c,hc,q⟩:=h
 exact ix_str value slice pins s σ H x y v u Q I rx ry ⟨tx l,i,c,e1,e2,by rw [tx_len];exact hz,by rw [tx_cps];exact hc,q⟩ hs
theorem call_isinst:CallR X (.builtin "isinstance") (fun xs H Q=>∃ (x:V) (c:String) (t:Value) (b:Bool),xs=[x,.ty c]∧TyOf X.K H x t∧PySem.W.kitOne X.K t (.type c)=some b∧Q (.bl b) H):=by
 intro pins s σ H xs us Q I r h
 obtain ⟨x,c,t,b,rfl,ty,e,q⟩:=h
 obtain ⟨u,w',rfl,ru,rw'⟩:=vals2 r
 cases (show w'=Value.type c from rw')
 exact isinst_ok I ru ty e fun tk=>⟨.bl b,H,I.tok tk,rfl,q⟩
theorem kit_same {K:PySem.W.Frag}(T:String):PySem.W.kitOne K (.type T) (.type T)=some true:=by
 unfold PySem.W.kitOne
 rw [if_pos (by simp)]
theorem op_catL:OpR X (binaryOp .Add) (fun x y H Q=>∃ (l b:Addr) (xs zs:List V),x = .ref l∧y = .ref b∧SqL X.K H l xs∧SqL X.K H b zs∧xs.length+zs.length<=sizeLine∧∀ p,H p=none->Q (.ref p) (upd H p (.lst (xs++zs)))):=by
 intro pins s σ H x y v u Q I rx ry h
 obtain ⟨l,b,xs,zs,rfl,rfl,hH,hB,hz,q⟩:=h
 cases rx
 cases ry
 obtain ⟨its,r,⟨⟨cls,dd,data,sl⟩,n,ho,hc,hdd,hd⟩,_⟩:=I.list hH
 obtain ⟨its2,r2,⟨⟨cls2,dd2,data2,sl2⟩,n2,ho2,hc2,hdd2,hd2⟩,_⟩:=I.list hB
 simp only at hc hd hc2 hd2
 subst hc hd hc2 hd2
 have e:its.toArray++its2.toArray=(its++its2).toArray:=by simp
 refine concat_meets ⟨_,ho,rfl⟩ ⟨_,ho2,rfl⟩ noFill_list_add seq_list_add PySem.F.slot_list_add PySem.F.entry_list_add (PySem.F.args_list_add_2 _ _) (list_addW l b its.toArray its2.toArray n n2 dd dd2 sl sl2 (by rw [List.size_toArray,List.size_toArray,<- r.length,<- r2.length];exact hz)) ⟨ho,ho2,?_⟩
 rw [e]
 exact ⟨.ref _,_,I.lnew (t':=s.toks) (r.append r2) (by rw [List.length_append];exact hz),rfl,q _ I.fresh⟩
theorem eqU_T {ls:List (List Nat)}{us:List Value}{a:List Nat}(r:Vals (ls.map T) us){i:Nat}{l:List Nat}{u:Value}(h:ls[i]?=some l)(hu:us[i]?=some u):eqU (T a) u=decide (l=a):=by
 obtain ⟨u',h1,h2⟩:=r.get (i:=i) (x:=T l) (by rw [List.getElem?_map,h];rfl)
 rw [hu] at h1
 cases h1
 rw [eqU_of h2 rfl]
 show (tx l==tx a)=decide (l=a)
 rw [Bool.eq_iff_iff,beq_iff_eq,decide_eq_true_iff]
 exact ⟨tx_inj,fun h=>by rw [h]⟩
theorem all_flat (ls:List (List Nat)):(ls.map T).all flatV=true:=by
 rw [List.all_map,List.all_eq_true]
 intro l _
 rfl
theorem mt_index:MtR X "list.index" (fun x xs H Q=>∃ (p:Addr) (ls:List (List Nat)) (a:List Nat) (j:Nat),x = .ref p∧xs=[T a]∧SqL X.K H p (ls.map T)∧ls[j]?=some a∧(∀ i,i<j->ls[i]?≠some a)∧Q (.int (j:Nat)) H):=by
 intro pins s σ H x xs v us Q I rx rs h
 obtain ⟨p,ls,a,j,rfl,rfl,hq,hj,hno,q⟩:=h
 cases rx
 obtain ⟨u,rfl,ru⟩:=vals1 rs
 obtain ⟨its,r,⟨⟨cls,dd,data,sl⟩,n,ho,hc,hdd,hd⟩,hz⟩:=I.list hq
 simp only at hc hd
 subst hc hd
 have hlen:ls.length=its.length:=by have:=r.length;rw [List.length_map] at this;exact this
 have hjl:j<ls.length:=(List.getElem?_eq_some_iff.mp hj).1
 have hs:sizeLine=16777216:=sizeLine_eq
 rw [List.length_map] at hz
 refine call_meets PySem.F.slot_list_index ⟨_,ho,rfl⟩ PySem.F.entry_list_index (PySem.F.args_list_index_2 _ _) (SeqAt.list_indexAt p its.toArray n dd sl u (eqU (T a)) j (by rw [List.size_toArray];omega) (by omega) ?_ ?_)
  ⟨ho,fun y hy=>mem_eqAt ru rfl r (all_flat ls) y (by simpa using hy),⟨.int (j:Nat),H,I.tok _,⟨_,rfl⟩,q⟩⟩
 ·have hu:its[j]?=some its.toArray[j]:=by simp
  rw [eqU_T r hj hu]
  exact decide_eq_true rfl
 ·intro m hm hmj
  rw [List.size_toArray] at hm
  have hu:its[m]?=some its.toArray[m]:=by simp
  have hl:ls[m]?=some ls[m]:=List.getElem?_eq_getElem (by omega)
  rw [eqU_T r hl hu]
  refine decide_eq_false fun e=>hno m hmj ?_
  rw [hl,e]
theorem eqAt_T {ls ms:List (List Nat)}{us ws:List Value}(r:Vals (ls.map T) us)(r':Vals (ms.map T) ws){A:Around}{s:Shared}{j:Nat}{u w:Value}(hu:us[j]?=some u)(hw:ws[j]?=some w):SeqAt.EqAt A s u w (decide (ls[j]?=ms[j]?)):=by
 have h1:j<ls.length:=by have:=r.length;rw [List.length_map] at this;rw [this];exact (List.getElem?_eq_some_iff.mp hu).1
 have h2:j<ms.length:=by have:=r'.length;rw [List.length_map] at this;rw [this];exact (List.getElem?_eq_some_iff.mp hw).1
 obtain ⟨u',e1,q1⟩:=r.get (i:=j) (x:=T ls[j]) (by rw [List.getElem?_map,List.getElem?_eq_getElem h1];rfl)
 obtain ⟨w',e2,q2⟩:=r'.get (i:=j) (x:=T ms[j]) (by rw [List.getElem?_map,List.getElem?_eq_getElem h2];rfl)
 rw [hu] at e1
 cases e1
 rw [hw] at e2
 cases e2
 have e:=eqAt_V (A:=A) (s:=s) q1 q2 rfl rfl
 have ee:eqV (T ls[j]) (T ms[j])=decide (ls[j]?=ms[j]?):=by
  show (tx ls[j]==tx ms[j])=_
  rw [Bool.eq_iff_iff,beq_iff_eq,decide_eq_true_iff,List.getElem?_eq_getElem h1,List.getElem?_eq_getElem h2]
  exact ⟨fun h=>by rw [tx_inj h],fun h=>by rw [Option.some.inj h]⟩
 rw [ee] at e
 exact e
theorem all_range_eq {ls ms:List (List Nat)}(h:ls.length=ms.length):(List.range ls.length).all (fun j=>decide (ls[j]?=ms[j]?))=decide (ls=ms):=by
 rw [Bool.eq_iff_iff,List.all_eq_true,decide_eq_true_iff]
 constructor
 ·intro g
  apply List.ext_getElem?
  intro i
  by_cases hi:i<ls.length
  ·exact of_decide_eq_true (g i (List.mem_range.mpr hi))
  ·rw [List.getElem?_eq_none (by omega),List.getElem?_eq_none (by omega)]
 ·intro g j _
  rw [g]
  exact decide_eq_true rfl
theorem op_eq_LT (hu:X.A.units<cLine):OpR X (compareOp .Eq) (fun x y H Q=>∃ (p b:Addr) (ls ms:List (List Nat)),x = .ref p∧y = .ref b∧SqL X.K H p (ls.map T)∧SqL X.K H b (ms.map T)∧Q (.bl (decide (ls=ms))) H):=by
 intro pins s σ H x y v u Q I rx ry h
 obtain ⟨p,b,ls,ms,rfl,rfl,h1,h2,q⟩:=h
 cases rx
 cases ry
 obtain ⟨its,r,pl,_⟩:=I.list h1
 obtain ⟨its2,r2,pl2,_⟩:=I.list h2
 have l1:=r.length
 have l2:=r2.length
 rw [List.length_map] at l1 l2
 by_cases hl:ls.length=ms.length
 ·refine SeqAt.eq_listAt (e:=fun j=>decide (ls[j]?=ms[j]?)) pl.isList pl2.isList (by rw [List.size_toArray,List.size_toArray];omega) hu (fun j g1 g2=>eqAt_T r r2 (by simp) (by simp)) ?_
  rw [List.size_toArray,<- l1,all_range_eq hl]
  exact ⟨.bl _,H,I,rfl,q⟩
 ·refine SeqAt.eq_list_lengthsAt pl.isList pl2.isList (by rw [List.size_toArray,List.size_toArray,bne_iff_ne];omega) hu ?_
  have e:decide (ls=ms)=false:=decide_eq_false fun z=>hl (by rw [z])
  rw [e] at q
  exact ⟨.bl _,H,I,rfl,q⟩
end
end L2
namespace L2
open PySem PySem.Spec PyProof.Rows
set_option genInjectivity false in
structure Fly (P:Program)(w:World)(outer:List Env)(H:Hp)(s:Shared)(a:Addr)(cls:Value)(H':Hp)(s':Shared):Prop where
 os:s'.os=s.os
 bare:AllBare s'.gens
 ex:∃ (B:Heap) (t:Addr),Heap.FlyingW B outer a cls (.ref t) s'.heap∧HOk P w H' B∧(∀ b o,s.heap.get? b=some o->H b=none->b∉frs outer->B.get? b=some o) ∧
  ∀ b o,s.heap.get? b=some o->b∉frs outer->∃ o',B.get? b=some o'
 slot:∀ b o,s.heap.get? b=some o->H b=none->b∈frs outer->∃ sl,s'.heap.get? b=some { o with slots:=sl }
 free:∀ b o,s.heap.get? b=some o->H b=none->H' b=none
 tups:∀ b xs,H b=some (.tup xs)->H' b=some (.tup xs)
 frzs:∀ b o u,H b=some (.frz o u)->H' b=some (.frz o u)
 tbls:∀ b ps,H b=some (.tbl ps)->∃ more,H' b=some (.tbl (ps++more))
def CX1 (P:Program)(w:World):CXT:=fun outer H s E e s'=>∃ a cls H',e = .ref a∧Fly P w outer H s a cls H' s'∧E cls none H'
section
variable {X:Cx}{pins:List (Addr×Obj)}{σ:St}{H H':Hp}{s s':Shared}{a:Addr}{cls:Value}{E:Value->Shared->Prop}
set_option genInjectivity false in
structure Own (X:Cx):Prop where
 stk:X.stack=X.env::X.outer
 fr:X.env.frame=some X.env.locals
 ex:X.ex=[]
theorem Own.frs (O:Own X){b:Addr}:b∈frs X.stack↔b=X.env.locals∨b∈frs X.outer:=by
 unfold L2.frs
 rw [O.stk,List.filterMap_cons,O.fr]
 exact List.mem_cons
theorem Inv.oldNe (I:Inv X pins σ H s){b:Addr}{o:Obj}(e:X.s₀.heap.get? b=some o):b≠X.env.locals:=Nat.ne_of_lt (Nat.lt_of_lt_of_le (Heap.lt_size e) I.ok.above)
theorem Inv.hidHok (I:Inv X pins σ H s):HOk X.prog X.w H (PySem.W.hideAll s.heap (L2.frs X.stack)):=fun b u e =>
 (I.hok b u e).stay (fun c v hc q=>PySem.W.hideAll_get _ q fun hm=>by
  have n:=I.stkFree c hm
  rcases hc with z | z
  ·rw [z,e] at n
   cases n
  ·rw [z] at n
   cases n) (fun _ q=>q) fun _ _ q=>q
theorem Fly.raised {args:List Value}{h:Heap}(I:Inv X pins σ H s)(O:Own X)(hx:Heap.MadeExcOf s.heap h a cls args) :
  wpAny (model X.prog X.w) X.A (leaving X.env (.ref a)) (fun _ s''=>Fly X.prog X.w X.outer X.H₀ X.s₀ a cls H s'') E { s with heap:=h }:=by
 have hst:=I.stack
 have hin:∀ env∈X.stack,∀ b,env.frame=some b->b∈L2.frs X.stack:=fun env he b hb=>List.mem_filterMap.mpr ⟨env,he,hb⟩
 have hl:=PySem.W.funFrames_hide hst hin
 rw [O.stk] at hl
 have hfr:=I.ok.frames
 rw [O.stk] at hfr
 have noEx:∀ b,b∉X.ex:=fun b z=>by
  rw [O.ex] at z
  cases z
 refine wpAny_leaves_madeW (s:={ s with heap:=h }) hfr O.fr (fun b o q=>PySem.W.of_hideAll _ q) hl hx fun h' t x1 x2 x3 x4=>?_
 have notIn:∀ b o,X.s₀.heap.get? b=some o->b∉L2.frs X.outer->b∉L2.frs (X.env::X.outer):=fun b o e nb z=>by
  rw [<- O.stk] at z
  rcases O.frs.mp z with q | q
  ·exact I.oldNe e q
  ·exact nb q
 have hokB:=I.hidHok
 rw [O.stk] at hokB
 refine ⟨I.os,I.bare,⟨_,t,x1,hokB,fun b o e n nb=>?_,fun b o e nb=>?_⟩,fun b o e n hb=>?_,fun b o e n=>I.base.free b o e n (noEx b),I.base.tups,I.base.frzs,I.base.tbls⟩
 ·exact PySem.W.hideAll_get _ (I.base.keep b o e n nb (noEx b)) (notIn b o e nb)
 ·obtain ⟨o',e'⟩:=I.base.there b o e (noEx b)
  exact ⟨o',PySem.W.hideAll_get _ e' (notIn b o e nb)⟩
 ·obtain ⟨sl,e1⟩:=I.base.slot b o e n hb (noEx b)
  obtain ⟨_,o2,e2,hd⟩:=I.funs.mem hb
  rw [e1] at e2
  cases e2
  obtain ⟨sl2,e3⟩:=x4 b _ (hx.keeps b _ e1) hd
  exact ⟨sl2,e3⟩
theorem Fly.on (I:Inv X pins σ H s)(O:Own X)(Y:Fly X.prog X.w X.stack H s a cls H' s') :
  wpAny (model X.prog X.w) X.A (leaving X.env (.ref a)) (fun _ s''=>Fly X.prog X.w X.outer X.H₀ X.s₀ a cls H' s'') E s':=by
 obtain ⟨B,t,hfl,hokB,kp,th⟩:=Y.ex
 have hfr:=I.ok.frames
 rw [O.stk] at hfr hfl
 have noEx:∀ b,b∉X.ex:=fun b z=>by
  rw [O.ex] at z
  cases z
 have notIn:∀ b o,X.s₀.heap.get? b=some o->b∉L2.frs X.outer->b∉L2.frs X.stack:=fun b o e nb z=>by
  rcases O.frs.mp z with q | q
  ·exact I.oldNe e q
  ·exact nb q
 refine wpAny_leaves_onW hfr O.fr hfl fun h' x1 x2=>?_
 refine ⟨Y.os.trans I.os,Y.bare,⟨B,t,x1,hokB,fun b o e n nb=>kp b o (I.base.keep b o e n nb (noEx b)) (I.base.free b o e n (noEx b)) (notIn b o e nb),fun b o e nb=>?_⟩,fun b o e n hb=>?_,fun b o e n=>?_,
  fun b xs q=>Y.tups b xs (I.base.tups b xs q),fun b o u q=>Y.frzs b o u (I.base.frzs b o u q),fun b ps q=>?_⟩
 ·obtain ⟨o',e'⟩:=I.base.there b o e (noEx b)
  exact th b o' e' (notIn b o e nb)
 ·obtain ⟨sl,e1⟩:=I.base.slot b o e n hb (noEx b)
  obtain ⟨_,o2,e2,hd⟩:=I.funs.mem hb
  rw [e1] at e2
  cases e2
  obtain ⟨sl2,e3⟩:=Y.slot b _ e1 (I.base.free b o e n (noEx b)) (O.frs.mpr (.inr hb))
  obtain ⟨sl3,e4⟩:=x2 b _ e3 hd
  exact ⟨sl3,e4⟩
 ·obtain ⟨o',e'⟩:=I.base.there b o e (noEx b)
  exact Y.free b o' e' (I.base.free b o e n (noEx b))
 ·obtain ⟨m1,e1⟩:=I.base.tbls b ps q
  obtain ⟨m2,e2⟩:=Y.tbls b _ e1
  exact ⟨m1++m2,by rw [e2,Array.append_assoc]⟩
end
abbrev bmVE:List Value:=[.type "ValueError",.type "Exception",.type "BaseException",.type "object"]
set_option genInjectivity false in
structure Exc (K:PySem.W.Frag)(mg:Str->Option Value)(x:Str)(C:Addr):Prop where
 mg:mg x=some (.ref C)
 is:PySem.W.excIn K C bmVE "ValueError.__new__" = true
theorem Exc.own {K:PySem.W.Frag}{mg:Str->Option Value}{x:Str}{C:Addr}{h:Heap}(c:Exc K mg x C)(X:K.In h):OwnCls x C bmVE "ValueError.__new__" mg h:=by
 refine ⟨c.mg,?_⟩
 have q:=c.is
 unfold PySem.W.excIn at q
 split at q
 ·rename_i dd cd sl ho
  split at q
  ·rename_i C' bm k0 k1 k2 k3 n k5 hm hs
   simp only [beq_iff_eq,Bool.not_eq_true',Bool.and_eq_true] at q
   obtain ⟨⟨⟨⟨⟨g1,g2⟩,g3⟩,g4⟩,g5⟩,g6⟩:=q
   subst g1 g2
   obtain ⟨nm,bs,mro,ns,qn,hd,sn,sub,ab,col,del⟩:=cd
   have hsl:sl = #[k0,k1,k2,k3,some (.builtin "ValueError.__new__"),k5]:=by
    cases sl with
    | mk l =>
     have hs':l=_:=hs
     rw [hs']
   have hm':mro=_:=hm
   have g3':del=false:=g3
   subst hsl hm' g3'
   refine ⟨bm,ns,nm,qn,bs,hd,sn,sub,ab,col,dd,k0,k1,k2,k3,k5,h.nsMap ns,X _ _ ho,?_,?_,?_⟩
   ·exact .of_isNs (PySem.W.isNs_of_in X g5)
   ·exact PySem.W.nsMap_none_of_in X g5 g6
   ·exact PySem.W.tail_of_in X g4
  ·cases q
 ·cases q
def tRaise (E:Value->Hp->Prop)(C:Addr)(t:TA):TS:=fun _ σ H=>t σ H fun vs H1=>vs.length<=sizeLine∧E (.ref C) H1
theorem ps_raise {x:Str}{C:Addr}{e₀:Expr}{rest:List Expr}{np cpos pos:Pos}{t:TA}{E:Value->Hp->Prop}(c:Exc X.K X.mg x C)(hc:X.calm=true)
  (hE:∀ (pins:List (Addr×Obj)) (σ:St) (H:Hp) (s:Shared) (h:Heap) (a:Addr) (args:List Value),Inv X pins σ H s->Heap.MadeExcOf s.heap h a (.ref C) args->E (.ref C) H->X.xe (.ref a) { s with heap:=h })
  (ha:PA X (e₀::rest) t) (hg:Gl X x:=by rfl) (hd:(x==("__debug__" : Str))=false:=by decide)
  (he:starEach (e₀::rest) X.env=(false,eval e₀ X.env)::starEach rest X.env:=by rfl) (hpl:(backTo cpos (starEach rest X.env)).any (·.1)=false:=by rfl) :
  PS X (.Raise (some (.Call (.Name x np) (e₀::rest) [] cpos)) none pos) (tRaise E C t):=by
 intro pins s σ H D I h
 have O:=c.own I.mod.kin
 obtain ⟨tl,N,nm,q,bs,hdct,sn,sub,ab,col,dd,k0,k1,k2,k3,k5,mN,hC,hN,hni,T⟩:=O.obj
 refine wpAny_Raise_call_subT (C:=C) (nm:=nm) (q:=q) (N:=N) (bs:=bs) (bm:=tl) (hdct:=hdct) (sn:=sn) (sub:=sub) (ab:=ab) (col:=col) (dd:=dd) (k0:=k0) (k1:=k1) (k2:=k2) (k3:=k3) (k5:=k5) PySem.F.excBase_ValueError (mN:=mN)
  (T.hasType (by decide +kernel)) (I.ok.hd hc) (by rw [he];show (false||(backTo cpos (starEach rest X.env)).any (·.1))=false;rw [hpl];rfl) hni (ld_glob I hg c.mg ⟨rfl,?_⟩ hd)
 have hA:=ha cpos pins s σ H _ I h
 rw [he] at hA ⊢
 refine Calls.evalArgs_plain (thn hA fun us s2 ⟨vs,H2,I2,r2,hz,q2⟩=>?_)
 exact ⟨rfl,by rw [<- r2.length];exact hz,I2.bk _ _ hC,hN.keeps I2.bk,T.keeps I2.bk,fun h' e hx=>hE pins σ H2 s2 h' e us I2 hx q2⟩
section
variable {P:Program}{w:World}{K:PySem.W.Frag}{mg:Str->Option Value}{base:Heap}{N:List Str}{qual:Str}{scope:Scope}{f:Addr}{cdv:Value}{A:Around}{outer:List Env}{s:Shared}{H:Hp}{E:XK}
theorem ownX {CX:CXT}:Own (cxOf CX P w K mg base N qual scope f cdv A outer s H E):=⟨rfl,rfl,rfl⟩
theorem passX:Passes (CX1 P w) (cxOf (CX1 P w) P w K mg base N qual scope f cdv A outer s H E) E:=fun pins σ H1 s1 e s' I h=>by
 obtain ⟨a,cls,H',rfl,Y,q⟩:=h
 exact thn (Fly.on I ownX Y) fun _ s'' Z=>⟨a,cls,H',rfl,Z,q⟩
theorem raiseX {C:Addr}{pins:List (Addr×Obj)}{σ:St}{H1:Hp}{s1:Shared}{h:Heap}{a:Addr}{args:List Value}(I:Inv (cxOf (CX1 P w) P w K mg base N qual scope f cdv A outer s H E) pins σ H1 s1)(hx:Heap.MadeExcOf s1.heap h a (.ref C) args)(q:E (.ref C) none H1) :
 (cxOf (CX1 P w) P w K mg base N qual scope f cdv A outer s H E).xe (.ref a) { s1 with heap:=h }:=thn (Fly.raised I ownX hx) fun _ s'' Z=>⟨a,.ref C,H1,rfl,Z,q⟩
theorem pass1 {X:Cx}:Passes (CX1 P w) X E0:=fun _ _ _ _ _ _ _ h=>by
 obtain ⟨_,_,_,_,_,q⟩:=h
 exact q.elim
theorem Fun.okX {x qual:Str}{st:Stmt}{f:Addr}{fd:FuncData}{N ps:List Str}{k:Nat}{sp:Sp}(F:Fun K x qual st f fd)(S:FnScope N ps (defScope st))(len:∀ vs H Q E,sp vs H Q E->vs.length=ps.length)
  (hbody:∀ (cdv:Value) (A:Around) (outer:List Env) (s:Shared) (H:Hp) (vs:List V) (Q:VK) (E:XK),Room k (A.deeper (envOfC qual (defScope st) s.heap.objs.size f cdv))->sp vs H Q E ->
   ∃ t,PSs (cxOf (CX1 P w) P w K mg base N qual (defScope st) f cdv A outer s H E) (defBody st) t∧t { nx:=fun _ H'=>Q .non H',rt:=Q } (start N vs) H):FnOk P w K mg base (CX1 P w) (k+1) f fd ps sp:=by
 obtain ⟨oc,od,kV,doc,pm,an,cdv,ct,osl,rfl,lk,hcd⟩:=F.ex
 exact fn_of lk hcd S len fun A outer s H vs Q E hr hsp=>hbody cdv A outer s H vs Q E hr hsp
end
end L2
namespace L2
open PySem PySem.Spec PyProof.Rows
def XP (X:Cx)(pins:List (Addr×Obj))(R:St->Value->Hp->Prop)(e:Value)(s':Shared):Prop :=
 ∃ a cls σ' H s1 H',e = .ref a∧Inv X pins σ' H s1∧Fly X.prog X.w X.stack H s1 a cls H' s'∧R σ' cls H'
abbrev TTy:=Ends->(St->Value->Hp->Prop)->St->Hp->Prop
def PTy (X:Cx)(st:List Stmt)(t:TTy):Prop :=
 ∀ (pins:List (Addr×Obj)) (s:Shared) (σ:St) (H:Hp) (D:Ends) (R:St->Value->Hp->Prop),Inv X pins σ H s->t D R σ H->wpAny (model X.prog X.w) X.A (execs st X.env) (SP X pins D) (XP X pins R) s
section
variable {X:Cx}
abbrev TH:=Ends->St->Value->Hp->Prop
def PH (X:Cx)(hs:List ExceptHandler)(t:TH):Prop :=
 ∀ (pins:List (Addr×Obj)) (σ:St) (H:Hp) (s:Shared) (a:Addr) (cls:Value) (H':Hp) (s':Shared) (D:Ends),Inv X pins σ H s->Fly X.prog X.w X.stack H s a cls H' s'->t D σ cls H' ->
  wpAny (model X.prog X.w) X.A (handleBy (.ref a) X.env hs) (SP X pins D) X.xe s'
end
end L2
namespace L2
open PySem PySem.Spec PyProof.Rows
namespace RV
theorem lri_no_len:typeLookup (.type "list_reverseiterator") "__len__" = pure none:=by rw [typeLookup_type,builtinLookup_eq_fast];kernel_rfl
theorem lri_hint:typeLookup (.type "list_reverseiterator") "__length_hint__" = pure (some (.builtin "list_reverseiterator.__length_hint__")):=by rw [typeLookup_type,builtinLookup_eq_fast];kernel_rfl
section
variable {prog:Program}{w:World}{A:Around}{E:Value->Shared->Prop}{s:Shared}
theorem hint_rev {it l:Addr}{i:Int}{Q:Bool->Shared->Prop}(hit:s.heap.IsRevIter it l i)(h:Q false s):wpAny (model prog w) A (Builtin.List.listLengthHint (.ref it)) Q E s:=by
 unfold Builtin.List.listLengthHint
 refine wpAny_bind (wpAny_specialOf hit.typeIs lri_no_len ?_)
 show wpAny _ A (specialOf (Value.ref it) (Str.ofString "__length_hint__") >>= _) _ _ _
 refine wpAny_bind (wpAny_specialOf hit.typeIs lri_hint ?_)
 generalize hid:("list_reverseiterator.__length_hint__" : String)=id0
 wp_delta
 rw [show splitId id0=some ("list_reverseiterator", "__length_hint__") from by subst hid;decide +kernel]
 subst hid
 refine wpAny_bind (wpAny_isInstance (T := "list_reverseiterator") (b:=true) hit.typeIs (by rw [isSubtype_type];kernel_rfl) ?_)
 refine wpAny_ite_split (fun hab=>absurd hab (by decide)) (fun _=>?_)
 refine wpAny_ite_split (fun _=>?_) (fun hab=>absurd (by decide +kernel) hab)
 refine wpAny_ite_split (fun hab=>absurd hab (by decide +kernel)) (fun _=>?_)
 exact wpAny_pure h
theorem extend_rev {R:Result->Shared->Prop}(hh:A.handled=none){it l:Addr}{items:Array Value}(hit:s.heap.IsRevIter it l ((items.size:Int)-1))(hl:s.heap.IsList l items)(hne:l≠it)(S:Addr)(res:Value)(c₀:Nat)
  (h1:S≠it) (h2:S≠l) (hS:s.heap.get? S=some { cls:=.type "list",data:=.seq #[] c₀ })
  (hR:∀ h' tk acc' c',(∀ b o,b≠S->b≠it->s.heap.get? b=some o->h'.get? b=some o)->h'.get? S=some { cls:=.type "list",dict:=none,data:=.seq acc' c',slots:=#[] } ->
   acc'.toList=items.toList.reverse->R (.ok (.ret res)) { s with heap:=h',toks:=tk }) (hn:items.size<=sizeLine) :
  wpAny (model prog w) A.in1 (Builtin.List.listExtendWith (.ref S) (.ref it) res)
   (fun fin s'=>match fin with | .done f=>R (.ok f) s' | .again c'=>c'.quiet=true∧codeAny (model prog w) A c' R s') (fun e s'=>R (.error e) s') s:=by
 have W:=(Walks.listRev (prog:=prog) (w:=w) (A:=A.in1) hh it l hne items).toS
 unfold Builtin.List.listExtendWith
 refine wpAny_bind (wpAny_typeOf hit.typeIs ?_)
 have g1:Builtin.List.listSameRef (.ref S) (.ref it)=false:=by simp [Builtin.List.listSameRef,h1]
 have g2:(Value.type "list_reverseiterator" == Value.type "list")=false:=by decide
 have g3:(Value.type "list_reverseiterator" == Value.type "tuple")=false:=by decide
 simp only [g1,g2,g3,Bool.or_false,Bool.false_eq_true,if_false]
 refine wpAny_bind (wpAny_pyIter_revIter hit ?_)
 refine wpAny_bind (wpAny_holding (hint_rev hit ?_))
 refine wpAny_ite_split (fun hab=>absurd hab (by decide +kernel)) (fun _=>?_)
 have e0:(items.size:Int)-1-((0:Nat):Int)=(items.size:Int)-1:=by omega
 refine wpAny_pure ⟨plainId_quiet F.plain_extend_loop _,codeAny_extend_loopS W hn S (by simp [h1,h2]) res items.size 0 _ #[] c₀ rfl (Nat.zero_le _) ⟨Nat.zero_le _,by rw [e0];exact hit,hl⟩ hS (ItemsOf.nil _) fun s' acc' c' hm hS' hacc=>?_⟩
 rw [Moved.eq_with hm]
 refine hR s'.heap s'.toks acc' c' (fun b o hb hb2 e=>hm.heap b o (by simp [hb,hb2]) e) hS' ?_
 ·apply List.ext_getElem?
  intro i
  have hsz:=hacc.1
  by_cases hi:i<items.size
  ·have e1:acc'[i]?=some (acc'[i]'(by omega)):=Array.getElem?_eq_getElem (by omega)
   have e2:=hacc.2 i _ e1
   rw [List.getElem?_reverse (by simpa using hi),Array.getElem?_toList,Array.getElem?_toList,e1,<- e2]
   simp
  ·rw [List.getElem?_eq_none (by simp;omega),List.getElem?_eq_none (by simp;omega)]
theorem init_rev {R:Result->Shared->Prop}(hh:A.handled=none){it l:Addr}{items:Array Value}(hit:s.heap.IsRevIter it l ((items.size:Int)-1))(hl:s.heap.IsList l items)(hne:l≠it)(S:Addr)
  (h1:S≠it) (h2:S≠l) (hS:s.heap.get? S=some { cls:=.type "list",data:=.seq #[] })
  (hR:∀ h' tk acc' c',(∀ b o,b≠S->b≠it->s.heap.get? b=some o->h'.get? b=some o)->h'.get? S=some { cls:=.type "list",dict:=none,data:=.seq acc' c',slots:=#[] } ->
   acc'.toList=items.toList.reverse->R (.ok (.ret .none)) { s with heap:=h',toks:=tk }) (hn:items.size<=sizeLine) :
  wpAny (model prog w) A.in1 (Builtin.«list.__init__» ⟨[.ref S,.ref it],[]⟩)
   (fun fin s'=>match fin with | .done f=>R (.ok f) s' | .again c'=>c'.quiet=true∧codeAny (model prog w) A c' R s') (fun e s'=>R (.error e) s') s:=by
 show wpAny _ _ (do let old <- Builtin.List.listItems (.ref S);Builtin.List.listUpdate (.ref S) (fun _=>#[]);letGo old.toList.reverse;Builtin.List.listExtendWith (.ref S) (.ref it) .none) _ _ s
 refine wpAny_bind ?_
 unfold Builtin.List.listItems
 refine wpAny_bind (wpAny_seqItems hS rfl (wpAny_pure ?_))
 show wpAny _ _ (updateSeq S (fun _=>#[]) >>= fun _=>letGo (#[]:Array Value).toList.reverse >>= fun _=>Builtin.List.listExtendWith (.ref S) (.ref it) .none) _ _ s
 refine wpAny_bind (wpAny_updateSeq hS rfl ?_)
 have hS₂:=Heap.get?_update_self (Obj.mapSeq (fun _=>(#[]:Array Value))) hS rfl
 have oth:∀ b o,b≠S->s.heap.get? b=some o->(s.heap.update S (Obj.mapSeq (fun _=>(#[]:Array Value)))).get? b=some o :=
  fun b o hb e=>(Heap.get?_update_other _ _ (Ne.symm hb)).trans e
 refine wpAny_bind (wpAny_letGo ?_)
 refine extend_rev hh (hit.at fun o e=>oth it o (Ne.symm h1) e) (hl.at fun o e=>oth l o (Ne.symm h2) e) hne S .none _ h1 h2 hS₂ (fun h' tk acc' c' hk hS' hacc=>?_) hn
 exact hR h' tk acc' c' (fun b o hb hb2 e=>hk b o hb hb2 (oth b o hb e)) hS' hacc
theorem call_list_rev {Q:Value->Shared->Prop}(hh:A.handled=none){it l:Addr}{items:Array Value}(hit:s.heap.IsRevIter it l ((items.size:Int)-1))(hl:s.heap.IsList l items)(hne:l≠it)
  (hQ:∀ h' tk acc' c',(∀ b o,b≠it->s.heap.get? b=some o->h'.get? b=some o)->h'.get? s.heap.objs.size=some { cls:=.type "list",dict:=none,data:=.seq acc' c',slots:=#[] } ->
   acc'.toList=items.toList.reverse->Q (.ref s.heap.objs.size) { s with heap:=h',toks:=tk }) (hn:items.size<=sizeLine) :
  wpAny (model prog w) A (call (.type "list") [.ref it]) Q E s:=by
 refine callType_codes (Q₁:=fun obj s₁=>obj = .ref s.heap.objs.size∧s₁ = { s with heap:=s.heap.push { cls:=.type "list",data:=.seq #[] } }) F.called_list (F.typeCall_list_1 _) F.entry_list_init
  (code_list_new _ ⟨rfl,rfl⟩) fun obj s₁ h₁=>?_
 obtain ⟨rfl,rfl⟩:=h₁
 have hS:(s.heap.push { cls:=.type "list",data:=.seq #[] }).get? s.heap.objs.size=some { cls:=.type "list",data:=.seq #[] }:=Heap.get?_push_size _ rfl
 obtain ⟨oi,hoi,ri⟩:=id hit
 obtain ⟨ol,hol,rl⟩:=id hl
 refine ⟨⟨_,hS,rfl⟩,F.args_list_init_2 _ _,init_rev (A:=A.in1) hh ⟨oi,Heap.get?_push_of_some _ hoi,ri⟩ ⟨ol,Heap.get?_push_of_some _ hol,rl⟩ hne _ (Ne.symm (Nat.ne_of_lt (Heap.lt_size hoi))) (Ne.symm (Nat.ne_of_lt (Heap.lt_size hol))) hS (fun h' tk acc' c' hk hS' hacc=>?_) hn⟩
 exact ⟨rfl,hQ h' tk acc' c' (fun b o hb e=>hk b o (Nat.ne_of_lt (Heap.lt_size e)) hb (Heap.get?_push_of_some _ e)) hS' hacc⟩
end
end RV
section
variable {X:Cx}
theorem arg1 {e:Expr}{pos:Pos}{s:Shared}{Q:List Value->Shared->Prop}{E:Value->Shared->Prop}(h:wpAny (model X.prog X.w) X.A (eval e X.env) (fun u s1=>Q [u] s1) E s)(hs:starEach [e] X.env=(false,eval e X.env)::starEach [] X.env) :
  wpAny (model X.prog X.w) X.A (spliced (backTo pos (starEach [e] X.env))) Q E s:=by
 rw [hs]
 show wpAny _ _ (spliced ((false,eval e X.env)::backTo pos (starEach [] X.env))) _ _ s
 exact Calls.spliced_cons (thn h fun u s1 q=>Calls.spliced_nil q)
def tLR (K:PySem.W.Frag)(t:TE):TE:=fun σ H Q=>t σ H fun x H1=>∃ (p:Addr) (vs:List V),x = .ref p∧SqL K H1 p vs∧∀ D,H1 D=none->Q (.ref D) (upd H1 D (.lst vs.reverse))
theorem pe_listrev {e:Expr}{t:TE}{p1 p2 pos pos2:Pos}(hc:X.calm=true)(g1:Gl X "list")(m1:X.mg "list" = none)(g2:Gl X "reversed")(m2:X.mg "reversed" = none)(he:PE X e t)
  (s1:starEach [e] X.env=(false,eval e X.env)::starEach [] X.env:=by rfl)
  (hb1:bootBuiltins "list" = some (.type "list"):=by decide +kernel) (hb2:bootBuiltins "reversed" = some (.type "reversed"):=by decide +kernel) :
  PE X (.Call (.Name "list" p1) [.Call (.Name "reversed" p2) [e] [] pos2] [] pos) (tLR X.K t):=by
 intro pins s σ H Q I h
 refine wpAny_Call_Name_kw (ld_blt I g1 m1 hb1 ?_ (by decide) (by decide))
 refine PyProof.Rows.callWith_type1 (arg1 ?_ rfl) rfl rfl
 refine wpAny_Call_Name_kw (ld_blt I g2 m2 hb2 ?_ (by decide) (by decide))
 refine PyProof.Rows.callWith_type1 (arg1 (thn (he pins s σ H _ I h) fun u s' ⟨v,H1,I1,r1,q1⟩=>?_) s1) s1 rfl
 obtain ⟨p,vs,rfl,hq,q⟩:=q1
 cases r1
 obtain ⟨its,r,pl,hz⟩:=I1.list hq
 have hl:=pl.isList
 refine call_reversed_list hl ?_
 have hlt:p<s'.heap.objs.size:=by obtain ⟨o,ho,_⟩:=hl;exact Heap.lt_size ho
 have hl2:(s'.heap.push (revObj p ((its.toArray.size:Int)-1))).IsList p its.toArray:=by
  obtain ⟨o,ho,rr⟩:=hl
  exact ⟨o,Heap.get?_push_of_some _ ho,rr⟩
 refine RV.call_list_rev (I1.ok.hd hc) (it:=s'.heap.objs.size) (l:=p) (items:=its.toArray) ⟨_,Heap.get?_push_size _ rfl,rfl,rfl⟩ hl2 (Nat.ne_of_lt hlt) (fun h' tk acc' c' hk hS hacc=>?_) (by rw [List.size_toArray,<- r.length];exact hz)
 have hp:s'.heap.objs.size<=(s'.heap.push (revObj p ((its.toArray.size:Int)-1))).objs.size:=by
  unfold Heap.push
  simp
 have hf:H1 (s'.heap.push (revObj p ((its.toArray.size:Int)-1))).objs.size=none:=I1.hok.fresh hp
 refine ⟨.ref _,_,I1.laid (t':=tk) (fun b u eb=>hk b u (Nat.ne_of_lt (Heap.lt_size eb)) (Heap.get?_push_of_some _ eb)) hp (o:=.lst vs.reverse) ⟨by rw [List.length_reverse];exact hz,acc'.toList,c',?_,by simpa using hS⟩,rfl,q _ hf⟩
 rw [hacc]
 exact r.reverse
theorem rising_pw:∀ (x:List Nat) (ls:List (List Nat)),risingS (tx x) (ls.map tx)=true->(∀ y∈ls,¬ y<x)∧ls.Pairwise (fun a b=>¬ b<a)
 | x,[],_=>⟨fun _ h=>(by cases h),.nil⟩
 | x,y::ls,h=>by
  have h':(!ltCps (tx y).cps.toList (tx x).cps.toList&&risingS (tx y) (ls.map tx))=true:=h
  rw [Bool.and_eq_true,tx_cps,tx_cps,ltCps_eq] at h'
  obtain ⟨a,b⟩:=rising_pw y ls h'.2
  have h1:¬ y<x:=by simpa using h'.1
  refine ⟨fun z hz=>?_,List.pairwise_cons.mpr ⟨a,b⟩⟩
  rcases List.mem_cons.mp hz with rfl | hz
  ·exact h1
  ·exact Wd.lele h1 (a z hz)
theorem sorted_pw:∀ (ls:List (List Nat)),sortedS (ls.map tx)=true->ls.Pairwise (fun a b=>¬ b<a)
 | [],_=>.nil
 | x::ls,h=>List.pairwise_cons.mpr (rising_pw x ls h)
theorem strs_back:∀ {us:List Value} {ss:List Str},StrsAre us ss->Vals ((ss.map fun x=>x.cps.toList).map T) us
 | _,_,.nil=>.nil
 | _,_,.cons x t h=>.cons ⟨t,by show Value.str x t=Value.str (tx x.cps.toList) t;rw [tx_eta]⟩ (strs_back h)
theorem call_sortedT:CallR X (.builtin "sorted") (fun xs H Q=>∃ (p:Addr) (ls:List (List Nat)),xs=[.ref p]∧SqL X.K H p (ls.map T)∧ls.length<64∧∀ (ms:List (List Nat)) (D:Addr),H D=none->ms.Perm ls->ms.Pairwise (fun a b=>¬ b<a)->Q (.ref D) (upd H D (.lst (ms.map T)))):=by
 intro pins s σ H xs us Q I r h
 obtain ⟨p,ls,rfl,hq,h64,q⟩:=h
 obtain ⟨u,rfl,ru⟩:=vals1 r
 cases ru
 obtain ⟨its,rv,pl,hz⟩:=I.list hq
 have hlen:=rv.length
 rw [List.length_map] at hlen
 refine sorted_strs pl.isList (strsAre_T rv) (by omega) fun out ss' a1 a2 a3=>?_
 obtain ⟨e,he⟩:=sortedAll_at s.heap its out
 have em:(ss'.map fun x=>x.cps.toList).map tx=ss':=by
  rw [List.map_map]
  conv=>rhs;rw [<- List.map_id ss']
  exact List.map_congr_left fun x _=>tx_eta x
 have hp:(ss'.map fun x=>x.cps.toList).Perm ls:=by
  have z:=a2.map fun x=>x.cps.toList
  have e2:(ls.map tx).map (fun x=>x.cps.toList)=ls:=by
   rw [List.map_map]
   conv=>rhs;rw [<- List.map_id ls]
   exact List.map_congr_left fun x _=>tx_cps x
  rw [e2] at z
  exact z
 have hpl:=hp.length_eq
 refine ⟨.ref _,_,I.laid (t':=s.toks) (fun _ _=>sortedAll_old) (Nat.le_succ _) (o:=.lst ((ss'.map fun x=>x.cps.toList).map T)) ⟨by rw [List.length_map,hpl];rw [List.length_map] at hz;exact hz,out.toList,e,strs_back a1,by simpa using he⟩,rfl,q _ _ (I.hok.fresh (Nat.le_succ _)) hp (sorted_pw _ (by rw [em];exact a3))⟩
theorem op_ne_LT (hu:X.A.units<cLine):OpR X (compareOp .NotEq) (fun x y H Q=>∃ (p b:Addr) (ls ms:List (List Nat)),x = .ref p∧y = .ref b∧SqL X.K H p (ls.map T)∧SqL X.K H b (ms.map T)∧Q (.bl (!decide (ls=ms))) H):=by
 intro pins s σ H x y v u Q I rx ry h
 obtain ⟨p,b,ls,ms,rfl,rfl,h1,h2,q⟩:=h
 cases rx
 cases ry
 obtain ⟨its,r,pl,_⟩:=I.list h1
 obtain ⟨its2,r2,pl2,_⟩:=I.list h2
 have l1:=r.length
 have l2:=r2.length
 rw [List.length_map] at l1 l2
 by_cases hl:ls.length=ms.length
 ·refine SeqAt.RcNeAt.lists (e:=fun j=>decide (ls[j]?=ms[j]?)) pl.isList pl2.isList (by rw [List.size_toArray,List.size_toArray];omega) hu (fun j g1 g2=>eqAt_T r r2 (by simp) (by simp)) _ _ _ _ ?_
  rw [List.size_toArray,<- l1,all_range_eq hl]
  exact ⟨.bl _,H,I,rfl,q⟩
 ·refine SeqAt.RcNeAt.lists_lengths pl.isList pl2.isList (by rw [List.size_toArray,List.size_toArray,bne_iff_ne];omega) hu _ _ _ _ ?_
  have e:decide (ls=ms)=false:=decide_eq_false fun z=>hl (by rw [z])
  rw [e] at q
  exact ⟨.bl _,H,I,rfl,q⟩
end
end L2
namespace L2
open PySem PySem.Spec PyProof.Rows
def nub:List (List Nat)->List (List Nat)->List (List Nat)
 | acc,[]=>acc
 | acc,l::ls=>if l∈acc then nub acc ls else nub (acc++[l]) ls
def nubTo (ls:List (List Nat)):Nat->List (List Nat)
 | 0=>[]
 | i+1=>if ls.getD i []∈nubTo ls i then nubTo ls i else nubTo ls i++[ls.getD i []]
theorem nubTo_len (ls:List (List Nat)):∀ i,(nubTo ls i).length<=i
 | 0=>Nat.le_refl _
 | i+1=>by
  have h:=nubTo_len ls i
  rw [nubTo]
  split
  ·omega
  ·rw [List.length_append,List.length_singleton]
   omega
theorem nubTo_nodup (ls:List (List Nat)):∀ i,(nubTo ls i).Nodup
 | 0=>List.nodup_nil
 | i+1=>by
  have h:=nubTo_nodup ls i
  rw [nubTo]
  split
  ·exact h
  ·rename_i hn
   refine List.nodup_append.mpr ⟨h,by simp,fun a ha b hb e=>?_⟩
   have hb':b=ls.getD i []:=by simpa using hb
   rw [e,hb'] at ha
   exact hn ha
theorem nubTo_mem (ls:List (List Nat))(x:List Nat):∀ i,i<=ls.length->(x∈nubTo ls i↔x∈ls.take i)
 | 0,_=>by simp [nubTo]
 | i+1,hi=>by
  have h:=nubTo_mem ls x i (by omega)
  have e:ls.take (i+1)=ls.take i++[ls.getD i []]:=by
   rw [List.take_add_one,List.getD_eq_getElem?_getD,List.getElem?_eq_getElem (by omega)]
   rfl
  rw [e,List.mem_append,nubTo]
  split
  ·rename_i hm
   rw [h]
   constructor
   ·exact .inl
   ·rintro (q | q)
    ·exact q
    ·have q':x=ls.getD i []:=by simpa using q
     rw [q',<- nubTo_mem ls _ i (by omega)]
     exact hm
  ·rw [List.mem_append,h]
def uniq (ls:List (List Nat)):List (List Nat):=nubTo ls ls.length
theorem uniq_nodup (ls:List (List Nat)):(uniq ls).Nodup:=nubTo_nodup ls _
theorem uniq_mem (ls:List (List Nat))(x:List Nat):x∈uniq ls↔x∈ls:=by
 rw [uniq,nubTo_mem ls x _ (Nat.le_refl _),List.take_length]
namespace SE
section
variable {prog:Program}{w:World}{A:Around}{R:Result->Shared->Prop}{J:Addr}{fp wr:List Addr}{G:Array GenState->Array GenState->Prop}{n:Nat}{P:Nat->Value->Prop}{St:Nat->Shared->Prop}
abbrev Has (prog:Program)(w:World)(h:Heap)(D:Addr)(ms:List (List Nat)):Prop:=h.SetOf (PySem.strKind prog w) D (fun x=>decide (x.cps.toList∈ms)) ms.length
theorem Has.at {h h':Heap}{D:Addr}{ms:List (List Nat)}(x:Has prog w h D ms)(k:∀ o,h.get? D=some o->h'.get? D=some o):Has prog w h' D ms:=by
 obtain ⟨o,es,ep,tb,ho,r⟩:=x
 exact ⟨o,es,ep,tb,k o ho,r⟩
theorem loop (W:WalksS prog w A.in1 J fp wr G n P St){D:Addr}(hD:D∉fp)(ls:List (List Nat))(hv:∀ i v,P i v->∃ t,v=Value.str (tx (ls.getD i [])) t)(hn:n+1<scanBound) :
  ∀ (k i:Nat) (s:Shared),n-i=k->i<=n->St i s->Has prog w s.heap D (nubTo ls i) ->
   (∀ s',Moved (D::wr) G s s'->Has prog w s'.heap D (nubTo ls n)->R (.ok (.ret .none)) s')->codeAny (model prog w) A (.builtin "set.update.loop" ⟨[.ref D,.ref J],[]⟩) R s:=by
 have hDw:D∉wr:=fun z=>hD (W.sub _ z)
 have up:∀ b∈wr,b∈D::wr:=fun b hb=>.tail _ hb
 intro k
 induction k with
 | zero =>
  intro i s hk hi st hs hR
  obtain rfl:i=n:=by omega
  refine codeAny_builtin PyProof.Rows.F.entry_set_update_loop ?_
  rw [Around.under_plainId PyProof.Rows.F.plain_set_update_loop]
  refine wpAny_bind (m:=pyNext (.ref J)) (W.done s _ _ st fun s2 mv=>?_)
  exact (show wpAny _ A.in1 (ret Value.none) _ _ s2 from wpAny_pure (hR s2 (mv.mono up) (hs.at fun o e=>mv.heap D o hDw e)))
 | succ k ih =>
  intro i s hk hi st hs hR
  have hlt:i<n:=by omega
  refine codeAny_builtin PyProof.Rows.F.entry_set_update_loop ?_
  rw [Around.under_plainId PyProof.Rows.F.plain_set_update_loop]
  refine wpAny_bind (m:=pyNext (.ref J)) (W.item i s _ _ hlt st fun v s2 pv st2 mv=>?_)
  obtain ⟨t,rfl⟩:=hv i v pv
  have hs2:=hs.at fun o e=>mv.heap D o hDw e
  refine wpAny_bind (m:=holding [Value.str (tx (ls.getD i [])) t] (setAdd D (.str (tx (ls.getD i [])) t))) (wpAny_holding ?_)
  unfold setAdd
  refine wpAny_holding (wpAny_bind ((PySem.strKind prog w).pyHash (k:=tx (ls.getD i [])) (strKind_is _ _ _ _) ?_))
  have hl:=nubTo_len ls i
  refine wpAny_setAddHashed_of (knd:=PySem.strKind prog w) (s:={ s2 with toks:=s2.toks+1 }) (strKind_is _ _ _ _) rfl hs2 (by omega) fun h3 sb x3=>?_
  have x4:Has prog w h3 D (nubTo ls (i+1)):=by
   refine PyProof.Rows.SetOf_congr x3 (fun y=>?_) ?_
   ·rw [nubTo]
    split
    ·rename_i hm
     rw [Bool.eq_iff_iff,Bool.or_eq_true,decide_eq_true_iff,decide_eq_true_iff]
     constructor
     ·rintro (q | q)
      ·exact q
      ·rw [q,tx_cps]
       exact hm
     ·exact .inl
    ·rw [Bool.eq_iff_iff,Bool.or_eq_true,decide_eq_true_iff,decide_eq_true_iff,decide_eq_true_iff,List.mem_append,List.mem_singleton]
     constructor
     ·rintro (q | q)
      ·exact .inl q
      ·right
       rw [q,tx_cps]
     ·rintro (q | q)
      ·exact .inl q
      ·right
       rw [<- q,tx_eta]
   ·rw [tx_cps,nubTo]
    by_cases hm:ls.getD i []∈nubTo ls i
    ·rw [if_pos hm,if_pos (decide_eq_true hm)]
    ·rw [if_neg hm,if_neg (by rw [decide_eq_false hm];exact Bool.false_ne_true),List.length_append]
     rfl
  refine wpAny_pure ⟨plainId_quiet PyProof.Rows.F.plain_set_update_loop _,ih (i+1) _ (by omega) hlt (W.frame _ s2 _ _ st2 (Nat.le_succ _) fun b hb o e=>(sb.2 b fun z=>hD (z▸hb)).trans e) x4 fun s5 m5 x5=>?_⟩
  refine hR s5 (Moved.trans W.gtrans ((mv.mono up).then_heap (Nat.le_succ _) fun b o hb e=>(sb.2 b fun z=>hb (z▸.head _)).trans e) m5) x5
variable {E:Value->Shared->Prop}{s:Shared}
theorem call_of {l:Addr}{its:Array Value}{ls:List (List Nat)}{Q:Value->Shared->Prop}(hh:A.handled=none)(hl:s.heap.IsList l its)(hv:∀ i v,its[i]?=some v->∃ t,v=Value.str (tx (ls.getD i [])) t)(hn:its.size+1<scanBound)
  (h:∀ (h':Heap) (tk:Nat),Has prog w h' s.heap.objs.size (nubTo ls its.size)->(∀ b o,s.heap.get? b=some o->h'.get? b=some o)->Q (.ref s.heap.objs.size) { s with heap:=h',toks:=tk }) :
  wpAny (model prog w) A (call (.type "set") [.ref l]) Q E s:=by
 obtain ⟨mc,mt,f0⟩:=F.called_set.mro
 have f1:=F.called_set.made;have f2:=F.called_set.sub;have f3:=F.called_set.notType;have f4:=F.called_set.canCreate;have f5:=F.typeCall_set_1 (.ref l)
 refine wpAny_call (codeAny_of_tree (show wpAny _ _ (callAny (.type "set") _) _ _ _ from wpAny_pure ⟨Code.quiet_builtin _ (by decide +kernel),codeAny_builtin F.entry_type_call ?_⟩))
 rw [Around.under_plain (weight_type_call_type "set" [.ref l] []) rfl]
 repeat (any_goals (first | wp_step | assumption))
 refine codeAny_mono (code_set_new_1 (.ref l) (E:=E) (Q₁:=fun ob s1=>∃ b:Bool,ob = .ref s.heap.objs.size∧s1 = { s with heap:=s.heap.push { cls:=.type "set",dict:=none,data:=.set #[] 0 (.fresh 0 0 b) } }) fun b=>⟨b,rfl,rfl⟩) fun r s1 hr=>?_
 cases r with
 | error e=>exact hr
 | ok fl =>
  cases fl with
  | ret ob =>
   obtain ⟨b,rfl,rfl⟩:=hr
   generalize hob:({ cls:=.type "set",dict:=none,data:=.set #[] 0 (.fresh 0 0 b) }:Obj)=ob
   have hD:(s.heap.push ob).get? s.heap.objs.size=some ob:=Heap.get?_push_size _ (by rw [<- hob];rfl)
   have hT:Shared.TypeIs { s with heap:=s.heap.push ob } (.ref s.heap.objs.size) "set" := ⟨_,hD,by rw [<- hob]⟩
   have f6:=F.called_set.init.lookup;have f7:=F.called_set.init.bind (.ref s.heap.objs.size)
   repeat (any_goals (first | wp_step | assumption))
   refine codeAny_mono (codeAny_call_builtin (R:=wants (fun r s2=>r = .none∧∃ h' tk,s2 = { s with heap:=h',toks:=tk }∧Has prog w h' s.heap.objs.size (nubTo ls its.size)∧∀ b o,s.heap.get? b=some o->h'.get? b=some o) E)
    F.called_set.init.plain F.entry_set_init (check_set_init_1 hT ?_)) fun r2 s2 hr2=>?_
   ·obtain ⟨⟨oc,od,odt,osl⟩,hol,hcl,nl,hdl⟩:=id hl
    simp only at hcl hdl
    subst hcl hdl
    have hol':(s.heap.push ob).get? l=some { cls:=.type "list",dict:=od,data:=.seq its nl,slots:=osl }:=Heap.get?_push_of_some _ hol
    have f8:=F.sub_list_set;have f9:=F.sub_list_frozenset
    have f10:(Value.type "list" == Value.type "dict")=false:=by decide
    have hl1:(s.heap.push ob).IsList l its:=⟨_,hol',rfl,nl,rfl⟩
    subst hob
    unfold Builtin.«set.__init__» noKeywords Builtin.Frozenset.updateFrom
    generalize hPI:pyIter=PI
    wp_walk
    subst hPI
    refine wpAny_pyIter_list hl1 ?_
    refine wpAny_bind (wpAny_runValue ?_)
    have hlt:l<s.heap.objs.size:=Heap.lt_size hol
    have hh3:A.in1.in1.in1.handled=none:=by simp [hh]
    have hsz:(s.heap.push { cls:=.type "set",dict:=none,data:=.set #[] 0 (.fresh 0 0 b) }).objs.size=s.heap.objs.size+1:=Heap.size_push _ _
    have hne:l≠(s.heap.push { cls:=.type "set",dict:=none,data:=.set #[] 0 (.fresh 0 0 b) }).objs.size:=by rw [hsz];exact Nat.ne_of_lt (Nat.lt_succ_of_lt hlt)
    have hfp:s.heap.objs.size∉[(s.heap.push { cls:=.type "set",dict:=none,data:=.set #[] 0 (.fresh 0 0 b) }).objs.size,l]:=by
     rw [hsz]
     intro z
     rcases List.mem_cons.mp z with e | e
     ·exact Nat.ne_of_lt (Nat.lt_succ_self _) e
     ·exact Nat.ne_of_gt hlt (List.mem_singleton.mp e)
    refine loop ((Walks.list hh3 _ l hne its).toS) (D:=s.heap.objs.size) hfp ls hv hn (its.size-0) 0 _ (by omega) (Nat.zero_le _) ⟨⟨_,Heap.get?_push_size _ rfl,rfl,rfl⟩,hl1.push _⟩ ?_ fun s3 mv x3=>?_
    ·have hg:((s.heap.push { cls:=.type "set",dict:=none,data:=.set #[] 0 (.fresh 0 0 b) }).push { cls:=.type "list_iterator",data:=.fields #[.ref l,.int 0 0] }).get? s.heap.objs.size=some { cls:=.type "set",dict:=none,data:=.set #[] 0 (.fresh 0 0 b) }:=Heap.get?_push_of_some _ hD
     exact PyProof.Rows.SetOf_congr ((PyProof.Rows.setObjOf_fresh (knd:=PySem.strKind prog w) b).setOf hg (by unfold scanBound;omega)) (fun _=>rfl) rfl
    ·obtain ⟨h3,g3,d3,tk3,os3⟩:=s3
     obtain rfl:g3=s.gens:=mv.gens
     obtain rfl:d3=s.drawn:=mv.drawn
     obtain rfl:os3=s.os:=mv.os
     refine wpAny_pure (show wpAny _ _ (ret Value.none) _ _ _ from wpAny_pure ⟨rfl,h3,tk3,rfl,x3,fun c o e=>?_⟩)
     have hc:=Heap.lt_size e
     exact mv.heap c o (show c∉[s.heap.objs.size,(s.heap.push { cls:=.type "set",dict:=none,data:=.set #[] 0 (.fresh 0 0 b) }).objs.size] by
      rw [hsz]
      intro z
      rcases List.mem_cons.mp z with e | e
      ·exact Nat.ne_of_lt hc e
      ·exact Nat.ne_of_lt (Nat.lt_succ_of_lt hc) (List.mem_singleton.mp e)) (Heap.get?_push_of_some _ (Heap.get?_push_of_some _ e))
   ·cases r2 with
    | error e=>exact hr2
    | ok fl2 =>
     cases fl2 with
     | ret r =>
      obtain ⟨rfl,h3,tk,rfl,x3,k3⟩:=hr2
      repeat (any_goals (first | wp_step | assumption))
      exact h _ _ x3 k3
     | _=>exact hr2.elim
  | _=>exact hr.elim
end
end SE
def SetT (P:Program)(w:World)(D:Addr)(ms:List (List Nat)):HO:=.ext fun h=>SE.Has P w h D ms
section
variable {X:Cx}
theorem str_at {ls:List (List Nat)}{us:List Value}(r:Vals (ls.map T) us){i:Nat}{v:Value}(h:us[i]?=some v):∃ t,v=Value.str (tx (ls.getD i [])) t:=by
 have hl:=r.length
 rw [List.length_map] at hl
 have hi:i<ls.length:=by have:=(List.getElem?_eq_some_iff.mp h).1;omega
 obtain ⟨u,h1,h2⟩:=r.get (i:=i) (x:=T ls[i]) (by rw [List.getElem?_map,List.getElem?_eq_getElem hi];rfl)
 rw [h] at h1
 cases h1
 rw [List.getD_eq_getElem?_getD,List.getElem?_eq_getElem hi]
 exact h2
theorem call_setT (hc:X.calm=true):CallR X (.type "set") (fun xs H Q=>∃ (p:Addr) (ls:List (List Nat)),xs=[.ref p]∧SqL X.K H p (ls.map T)∧ls.length+1<4096∧∀ D,H D=none->Q (.ref D) (upd H D (SetT X.prog X.w D (uniq ls)))):=by
 intro pins s σ H xs us Q I r h
 obtain ⟨p,ls,rfl,hq,hz,q⟩:=h
 obtain ⟨u,rfl,ru⟩:=vals1 r
 cases ru
 obtain ⟨its,rv,pl,_⟩:=I.list hq
 have hlen:=rv.length
 rw [List.length_map] at hlen
 refine SE.call_of (I.ok.hd hc) pl.isList (ls:=ls) (fun i v e=>str_at rv (by simpa using e)) (by rw [List.size_toArray];unfold scanBound;omega) fun h' tk x k=>?_
 have e:nubTo ls its.toArray.size=uniq ls:=by rw [List.size_toArray,<- hlen];rfl
 rw [e] at x
 have hf:H s.heap.objs.size=none:=I.hok.fresh (Nat.le_refl _)
 refine ⟨.ref s.heap.objs.size,_,I.laid (t':=tk) k (Nat.le_refl _) (o:=SetT X.prog X.w s.heap.objs.size (uniq ls)) ?_,rfl,q _ hf⟩
 refine ⟨x,?_,fun h1 h2 x1 kk=>x1.at kk⟩
 obtain ⟨o,_,_,_,ho,_⟩:=x
 exact ⟨o,ho⟩
theorem call_lenS:CallR X (.builtin "len") (fun xs H Q=>∃ (D:Addr) (ms:List (List Nat)),xs=[.ref D]∧H D=some (SetT X.prog X.w D ms)∧Q (.int (ms.length:Nat)) H):=by
 intro pins s σ H xs us Q I r h
 obtain ⟨D,ms,rfl,hD,q⟩:=h
 obtain ⟨u,rfl,ru⟩:=vals1 r
 cases ru
 obtain ⟨⟨o,es,ep,tb,ho,hex,hd,_,_,hb,hf,hn⟩,_⟩:=(show ObjOk X.prog X.w H s.heap D (SetT X.prog X.w D ms) from I.hok D _ hD)
 have hb':es.size<4096:=hb
 exact call_len_set ho hex hd hf (by omega) ⟨.int (ms.length:Nat),H,I.tok _,⟨s.toks+1,by rw [<- hn]⟩,q⟩
end
end L2
namespace L2
open PySem PySem.Spec PyProof.Rows
section
variable {X:Cx}
namespace LM
end LM
end
end L2
namespace L2
open PySem PySem.Spec PyProof.Rows
def Itx (l:List Nat):It:=⟨fun i _=>i<l.length,fun i H x H'=>H'=H∧∃ c,l[i]?=some c∧x=T [c],fun i _=>l.length<=i⟩
theorem turn_text {P:Program}{w:World}{K:PySem.W.Frag}{tg:Expr}{it:Addr}{ty:String}{l:List Nat}{t:Tok}(hty:ty = "str_ascii_iterator" ∨ ty = "str_iterator")
  (W:∀ A:Around,A.handled=none->Walks P w A it [it] [it] (tx l).cps.size (SignAt (tx l)) (fun i h=>h.IsStrIter it ty (tx l) t i)):Turn P w K tg (Itx l) [it] it (fun i h=>h.IsStrIter it ty (tx l) t i) where
 mem:=by simp
 obj:=fun i h st b hb=>by
  have e:b=it:=by simpa using hb
  subst e
  obtain ⟨o,e,c,d⟩:=st
  exact ⟨o,e,fun v z=>by rw [d] at z;cases z⟩
 keep:=fun i h h' st k=>by
  obtain ⟨o,e,r⟩:=st
  exact ⟨o,k it (by simp) o e,r⟩
 item:=by
  intro X hP hw hK hc i pins s σ H E I hf st hg
  subst hP hw hK
  obtain ⟨f0,f1,f2,f3,f4,f5⟩:=hf it (by simp)
  refine (W X.A (I.ok.hd hc)).item i s _ _ (by have:i<l.length:=hg;simpa [tx] using this) st fun v h' tk hv st' kk=>?_
  obtain ⟨c,u,hcu,rfl⟩:=hv
  have I1:Inv X pins σ H { s with heap:=h',toks:=tk }:=I.turned (fun b o hb e=>kk b o (by simpa using hb) e) f0 f1 f3 f4 f5
  obtain ⟨o,e,cl,d⟩:=id st'
  refine ⟨_,rfl,go_of (s:={ s with heap:=h',toks:=tk }) (n:=ty) e cl d (by rcases hty with rfl | rfl <;> decide) ⟨T [c],H,I1,⟨u,rfl⟩,⟨rfl,c,?_,rfl⟩,st',fun b hb=>(hf b hb).1⟩⟩
  simpa [tx] using hcu
 done:=by
  intro X hP hw hK hc i pins s σ H E I hf st hg
  subst hP hw hK
  obtain ⟨f0,f1,f2,f3,f4,f5⟩:=hf it (by simp)
  have hn:l.length<=i:=hg
  obtain ⟨o,e,cl,d⟩:=id st
  rcases hty with rfl | rfl
  ·exact wpAny_pyNext_ascii_end (I.ok.hd hc) st (by simpa [tx] using hn) fun h' eb=>⟨rfl,I.turned (t':=s.toks) (fun b o hb e=>eb b o hb e) f0 f1 f3 f4 f5⟩
  ·exact wpAny_pyNext_wide_end (I.ok.hd hc) st (by simpa [tx] using hn) fun h' eb=>⟨rfl,I.turned (t':=s.toks) (fun b o hb e=>eb b o hb e) f0 f1 f3 f4 f5⟩
 self:=fun A i s Q E st h=>by
  rcases hty with rfl | rfl
  ·exact wpAny_pyIter_striter_ascii st h
  ·exact wpAny_pyIter_striter_wide st h
def iStr (tl:TE):TI:=fun σ H R=>tl σ H fun x H1=>∃ l,x=T l∧R (Itx l) H1
section
variable {X:Cx}{tg:Expr}
theorem pi_str {e:Expr}{tl:TE}(hl:PE X e tl):PI X tg e (iStr tl):=by
 intro pins s σ H R I h
 refine thn (hl pins s σ H _ I h) fun v s1 ⟨x,H1,I1,r1,q1⟩=>?_
 obtain ⟨l,rfl,q⟩:=q1
 obtain ⟨t,rfl⟩:=r1
 have fin:∀ (ty:String) (o:Obj),(ty = "str_ascii_iterator" ∨ ty = "str_iterator")->(∀ A:Around,A.handled=none->Walks X.prog X.w A s1.heap.objs.size [s1.heap.objs.size] [s1.heap.objs.size] (tx l).cps.size (SignAt (tx l)) (fun i h=>h.IsStrIter s1.heap.objs.size ty (tx l) t i)) ->
   (s1.heap.push o).IsStrIter s1.heap.objs.size ty (tx l) t 0->PIE X pins σ tg R (.ref s1.heap.objs.size) { s1 with heap:=s1.heap.push o }:=fun ty o hty W st=>by
  refine ⟨s1.heap.objs.size,[s1.heap.objs.size],_,_,H1,rfl,I1.kept (t':=s1.toks) fun b o e=>Heap.get?_push_of_some _ e,turn_text hty W,st,fun b hb=>?_,q⟩
  have e:b=s1.heap.objs.size:=by simpa using hb
  subst e
  exact I1.fpOk (Nat.le_refl _) (I1.hok.fresh (Nat.le_refl _))
 cases ha:(tx l).cps.all (· < 128)
 ·exact wpAny_pyIter_wide ha (fin "str_iterator" _ (.inr rfl) (fun A hA=>Walks.strWide hA _ (tx l) t) ⟨_,Heap.get?_push_size _ rfl,rfl,rfl⟩)
 ·exact wpAny_pyIter_ascii ha (fin "str_ascii_iterator" _ (.inl rfl) (fun A hA=>Walks.strAscii hA _ (tx l) t) ⟨_,Heap.get?_push_size _ rfl,rfl,rfl⟩)
end
theorem for_text {l:List Nat}{g:TG}{tb:TS}{D:Ends}{σ:St}{H:Hp}(Pv:Nat->St->Hp->Prop)(h0:Pv 0 σ H)
  (hs:∀ i c σ H,l[i]?=some c->Pv i σ H->g (T [c]) σ H fun σ2 H2=>tb { D with nx:=Pv (i+1),ct:=Pv (i+1),bk:=D.nx } σ2 H2) (hd:∀ σ H,Pv l.length σ H->D.nx σ H) :
  ∃ W:Nat->Nat->St->Hp->Prop,(∃ m,W 0 m σ H)∧∀ i m σ H,W i m σ H ->
   ((Itx l).stop i H∧D.nx σ H)∨((Itx l).go i H∧∃ N:St->Hp->Prop,(∀ σ' H',N σ' H'->∃ m',m'<m∧W (i+1) m' σ' H')∧∀ x H',(Itx l).yld i H x H'->g x σ H' fun σ2 H2=>tb { D with nx:=N,ct:=N,bk:=D.nx } σ2 H2):=by
 refine ⟨fun i m σ H=>m=l.length-i∧i<=l.length∧Pv i σ H,⟨l.length,by simp,Nat.zero_le _,h0⟩,?_⟩
 rintro i m σ H ⟨rfl,hi,p⟩
 by_cases hlt:i<l.length
 ·refine .inr ⟨hlt,Pv (i+1),fun σ' H' p'=>⟨l.length-(i+1),by omega,rfl,hlt,p'⟩,fun x H' y=>?_⟩
  obtain ⟨rfl,c,hc,rfl⟩:=y
  exact hs i c σ _ hc p
 ·obtain rfl:i=l.length:=by omega
  exact .inl ⟨Nat.le_refl _,hd σ H p⟩
section
variable {X:Cx}
theorem op_notin_sT:OpR X (compareOp .NotIn) (fun x y H Q=>∃ c,x=T [c]∧∃ l,y=T l∧Q (.bl (!decide (c∈l))) H):=by
 intro pins s σ H x y v u Q I rx ry h
 obtain ⟨c,e1,l,e2,q⟩:=h
 exact op_notin_str pins s σ H x y v u Q I rx ry ⟨tx [c],tx l,e1,e2,by rw [show tx [c]=⟨#[c]⟩ from rfl,StrLaws.found_one,tx_cps];exact q⟩
namespace RV
variable {prog:Program}{w:World}{A:Around}{E:Value->Shared->Prop}{s:Shared}
end RV
end
end L2
namespace L2
open PySem PySem.Spec PyProof.Rows
section
variable {P:Program}{w:World}{K:PySem.W.Frag}{mg:Str->Option Value}{base:Heap}
theorem Fun.okN {x qual:Str}{st:Stmt}{f:Addr}{fd:FuncData}{N ps:List Str}{k:Nat}{sp:Sp}(F:Fun K x qual st f fd)(S:FnScope N ps (defScope st))(len:∀ vs H Q E,sp vs H Q E->vs.length=ps.length)
  (hbody:∀ (cdv:Value) (A:Around) (outer:List Env) (s:Shared) (H:Hp) (vs:List V) (Q:VK) (E:XK),Room k (A.deeper (envOfC qual (defScope st) s.heap.objs.size f cdv))->sp vs H Q E ->
   ∃ t,PSs (cxOf (CX1 P w) P w K mg base N qual (defScope st) f cdv A outer s H E).nox (defBody st) t∧t { nx:=fun _ H'=>Q .non H',rt:=Q } (start N vs) H):FnOk P w K mg base (CX1 P w) (k+1) f fd ps sp:=by
 obtain ⟨oc,od,kV,doc,pm,an,cdv,ct,osl,rfl,lk,hcd⟩:=F.ex
 refine fn_of lk hcd S len fun A outer s H vs Q E hr hsp=>?_
 obtain ⟨t,h,q⟩:=hbody cdv A outer s H vs Q E hr hsp
 exact ⟨t,h.nox,q⟩
end
namespace EX
open PySem.W PySem.Calls PySem.Builtin PySem.Builtin.ObjectAttr PySem.Builtin.Getset_descriptor
variable {prog:Program}{w:World}{A:Around}{E:Value->Shared->Prop}{s:Shared}{K:PySem.W.Frag}{a C:Addr}
end EX
section
variable {X:Cx}
theorem vals_refs:∀ {cs:List Addr} {us:List Value},Vals (cs.map V.ref) us->us=cs.map Value.ref
 | [],_,r=>by cases r;rfl
 | c::cs,us,r=>by
  rw [List.map_cons] at r
  cases r with
  | cons r1 r2 =>
   cases r1
   rw [vals_refs r2]
   rfl
end
end L2
namespace L2
open PySem PySem.Spec PyProof.Rows
section
variable {X:Cx}{es:List Expr}{te:TE}{t:TA}
end
end L2
namespace L2
open PySem PySem.Spec PyProof.Rows
section
variable {X:Cx}{tg:Expr}
end
end L2
namespace L2
open PySem
section
variable {X:Cx}{N':List Str}{scope:Scope}{x:Str}{px:Pos}{elt iter cd:Expr}{pos:Pos}{te:TE}{tc:TT}{wi:TI}
theorem pe_compf (S:CompSc X.N N' X.env.scope scope x)(hc:X.calm=true)(hi:PI X (.Name x px) iter wi)(ht:∀ cl C s H fp,PT (cxComp X N' scope cl C s H fp) cd tc)(he:∀ cl C s H fp,PE (cxComp X N' scope cl C s H fp) elt te)
  (hs:∀ x,foldedSetIterable iter X.env x=pure x:=by intro _;rfl):PE X (.ListComp elt [⟨.Name x px,iter,[cd],0⟩] scope pos) (tCompF wi tc te) :=
 pe_compx (at':=fun σ Q=>compAtF tc te σ Q) S hc hi (fun cl C s H fp=>ptl_one (ht cl C s H fp)) he (fun _ _ _ _ h=>h) hs
theorem ps_setCompf {i:Nat}{y:Str}{py spos:Pos}(S:CompSc X.N N' X.env.scope scope x)(hc:X.calm=true)(hi:PI X (.Name x px) iter wi)(ht:∀ cl C s H fp,PT (cxComp X N' scope cl C s H fp) cd tc)(he:∀ cl C s H fp,PE (cxComp X N' scope cl C s H fp) elt te)
  (hN:X.N.Nodup) (hy:X.N[i]?=some y) (hyl:X.env.scope.names.lookup y=some .local)
  (hsw:swapsWith (.ListComp elt [⟨.Name x px,iter,[cd],0⟩] scope pos) (some (.Name y py)) spos.line X.env=pure true:=by rfl)
  (hs:∀ x,foldedSetIterable iter X.env x=pure x:=by intro _;rfl):PS X (.Assign [.Name y py] (.ListComp elt [⟨.Name x px,iter,[cd],0⟩] scope pos) spos) (tAsg (tCompF wi tc te) (gName i)) :=
 ps_setCompx (at':=fun σ Q=>compAtF tc te σ Q) S hc hi (fun cl C s H fp=>ptl_one (ht cl C s H fp)) he (fun _ _ _ _ h=>h) hN hy hyl hsw hs
end
section
variable {X:Cx}
end
theorem take_filter {α:Type}(p:α->Bool)(l:List α)(i:Nat)(v:α)(h:l[i]?=some v):(l.take (i+1)).filter p=(l.take i).filter p++(if p v then [v] else []):=by
 rw [List.take_add_one,h,List.filter_append]
 cases hp:p v <;> simp [hp]
theorem filter_take_len {α:Type}(p:α->Bool)(l:List α)(i:Nat):((l.take i).filter p).length<=i:=by
 have h1:=List.length_filter_le p (l.take i)
 rw [List.length_take] at h1
 omega
theorem cutL_take (w:List Nat)(k:Nat):cutL w none (some (k:Int))=w.take k:=by
 unfold cutL
 rw [HT.sIx_nat,HT.sIx_none,List.drop_zero,Nat.sub_zero]
 by_cases h:k<=w.length
 ·rw [Nat.min_eq_left h]
 ·rw [Nat.min_eq_right (by omega),List.take_length,List.take_of_length_le (by omega)]
end L2
set_option autoImplicit false
namespace SR
open PySem PyProof.Rows
set_option genInjectivity false in
structure SB (kd:SortKind)(z:Array Keyed)(st:SortSt):Prop where
 prm:(arrOf st).Perm z
 knd:kindOf st=kd
 ffl:failedOf st=none
set_option genInjectivity false in
structure Kp (lo:Nat)(st st':SortSt):Prop where
 low:∀ k,k<lo->(arrOf st')[k]?=(arrOf st)[k]?
 pen:pendingOf st'=pendingOf st
section
variable {prog:Program}{w:World}{A:Around}{E:Value->Shared->Prop}{s:Shared}{z:Array Keyed}{κ:KeyKind}{kd:SortKind}
end
end SR
set_option autoImplicit false
namespace SR
open PySem PyProof.Rows
def gal':Bool->Keyed->Array Keyed->Nat->Nat->Nat->StateT SortSt Sem (Option Nat):=sortPriv% PySem.Builtin.gallop
section
variable {prog:Program}{w:World}{A:Around}{E:Value->Shared->Prop}{s:Shared}{z:Array Keyed}{κ:KeyKind}{kd:SortKind}
end
end SR
set_option autoImplicit false
namespace SR
open PySem PyProof.Rows
def kf (κ:KeyKind)(p:Keyed):κ.α:=(κ.keyOf p.1).getD κ.dflt
def Le (κ:KeyKind)(x y:Keyed):Prop:=κ.kle (kf κ x) (kf κ y)
section
variable {prog:Program}{w:World}{A:Around}{E:Value->Shared->Prop}{s:Shared}{z:Array Keyed}{κ:KeyKind}{kd:SortKind}
end
end SR
set_option autoImplicit false
namespace SR
open PySem PyProof.Rows
section
variable {prog:Program}{w:World}{A:Around}{E:Value->Shared->Prop}{s:Shared}{κ:KeyKind}{kd:SortKind}
end
end SR
set_option autoImplicit false
namespace SR
open PySem PyProof.Rows
def Ge (κ:KeyKind)(x y:Keyed):Prop:=Le κ y x
def rt (a:Array Keyed)(n:Nat):List Keyed:=(a.toList.take n).reverse
section
variable {prog:Program}{w:World}{A:Around}{E:Value->Shared->Prop}{s:Shared}{κ:KeyKind}{kd:SortKind}
abbrev HiSt:=Option (Array Keyed)×Nat×Nat×Array Keyed×Nat×Nat×Nat
def hi3 (a b o:Array Keyed)(i j g p q:Nat):StateT SortSt Sem (ForInStep HiSt):=do
 let x <- elem' a (i-1)
 if (i-1==0)=true then pure (ForInStep.done (some (a.extract 0 (i-1)++b.extract 0 j++(o.push x).reverse),i-1,j,o.push x,g,p,q))
 else if (decide (p<7)&&decide (q<7))=true then pure (ForInStep.done (none,i-1,j,o.push x,g,p,q)) else pure (ForInStep.yield (none,i-1,j,o.push x,g,p,q))
def hi2 (a b o:Array Keyed)(i j g p q:Nat):StateT SortSt Sem (ForInStep HiSt):=do
 let x <- elem' b j
 if (j==1)=true then pure (ForInStep.done (some (b.extract 0 j++a.extract 0 i++(o.push x).reverse),i,j,o.push x,g,p,q))
 else do
  let u <- elem' a (i-1)
  let z <- gal' true u b 0 j (j-1)
  match z with
  | some y =>
   if j-y>0 then
    if (y==1)=true then pure (ForInStep.done (some (b.extract 0 y++a.extract 0 i++(o.push x++(b.extract y j).reverse).reverse),i,y,o.push x++(b.extract y j).reverse,g,p,j-y))
    else if (y==0)=true then pure (ForInStep.done (some (a.extract 0 i++b.extract 0 y++(o.push x++(b.extract y j).reverse).reverse),i,y,o.push x++(b.extract y j).reverse,g,p,j-y))
    else hi3 a b (o.push x++(b.extract y j).reverse) i y g p (j-y)
   else hi3 a b (o.push x) i j g p (j-y)
  | _=>pure (ForInStep.done (some (a.extract 0 i++b.extract 0 j++(o.push x).reverse),i,j,o.push x,g,p,q))
end
end SR
set_option autoImplicit false
namespace SR
open PySem PyProof.Rows
def sg (xs:Array Keyed)(l n:Nat):List Keyed:=(xs.toList.drop l).take n
section
variable {κ:KeyKind}{kd:SortKind}
end
end SR
set_option autoImplicit false
namespace SR
open PySem PyProof.Rows
section
variable {prog:Program}{w:World}{A:Around}{E:Value->Shared->Prop}{s:Shared}{z:Array Keyed}{κ:KeyKind}{kd:SortKind}
end
end SR
set_option autoImplicit false
namespace SR
open PySem PyProof.Rows
section
variable {κ:KeyKind}{kd:SortKind}
end
section
variable {prog:Program}{w:World}{A:Around}{E:Value->Shared->Prop}{s:Shared}{z:Array Keyed}{κ:KeyKind}{kd:SortKind}
end
end SR
set_option autoImplicit false
namespace SR
open PySem PyProof.Rows PySem.Spec
section
variable {prog:Program}{w:World}{A:Around}{E:Value->Shared->Prop}{s:Shared}
end
end SR
namespace L2
open PySem PyProof.Rows PySem.Spec
section
variable {X:Cx}
end
end L2
namespace L2
open PySem PyProof.Rows PySem.Spec
section
variable {X:Cx}
end
end L2
namespace L2
open PySem PyProof.Rows PySem.Spec
section
variable {X:Cx}
end
end L2
namespace L2
open PySem PySem.Spec PyProof.Rows
end L2
namespace L2
open PySem PySem.Spec PyProof.Rows
section
variable (P:Program)(w:World)
end
section
variable {P:Program}{w:World}{H H':Hp}{h h':Heap}{a:Addr}{o:HO}
end
section
variable {P:Program}{w:World}{H:Hp}{h h':Heap}{x e:Addr}{o':HO}
end
section
variable {fs fs' ex ex':List Addr}{H H1 H2:Hp}{h h1 h2 h':Heap}{a x e:Addr}{o:HO}
end
end L2
namespace L2
open PySem PySem.Spec PyProof.Rows
section
variable {X:Cx}{pins:List (Addr×Obj)}{σ:List (Option V)}{H H':Hp}{s:Shared}{h':Heap}
end
end L2
namespace L2
open PySem PySem.Spec PyProof.Rows
section
variable {X:Cx}
variable {a b:Expr}{ta tb:TE}{pos:Pos}
variable {tA tB':TT}{rest:List Expr}
end
end L2
namespace L2
open PySem PySem.Spec PyProof.Rows
section
variable {X:Cx}{pins:List (Addr×Obj)}{σ:St}{H:Hp}{s:Shared}{a:Addr}{xs ys:List V}
end
section
variable {X:Cx}{pins:List (Addr×Obj)}{σ:St}{H:Hp}{s:Shared}{E:Value->Shared->Prop}
end
section
variable {X:Cx}{st:Stmt}{rest:List Stmt}{t u:TS}{e:Expr}{te:TE}{pos:Pos}
end
section
variable {X:Cx}{pos:Pos}
end
section
variable {X:Cx}{pos:Pos}
end
end L2
namespace L2
open PySem PySem.Spec PyProof.Rows
section
variable {X:Cx}{tg:Expr}
end
end L2
namespace L2
open PySem PySem.Spec PyProof.Rows
section
variable {X:Cx}{a b c:Expr}{ta tb tc:TE}{pos:Pos}
end
section
variable {X:Cx}{a b c:Expr}{ta tb tc:TE}{pos:Pos}
end
end L2
namespace L2
open PySem PySem.Spec PyProof.Rows
section
variable {prog:Program}{w:World}{A:Around}{E:Value->Shared->Prop}{s:Shared}{K:PySem.W.Frag}{x dx C f:Addr}{mA:Str->Option Value}{name:Str}{v:Value}
end
section
variable {P:Program}{w:World}{H H':Hp}{h h':Heap}{a C dx:Addr}{fs fs':List (Str×V)}
end
section
variable {X:Cx}{pins:List (Addr×Obj)}{σ:St}{H:Hp}{s:Shared}{a C dx:Addr}{fs:List (Str×V)}{f:Str}{v:V}{A:Around}{E:Value->Shared->Prop}
end
section
variable {X:Cx}{o e value:Expr}{f:Str}{pos pos' tpos:Pos}{ta tv:TE}
end
section
variable {X:Cx}{pins:List (Addr×Obj)}{σ:St}{H:Hp}{s:Shared}{A:Around}{E:Value->Shared->Prop}{Q:Value->Shared->Prop}{c:Value}{b:Bool}
end
end L2
namespace L2
open PySem PySem.Spec PyProof.Rows
section
variable {X:Cx}{e:Expr}{es:List Expr}{te:TE}{t:TA}{pos:Pos}
end
section
variable {X:Cx}{pins:List (Addr×Obj)}{σ:St}{H:Hp}{s s':Shared}
end
section
variable {X:Cx}{CX:CXT}{k:Nat}{f C:Addr}{fd:FuncData}{ps:List Str}{sp:Sp}{dvs:List V}{ds:List Value}{E:XK}{x m:Str}{p pos apos:Pos}{e o:Expr}{es:List Expr}{ta:TE}{t:TA}
end
section
variable {X:Cx}{CX:CXT}{k:Nat}{f C:Addr}{fd:FuncData}{ps ks:List Str}{sp:Sp}{E:XK}{x m:Str}{p pos apos kpos:Pos}{e o:Expr}{es:List Expr}{kws:List Keyword}{te ta:TE}{t tk:TA}{nm:Option Str}
variable {g:List Value->List Value->List Value}{gV:List V->List V->List V}
end
end L2
namespace L2
open PySem PySem.Spec PyProof.Rows
section
variable {X:Cx}{x:Str}{p pos:Pos}{e:Expr}{es:List Expr}{t:TA}{id T:String}{r:List V->Hp->VK->Prop}
end
end L2
namespace L2
open PySem PySem.Spec PyProof.Rows
section
variable {κ:Type}[DecidableEq κ]
def valV (kvs:List (κ×V))(k:κ):Option V:=(kvs.find? fun kv=>decide (kv.1=k)).map (·.2)
def putK (kvs:List (κ×V))(k:κ)(v:V):List (κ×V) :=
 if (kvs.any fun kv=>decide (kv.1=k))=true then kvs.map (fun kv=>if kv.1=k then (kv.1,v) else kv) else kvs++[(k,v)]
theorem valV_pos {p:κ×V}{r:List (κ×V)}{k:κ}(e:p.1=k):valV (p::r) k=some p.2:=by simp [valV,List.find?_cons,e]
theorem valV_neg {p:κ×V}{r:List (κ×V)}{k:κ}(e:¬ p.1=k):valV (p::r) k=valV r k:=by simp [valV,List.find?_cons,e]
theorem valV_any (k:κ):∀ kvs:List (κ×V),(kvs.any fun kv=>decide (kv.1=k))=(valV kvs k).isSome
 | []=>rfl
 | p::r=>by
  rw [List.any_cons]
  by_cases e:p.1=k
  ·simp only [valV_pos e,decide_eq_true e,Bool.true_or,Option.isSome_some]
  ·rw [valV_neg e,decide_eq_false e,Bool.false_or];exact valV_any k r
theorem length_putK (kvs:List (κ×V))(k:κ)(v:V):(putK kvs k v).length<=kvs.length+1:=by
 unfold putK
 split
 ·rw [List.length_map];omega
 ·rw [List.length_append,List.length_cons,List.length_nil];omega
theorem RelO.isSome_eq {o:Option V}{u:Option Value}(r:RelO o u):o.isSome=u.isSome:=by
 cases o with
 | none=>cases u with
  | none=>rfl
  | some _=>exact (show False from r).elim
 | some _=>cases u with
  | none=>exact (show False from r).elim
  | some _=>rfl
theorem RelO.getD {o:Option V}{u:Option Value}{d:V}{d':Value}(r:RelO o u)(rd:RelV d d'):RelV (o.getD d) (u.getD d'):=by
 cases o with
 | none=>cases u with
  | none=>exact rd
  | some _=>exact (show False from r).elim
 | some _=>cases u with
  | none=>exact (show False from r).elim
  | some _=>exact r
theorem KV.val {kvs:List (κ×V)}{vs:List (κ×Value)}(r:KV kvs vs)(k:κ):RelO (valV kvs k) (valueAt vs k):=by
 unfold KV at r
 induction r with
 | nil=>exact True.intro
 | @cons p q ps qs h t ih =>
  obtain ⟨h1,h2⟩:=h
  by_cases e:p.1=k
  ·have e':q.1=k:=h1.symm.trans e
   have b:valueAt (q::qs) k=some q.2:=by simp [valueAt,List.find?_cons,e']
   rw [valV_pos e,b];exact h2
  ·have e':¬ q.1=k:=fun z=>e (h1.trans z)
   have b:valueAt (q::qs) k=valueAt qs k:=by simp [valueAt,List.find?_cons,e']
   rw [valV_neg e,b];exact ih
theorem KV.any {kvs:List (κ×V)}{vs:List (κ×Value)}(r:KV kvs vs)(k:κ):(kvs.any fun kv=>decide (kv.1=k))=vs.any fun kv=>decide (kv.1=k):=by
 unfold KV at r
 induction r with
 | nil=>rfl
 | cons h t ih=>rw [List.any_cons,List.any_cons,ih,h.1]
theorem KV.repl {kvs:List (κ×V)}{vs:List (κ×Value)}(r:KV kvs vs)(k:κ){y:V}{u:Value}(ry:RelV y u) :
  KV (kvs.map fun kv=>if kv.1=k then (kv.1,y) else kv) (vs.map fun kv=>if kv.1=k then (kv.1,u) else kv):=by
 unfold KV at r ⊢
 induction r with
 | nil=>exact .nil
 | @cons p q ps qs h t ih =>
  rw [List.map_cons,List.map_cons]
  refine .cons ?_ ih
  obtain ⟨h1,h2⟩:=h
  by_cases e:p.1=k
  ·rw [if_pos e,if_pos (h1.symm.trans e)];exact ⟨h1,ry⟩
  ·rw [if_neg e,if_neg (fun z=>e (h1.trans z))];exact ⟨h1,h2⟩
theorem KV.put {kvs:List (κ×V)}{vs:List (κ×Value)}(r:KV kvs vs)(k:κ){y:V}{u:Value}(ry:RelV y u):KV (putK kvs k y) (stored vs k u):=by
 unfold putK stored
 rw [r.any k]
 by_cases e:(vs.any fun kv=>decide (kv.1=k))=true
 ·rw [if_pos e,if_pos e];exact r.repl k ry
 ·rw [if_neg e,if_neg e];exact Paired.snoc r ⟨rfl,ry⟩
theorem KV.keys {kvs:List (κ×V)}{vs:List (κ×Value)}(r:KV kvs vs):kvs.map (·.1)=vs.map (·.1):=by
 unfold KV at r
 induction r with
 | nil=>rfl
 | cons h t ih=>rw [List.map_cons,List.map_cons,ih,h.1]
theorem KV.length {kvs:List (κ×V)}{vs:List (κ×Value)}(r:KV kvs vs):kvs.length=vs.length:=Paired.length r
end
theorem kV_is {P:Program}{w:World}{k:Key}{u:Value}(r:RelV (kV k) u):(mixKind P w).is k u=true:=by
 cases k with
 | inl i=>obtain ⟨t,e⟩:=(show ∃ t,u=Value.int i t from r);subst e;exact mixKind_int P w i t
 | inr x=>obtain ⟨t,e⟩:=(show ∃ t,u=Value.str x t from r);subst e;exact mixKind_str P w x t
theorem items_are {P:Program}{w:World}:∀ {ks:List Key} {us:List Value},Vals (ks.map kV) us->ItemsAre (mixKind P w) ks us
 | [],_,r=>by rw [List.map_nil] at r;cases r;exact .nil
 | k::ks,_,r=>by
  rw [List.map_cons] at r
  cases r with
  | cons h t=>exact .cons (kV_is h) (items_are t)
abbrev KT (H:Hp):List (List Key×V)->List (List Key×Addr×Value)->Prop:=Paired fun p q=>p.1=q.1∧H q.2.1=some (.tup (p.1.map kV))∧RelV p.2 q.2.2
theorem KT.val {H:Hp}{kvs:List (List Key×V)}{xs:List (List Key×Addr×Value)}(r:KT H kvs xs)(k:List Key):RelO (valV kvs k) ((atKey xs k).map (·.2)):=by
 induction r with
 | nil=>exact True.intro
 | @cons p q ps qs h t ih =>
  obtain ⟨h1,_,h2⟩:=h
  by_cases e:p.1=k
  ·have e':q.1=k:=h1.symm.trans e
   have b:atKey (q::qs) k=some q.2:=by simp [atKey,List.find?_cons,e']
   rw [valV_pos e,b];exact h2
  ·have e':¬ q.1=k:=fun z=>e (h1.trans z)
   have b:atKey (q::qs) k=atKey qs k:=by simp [atKey,List.find?_cons,e']
   rw [valV_neg e,b];exact ih
theorem KT.repl {H:Hp}{kvs:List (List Key×V)}{xs:List (List Key×Addr×Value)}(r:KT H kvs xs)(k:List Key){y:V}{u:Value}(ry:RelV y u) :
  KT H (kvs.map fun kv=>if kv.1=k then (kv.1,y) else kv) (xs.map (putAt k u)):=by
 induction r with
 | nil=>exact .nil
 | @cons p q ps qs h t ih =>
  rw [List.map_cons,List.map_cons]
  refine .cons ?_ ih
  obtain ⟨h1,h2,h3⟩:=h
  unfold putAt
  by_cases e:p.1=k
  ·rw [if_pos e,if_pos (h1.symm.trans e)];exact ⟨h1,h2,ry⟩
  ·rw [if_neg e,if_neg (fun z=>e (h1.trans z))];exact ⟨h1,h2,h3⟩
theorem KT.put {H:Hp}{kvs:List (List Key×V)}{xs:List (List Key×Addr×Value)}(r:KT H kvs xs)(k:List Key){b:Addr}{y:V}{u:Value}(hb:H b=some (.tup (k.map kV)))(ry:RelV y u) :
  KT H (putK kvs k y) (storedH xs k b u):=by
 have e:(kvs.any fun kv=>decide (kv.1=k))=(atKey xs k).isSome:=by
  rw [valV_any,(r.val k).isSome_eq,Option.isSome_map]
 unfold putK storedH
 rw [e]
 by_cases q:(atKey xs k).isSome=true
 ·rw [if_pos q,if_pos q];exact r.repl k ry
 ·rw [if_neg q,if_neg q];exact Paired.snoc r ⟨rfl,hb,ry⟩
theorem KT.keeps {H H':Hp}{kvs:List (List Key×V)}{xs:List (List Key×Addr×Value)}(r:KT H kvs xs)(ht:∀ b ys,H b=some (.tup ys)->H' b=some (.tup ys)):KT H' kvs xs :=
 Paired.mapP r fun _ _ z=>⟨z.1,ht _ _ z.2.1,z.2.2⟩
section
variable {P:Program}{w:World}{H:Hp}{h:Heap}{a:Addr}
theorem rd_of {u:HO}(ok:HOk P w H h)(e:Rd H a u):ObjOk P w H h a u:=e.ok ok
theorem dk_rd {kvs:List (Key×V)}(ok:HOk P w H h)(e:Rd H a (.dK kvs)):kvs.length<=sizeLine∧(a==sysModules)=false∧∃ vs,KV kvs vs∧h.DictOf (mixKind P w) a vs :=
 show ObjOk P w H h a (.dK kvs) from rd_of ok e
theorem dk_of {kvs:List (Key×V)}(ok:HOk P w H h)(e:H a=some (.dK kvs)):kvs.length<=sizeLine∧(a==sysModules)=false∧∃ vs,KV kvs vs∧h.DictOf (mixKind P w) a vs:=dk_rd ok (.inl e)
theorem key_of {ks:List Key}(ok:HOk P w H h)(e:H a=some (.tup (ks.map kV))):(tupleKind (mixKind P w)).is h ks a:=by
 obtain ⟨_,its,r,o,h1,h2,n,h3⟩:=(show ObjOk P w H h a (.tup (ks.map kV)) from ok a _ e)
 exact ⟨o,its.toArray,n,h1,h2,h3,by simpa using items_are r⟩
theorem dt_rd {kvs:List (List Key×V)}(ok:HOk P w H h)(e:Rd H a (.dT kvs)):kvs.length<=sizeLine∧(a==sysModules)=false ∧
  ∃ xs,KT H kvs xs∧h.DictOfH (tupleKind (mixKind P w)) a xs:=by
 obtain ⟨z,y,xs,r,o,es,ep,h1,h2,h3,h4,h5⟩:=(show ObjOk P w H h a (.dT kvs) from rd_of ok e)
 refine ⟨z,y,xs,r,o,es,ep,h1,h2,h3,h4,fun x hx=>?_,h5⟩
 have all:∀ {l:List (List Key×V)} {m:List (List Key×Addr×Value)},KT H l m->∀ x∈m,(tupleKind (mixKind P w)).is h x.1 x.2.1:=by
  intro l m q
  induction q with
  | nil=>intro x hx;exact nomatch hx
  | @cons p q ps qs hq t ih =>
   intro x hx
   rcases List.mem_cons.mp hx with e | hx
   ·subst e
    exact key_of ok (by rw [<- hq.1];exact hq.2.1)
   ·exact ih x hx
 exact all r x hx
theorem dt_of {kvs:List (List Key×V)}(ok:HOk P w H h)(e:H a=some (.dT kvs)):kvs.length<=sizeLine∧(a==sysModules)=false ∧
 ∃ xs,KT H kvs xs∧h.DictOfH (tupleKind (mixKind P w)) a xs:=dt_rd ok (.inl e)
end
def DGet (H:Hp)(a:Addr)(y:V)(r:Option V):Prop :=
 (∃ kvs k,Rd H a (.dK kvs)∧y=kV k∧r=valV kvs k)∨∃ kvs k b,Rd H a (.dT kvs)∧y = .ref b∧H b=some (.tup (k.map kV))∧r=valV kvs k
def DPut (H:Hp)(a:Addr)(y v:V)(H':Hp):Prop :=
 (∃ kvs k,H a=some (.dK kvs)∧y=kV k∧kvs.length<sizeLine∧H'=upd H a (.dK (putK kvs k v))) ∨
 ∃ kvs k b,H a=some (.dT kvs)∧y = .ref b∧H b=some (.tup (k.map kV))∧kvs.length<sizeLine∧H'=upd H a (.dT (putK kvs k v))
theorem DGet.k {H:Hp}{a:Addr}{kvs:List (Key×V)}{k:Key}(e:H a=some (.dK kvs)):DGet H a (kV k) (valV kvs k):=.inl ⟨kvs,k,.inl e,rfl,rfl⟩
theorem DPut.k {H:Hp}{a:Addr}{kvs:List (Key×V)}{k:Key}{v:V}(e:H a=some (.dK kvs))(hl:kvs.length<sizeLine):DPut H a (kV k) v (upd H a (.dK (putK kvs k v))):=.inl ⟨kvs,k,e,rfl,hl,rfl⟩
section
variable {X:Cx}{pins:List (Addr×Obj)}{σ:St}{H:Hp}{s:Shared}{a:Addr}{y v:V}{u r:Value}{o:Option V}{A:Around}{E:Value->Shared->Prop}
theorem Inv.big (I:Inv X pins σ H s):sysModules<s.heap.objs.size:=by
 have h:mainGlobals<s.heap.objs.size:=(I.mod.glob.keeps I.bk).lt
 exact Nat.lt_trans (by decide) h
theorem d_getItem {Q:Value->Shared->Prop}(hu:A.units+1<cLine)(I:Inv X pins σ H s)(g:DGet H a y (some v))(ry:RelV y u)(h:∀ w' s',Inv X pins σ H s'->RelV v w'->Q w' s') :
  wpAny (model X.prog X.w) A (getItem (.ref a) u) Q E s:=by
 rcases g with ⟨kvs,k,e,ey,l⟩ | ⟨kvs,k,b,e,ey,eb,l⟩
 ·subst ey
  obtain ⟨z,hd,vs,rel,dd⟩:=dk_rd I.hok e
  obtain ⟨w',hw,rw'⟩:=RelO.some_of (v:=v) (o:=valueAt vs k) (by rw [l];exact rel.val k)
  exact wpAny_getItem_of (kV_is ry) dd.mapOf hw (h w' _ (I.tok _) rw')
 ·subst ey
  cases (show u=Value.ref b from ry)
  obtain ⟨z,hd,xs,rel,dd⟩:=dt_rd I.hok e
  obtain ⟨w',hw,rw'⟩:=RelO.some_of (v:=v) (o:=(atKey xs k).map (·.2)) (by rw [l];exact rel.val k)
  obtain ⟨p,hp,hp2⟩:=Option.map_eq_some_iff.mp hw
  refine wpAny_getItem_heap (tupleKind_room_in1 hu) (key_of I.hok eb) dd hp ?_
  rw [hp2]
  exact h w' _ (I.tok _) rw'
theorem d_in {Q:Value->Shared->Prop}(hu:A.units+1<cLine)(I:Inv X pins σ H s)(g:DGet H a y o)(ry:RelV y u)(h:∀ s',Inv X pins σ H s'->Q (.bool o.isSome) s') :
  wpAny (model X.prog X.w) A (compareOp .In u (.ref a)) Q E s:=by
 rcases g with ⟨kvs,k,e,ey,l⟩ | ⟨kvs,k,b,e,ey,eb,l⟩
 ·subst ey
  obtain ⟨z,hd,vs,rel,dd⟩:=dk_rd I.hok e
  refine wpAny_in_of (kV_is ry) hd dd.mapOf ?_
  rw [<- (rel.val k).isSome_eq,<- l]
  exact h _ (I.tok _)
 ·subst ey
  cases (show u=Value.ref b from ry)
  obtain ⟨z,hd,xs,rel,dd⟩:=dt_rd I.hok e
  refine wpAny_in_heap (tupleKind_room_in1 hu) (key_of I.hok eb) hd dd ?_
  have q:=(rel.val k).isSome_eq
  rw [Option.isSome_map] at q
  rw [<- q,<- l]
  exact h _ (I.tok _)
theorem d_notIn {Q:Value->Shared->Prop}(hu:A.units+1<cLine)(I:Inv X pins σ H s)(g:DGet H a y o)(ry:RelV y u)(h:∀ s',Inv X pins σ H s'->Q (.bool (!o.isSome)) s') :
  wpAny (model X.prog X.w) A (compareOp .NotIn u (.ref a)) Q E s:=by
 rcases g with ⟨kvs,k,e,ey,l⟩ | ⟨kvs,k,b,e,ey,eb,l⟩
 ·subst ey
  obtain ⟨z,hd,vs,rel,dd⟩:=dk_rd I.hok e
  refine wpAny_notIn_of (kV_is ry) hd dd.mapOf ?_
  rw [<- (rel.val k).isSome_eq,<- l]
  exact h _ (I.tok _)
 ·subst ey
  cases (show u=Value.ref b from ry)
  obtain ⟨z,hd,xs,rel,dd⟩:=dt_rd I.hok e
  refine wpAny_notIn_heap (tupleKind_room_in1 hu) (key_of I.hok eb) hd dd ?_
  have q:=(rel.val k).isSome_eq
  rw [Option.isSome_map] at q
  rw [<- q,<- l]
  exact h _ (I.tok _)
theorem d_write {h':Heap}{t':Nat}{ob:HO}(I:Inv X pins σ H s)(mu:Mut (H a))(hs:Heap.SameBut a s.heap h')(he:∃ q,h'.get? a=some q)(new:ObjOk X.prog X.w (upd H a ob) h' a ob) :
  Inv X pins σ (upd H a ob) { s with heap:=h',toks:=t' } :=
 I.write (x:=a) (e:=a) mu (.inl rfl) (fun b q hb z=>(hs.2 b hb).trans z) he new
theorem dk_new {P:Program}{w:World}{H':Hp}{h':Heap}{kvs:List (Key×V)}{vs:List (Key×Value)}(z:kvs.length<=sizeLine)(hd:(a==sysModules)=false)(rel:KV kvs vs)(dd:h'.DictOf (mixKind P w) a vs) :
 ObjOk P w H' h' a (.dK kvs):=⟨z,hd,vs,rel,dd⟩
theorem d_setItem {H':Hp}{Q:Unit->Shared->Prop}(hu:A.units+1<cLine)(I:Inv X pins σ H s)(g:DPut H a y v H')(ry:RelV y u)(rv:RelV v r)(h:∀ s',Inv X pins σ H' s'->Q () s') :
  wpAny (model X.prog X.w) A (setItem (.ref a) u r) Q E s:=by
 rcases g with ⟨kvs,k,e,ey,l,eH⟩ | ⟨kvs,k,b,e,ey,eb,l,eH⟩
 ·subst ey eH
  obtain ⟨z,hd,vs,rel,dd⟩:=dk_of I.hok e
  have hz:vs.length<=sizeLine:=by rw [<- rel.length];exact z
  have hl:(putK kvs k v).length<=sizeLine:=by have:=length_putK kvs k v;omega
  refine wpAny_setItem_pairs (hsz:=hz) (kV_is ry) dd fun h' dd' hs=>h _ ?_
  have he:∃ q,h'.get? a=some q:=let ⟨q,_,_,hq,_⟩:=dd';⟨q,hq⟩
  exact d_write I (by rw [e];exact True.intro) hs he (dk_new hl hd (rel.put k rv) dd')
 ·subst ey eH
  cases (show u=Value.ref b from ry)
  obtain ⟨z,hd,xs,rel,dd⟩:=dt_of I.hok e
  have hz:xs.length<=sizeLine:=by rw [<- Paired.length rel];exact z
  have hl:(putK kvs k v).length<=sizeLine:=by have:=length_putK kvs k v;omega
  refine wpAny_setItem_heap (hsz:=hz) (tupleKind_room_in1 hu) (key_of I.hok eb) dd fun h' dd' hs=>h _ ?_
  obtain ⟨q,es,ep,hq,h2,h3,h4,_,h5⟩:=dd'
  refine d_write I (by rw [e];exact True.intro) hs ⟨q,hq⟩ ⟨hl,hd,_,(rel.put k eb rv).keeps fun c ys ec=>?_,q,es,ep,hq,h2,h3,h4,h5⟩
  rw [upd_ne (ne_of ec e (fun z=>nomatch z))]
  exact ec
end
section
variable {X:Cx}{pins:List (Addr×Obj)}{σ:St}{H:Hp}{s:Shared}{a:Addr}{kvs:List (Key×V)}{k:Key}{u:Value}{A:Around}{E:Value->Shared->Prop}
theorem d_len {Q:Value->Shared->Prop}(I:Inv X pins σ H s)(e:Rd H a (.dK kvs))(h:∀ t s',Inv X pins σ H s'->Q (.int kvs.length t) s'):wpAny (model X.prog X.w) A (call (.builtin "len") [.ref a]) Q E s:=by
 obtain ⟨z,hd,vs,rel,dd⟩:=dk_rd I.hok e
 refine call_len_dict hd dd (by rw [<- rel.length];rw [sizeLine_eq] at z;omega) ?_
 rw [<- rel.length]
 exact h _ _ (I.tok _)
end
def NoSl (i:Expr):Prop:=∀ ov iv,subscripted i false ov iv=operate [ov,iv] (getItem ov iv)
theorem subD_of {prog:Program}{w:World}{A:Around}{E:Value->Shared->Prop}{s:Shared}{env:Env}{value slice:Expr}{pos:Pos}{T id:String}{Q:Value->Shared->Prop}
  (hl:typeLookup (.type T) "__getitem__" = pure (some (.builtin id))) (hs:NoSl slice)
  (h:wpAny (model prog w) A (eval value env) (fun o s₁=>wpAny (model prog w) A (eval slice env) (fun i s₂=>s₂.TypeIs o T∧wpAny (model prog w) A (getItem o i) Q E s₂) E s₁) E s) :
  wpAny (model prog w) A (eval (.Subscript value slice pos) env) Q E s:=by
 refine Subscript_ (wpAny_mono h (fun o s₁ h₁=>wpAny_mono h₁ (fun i s₂ h₂=>?_) fun _ _ x=>x) fun _ _ x=>x)
 obtain ⟨hT,h₂⟩:=h₂
 unfold subscriptTail
 refine wpAny_bind ?_
 rw [getitemInPython_of_ne hT.not_modules]
 refine wpAny_bind (wpAny_specialOf hT hl ?_)
 have fin:wpAny (model prog w) A (subscripted slice false o i) (fun r s₃=>wpAny (model prog w) A (letTemporaryGo value o r >>= fun _=>pure r) Q E s₃) E s₂:=by
  rw [hs o i]
  exact wpAny_operating (wpAny_mono h₂ (fun r s₃ h₃=>wpAny_bind (wpAny_letTemporaryGo (wpAny_pure h₃))) fun _ _ x=>x)
 first
  | exact wpAny_pure (wpAny_bind fin)
  | exact wpAny_bind (wpAny_pure (wpAny_bind fin))
  | exact wpAny_bind fin
theorem dict_typeIs {X:Cx}{pins:List (Addr×Obj)}{σ:St}{H:Hp}{s:Shared}{a:Addr}{y:V}{o:Option V}(I:Inv X pins σ H s)(g:DGet H a y o):s.TypeIs (.ref a) "dict" := by
 rcases g with ⟨kvs,k,e,_,_⟩ | ⟨kvs,k,b,e,_,_,_⟩
 ·obtain ⟨_,_,vs,_,dd⟩:=dk_rd I.hok e
  exact dd.typeIs
 ·obtain ⟨_,_,xs,_,dd⟩:=dt_rd I.hok e
  exact dd.typeIs
def tDGet (td ty:TE):TE:=fun σ H Q=>td σ H fun x H1=>ty σ H1 fun y H2=>∃ a v,x = .ref a∧DGet H2 a y (some v)∧Q v H2
def tDIn (ty td:TE):TE:=fun σ H Q=>ty σ H fun y H1=>td σ H1 fun x H2=>∃ a o,x = .ref a∧DGet H2 a y o∧Q (.bl o.isSome) H2
def tDNotIn (ty td:TE):TE:=fun σ H Q=>ty σ H fun y H1=>td σ H1 fun x H2=>∃ a o,x = .ref a∧DGet H2 a y o∧Q (.bl (!o.isSome)) H2
def sDPut (td ty tv:TE):TS:=fun D σ H=>tv σ H fun v H1=>td σ H1 fun x H2=>ty σ H2 fun y H3=>∃ a H4,x = .ref a∧DPut H3 a y v H4∧D.nx σ H4
section
variable {X:Cx}{o i e value:Expr}{pos pos' tpos:Pos}{td ty tv:TE}
theorem pe_dget (hu:X.A.units+1<cLine)(ho:PE X o td)(hi:PE X i ty)(hs:NoSl i):PE X (.Subscript o i pos) (tDGet td ty):=by
 intro pins s σ H Q I h
 refine subD_of PySem.F.slot_dict_getitem.lookup hs (thn (ho pins s σ H _ I h) fun u s1 ⟨x,H1,I1,rx,q1⟩=>thn (hi pins s1 σ H1 _ I1 q1) fun iv s2 ⟨y,H2,I2,ry,a,v,ex,g,q2⟩=>?_)
 subst ex
 obtain rfl:u=Value.ref a:=rx
 exact ⟨dict_typeIs I2 g,d_getItem hu I2 g ry fun w' s3 I3 rw'=>⟨v,H2,I3,rw',q2⟩⟩
theorem pc_din (hu:X.A.units+1<cLine)(hi:PE X i ty)(ho:PE X o td):PC X .In i o (tDIn ty td):=by
 intro pins s σ H Q I h
 refine thn (hi pins s σ H _ I h) fun iv s1 ⟨y,H1,I1,ry,q1⟩=>thn (ho pins s1 σ H1 _ I1 q1) fun u s2 ⟨x,H2,I2,rx,a,ov,ex,g,q2⟩=>?_
 subst ex
 obtain rfl:u=Value.ref a:=rx
 exact d_in hu I2 g ry fun s3 I3=>⟨.bl ov.isSome,H2,I3,rfl,q2⟩
theorem pc_dnotin (hu:X.A.units+1<cLine)(hi:PE X i ty)(ho:PE X o td):PC X .NotIn i o (tDNotIn ty td):=by
 intro pins s σ H Q I h
 refine thn (hi pins s σ H _ I h) fun iv s1 ⟨y,H1,I1,ry,q1⟩=>thn (ho pins s1 σ H1 _ I1 q1) fun u s2 ⟨x,H2,I2,rx,a,ov,ex,g,q2⟩=>?_
 subst ex
 obtain rfl:u=Value.ref a:=rx
 exact d_notIn hu I2 g ry fun s3 I3=>⟨.bl (!ov.isSome),H2,I3,rfl,q2⟩
theorem ps_dput (hu:X.A.units+1<cLine)(ho:PE X o td)(hi:PE X i ty)(hv:PE X value tv)(hs:swapsWith value (some (.Subscript o i pos')) pos.line X.env=pure false) :
  PS X (.Assign [.Subscript o i pos'] value pos) (sDPut td ty tv):=by
 intro pins s σ H D I h
 refine wpAny_Assign_Subscript (thn (hv pins s σ H _ I h) fun r s1 ⟨v,H1,I1,rv,q1⟩=>thn (ho pins s1 σ H1 _ I1 q1) fun u s2 ⟨x,H2,I2,rx,q2⟩=>thn (hi pins s2 σ H2 _ I2 q2) fun iv s3 ⟨y,H3,I3,ry,a,H4,ex,g,q3⟩=>?_) hs
 subst ex
 obtain rfl:u=Value.ref a:=rx
 exact d_setItem hu I3 g ry rv fun s4 I4=>⟨σ,H4,I4,q3⟩
end
theorem dk_empty {P:Program}{w:World}{H:Hp}(h:Heap)(hb:sysModules<h.objs.size):ObjOk P w H (h.push { cls:=.type "dict",data:=.dict #[] }) h.objs.size (.dK []) :=
 ⟨Nat.zero_le _,beq_eq_false_iff_ne.mpr (Ne.symm (Nat.ne_of_lt hb)),[],.nil,Heap.DictOf.new h⟩
def tDNewK:TE:=fun _ H Q=>∀ p,H p=none->Q (.ref p) (upd H p (.dK []))
section
variable {X:Cx}{pos:Pos}
theorem pe_dnewK:PE X (.Dict [] [] pos) tDNewK:=fun pins s σ H Q I h =>
 wpAny_Dict_empty ⟨.ref s.heap.objs.size,_,I.laid (a:=s.heap.objs.size) (o:=.dK []) (t':=s.toks) (fun _ _ q=>Heap.get?_push_of_some _ q) (Nat.le_refl _) (dk_empty s.heap I.big),rfl,h _ (I.hok.fresh (Nat.le_refl _))⟩
end
def tPairsD:List (TE×TE)->St->Hp->(List (V×V)->Hp->Prop)->Prop
 | [],_,H,Q=>Q [] H
 | (tk,tv)::r,σ,H,Q=>tk σ H fun x H1=>tv σ H1 fun y H2=>tPairsD r σ H2 fun ps H3=>Q ((x,y)::ps) H3
abbrev VV:List (V×V)->List (Value×Value)->Prop:=Paired fun p q=>RelV p.1 q.1∧RelV p.2 q.2
def PPs (X:Cx)(pos:Pos)(keys:List (Option Expr))(values:List Expr)(trs:List (TE×TE)):Prop :=
 ∀ (pins:List (Addr×Obj)) (s:Shared) (σ:St) (H:Hp) (Q:List (V×V)->Hp->Prop),Inv X pins σ H s->tPairsD trs σ H Q ->
  wpAny (model X.prog X.w) X.A (evalPairs (pairTrees keys values X.env pos)) (fun vs s'=>∃ ps H',Inv X pins σ H' s'∧VV ps vs∧Q ps H') X.xe s
theorem pps_nil {X:Cx}{pos:Pos}:PPs X pos [] [] []:=fun pins s σ H Q I h=>pairTrees_nil_walk ⟨[],H,I,.nil,h⟩
theorem pps_cons {X:Cx}{pos:Pos}{k v:Expr}{ks:List (Option Expr)}{vs:List Expr}{tk tv:TE}{trs:List (TE×TE)}(hk:PE X k tk)(hv:PE X v tv)(hr:PPs X pos ks vs trs) :
  PPs X pos (some k::ks) (v::vs) ((tk,tv)::trs):=fun pins s σ H Q I h =>
 pairTrees_cons_walk (thn (hk pins s σ H _ I h) fun u s1 ⟨x,H1,I1,rx,q1⟩=>thn (hv pins s1 σ H1 _ I1 q1) fun w2 s2 ⟨y,H2,I2,ry,q2⟩ =>
  thn (hr pins s2 σ H2 _ I2 q2) fun ws s3 ⟨ps,H3,I3,rel,q3⟩=>⟨(x,y)::ps,H3,I3,.cons ⟨rx,ry⟩ rel,q3⟩)
def mergeK (kvs more:List (Key×V)):List (Key×V):=more.foldl (fun acc kv=>putK acc kv.1 kv.2) kvs
theorem KV.merge:∀ {more:List (Key×V)} {rs:List (Key×Value)} {kvs:List (Key×V)} {vs:List (Key×Value)},KV more rs->KV kvs vs->KV (mergeK kvs more) (merged vs rs):=by
 intro more rs kvs vs r
 unfold KV at r
 induction r generalizing kvs vs with
 | nil=>intro q;exact q
 | @cons p q ps qs h t ih =>
  intro r0
  have e:KV (putK kvs p.1 p.2) (stored vs q.1 q.2):=by
   have:=r0.put p.1 h.2
   rw [<- h.1];exact this
  exact ih e
theorem length_mergeK:∀ (more kvs:List (Key×V)),(mergeK kvs more).length<=kvs.length+more.length
 | [],kvs=>by show kvs.length<=kvs.length+0;omega
 | p::r,kvs=>by
  have h1:=length_mergeK r (putK kvs p.1 p.2)
  have h2:=length_putK kvs p.1 p.2
  show (mergeK (putK kvs p.1 p.2) r).length<=_
  rw [List.length_cons];omega
theorem carries_of {P:Program}{w:World}:∀ {kvs:List (Key×V)} {ws:List (Value×Value)},VV (kvs.map fun kv=>(kV kv.1,kv.2)) ws->∃ rs,Carries (mixKind P w) ws rs∧KV kvs rs
 | [],_,r=>by rw [List.map_nil] at r;cases r;exact ⟨[],True.intro,.nil⟩
 | p::kvs,_,r=>by
  rw [List.map_cons] at r
  cases r with
  | @cons a b as bs h t =>
   obtain ⟨rs,c,q⟩:=carries_of (P:=P) (w:=w) t
   obtain ⟨b1,b2⟩:=b
   exact ⟨(p.1,b2)::rs,⟨kV_is h.1,rfl,c⟩,.cons ⟨rfl,h.2⟩ q⟩
def tDisp (trs:List (TE×TE)):TE:=fun σ H Q=>∀ p,H p=none->tPairsD trs σ (upd H p (.dK [])) fun ps H2=>H2 p=some (.dK [])∧∃ kvs:List (Key×V),ps=kvs.map (fun kv=>(kV kv.1,kv.2))∧kvs.length<=15∧Q (.ref p) (upd H2 p (.dK (mergeK [] kvs)))
theorem pe_disp {X:Cx}{pos:Pos}{keys:List (Option Expr)}{values:List Expr}{trs:List (TE×TE)}(h:PPs X pos keys values trs)(hall:keys.all (·.isSome)=true)(hl:keys.length=values.length)(h0:keys≠[])
  (h15:keys.length<=15):PE X (.Dict keys values pos) (tDisp trs):=by
 intro pins s σ H Q I q
 have hn:=I.hok.fresh (Nat.le_refl s.heap.objs.size)
 have I1:=I.laid (a:=s.heap.objs.size) (o:=.dK []) (h':=s.heap.push { cls:=.type "dict",data:=.dict #[] }) (t':=s.toks) (fun _ _ q=>Heap.get?_push_of_some _ q) (Nat.le_refl _) (dk_empty s.heap I.big)
 refine wpAny_Dict_walk (knd:=mixKind X.prog X.w) hall hl h0 h15 (thn (h pins _ σ _ _ I1 (q _ hn)) fun ws s2 ⟨ps,H2,I2,rel,e,kvs,ep,lk,q2⟩=>?_)
 subst ep
 obtain ⟨rs,c,rk⟩:=carries_of (P:=X.prog) (w:=X.w) rel
 obtain ⟨z,hd,vs0,r0,dd⟩:=dk_of I2.hok e
 cases r0
 refine ⟨rs,c,dd,fun h' dd' hs=>⟨.ref s.heap.objs.size,_,?_,rfl,q2⟩⟩
 have hz:(mergeK [] kvs).length<=sizeLine:=by
  have h1:=length_mergeK kvs []
  rw [List.length_nil] at h1
  rw [sizeLine_eq];omega
 have he:∃ q,h'.get? s.heap.objs.size=some q:=let ⟨q,_,_,hq,_⟩:=dd';⟨q,hq⟩
 exact d_write I2 (by rw [e];exact True.intro) hs he (dk_new hz hd (rk.merge .nil) dd')
set_option genInjectivity false in
structure M2 (X:Cx)(o:Expr)(m:Str)(apos:Pos)(e f:Expr)(cpos:Pos):Prop where
 base:attributeBase o m X.env (eval o X.env)=eval o X.env
 few:((backTo cpos (starEach [e,f] X.env)).all (fun x=>!x.1)&&(backToKw cpos (keywordEach [] X.env)).all (fun x=>x.1.isSome)
  && decide (([e,f]:List Expr).length+([]:List Keyword).length+(if ([]:List Keyword).isEmpty then 0 else 1)<30))=true
 line:(apos.endLine==cpos.line)=true
 trees:backTo cpos (starEach [e,f] X.env)=[(false,eval e X.env),(false,eval f X.env)]
def IsD (H:Hp)(a:Addr):Prop:=(∃ kvs,Rd H a (.dK kvs))∨∃ kvs,Rd H a (.dT kvs)
theorem isD_at {X:Cx}{pins:List (Addr×Obj)}{σ:St}{H:Hp}{s:Shared}{a:Addr}(I:Inv X pins σ H s)(d:IsD H a) :
  s.TypeIs (.ref a) "dict" ∧ (∀ b,Value.ref a = .ref b->∃ ob,s.heap.get? b=some ob∧ob.dict=none)∧(a==sysModules)=false:=by
 rcases d with ⟨kvs,e⟩ | ⟨kvs,e⟩
 ·obtain ⟨_,hd,vs,_,dd⟩:=dk_rd I.hok e
  refine ⟨dd.typeIs,fun b q=>?_,hd⟩
  cases q
  obtain ⟨ob,_,_,h1,h2,_⟩:=dd
  exact ⟨ob,h1,h2.2.1⟩
 ·obtain ⟨_,hd,xs,_,dd⟩:=dt_rd I.hok e
  refine ⟨dd.typeIs,fun b q=>?_,hd⟩
  cases q
  obtain ⟨ob,_,_,h1,h2,_⟩:=dd
  exact ⟨ob,h1,h2.2.1⟩
section
variable {X:Cx}{pins:List (Addr×Obj)}{σ:St}{H:Hp}{s:Shared}{a:Addr}{y d:V}{u r:Value}{o:Option V}{A:Around}{E:Value->Shared->Prop}
theorem d_get2 {Q:Value->Shared->Prop}(hu:A.units+1<cLine)(I:Inv X pins σ H s)(g:DGet H a y o)(ry:RelV y u)(rd:RelV d r)(h:∀ w' s',Inv X pins σ H s'->RelV (o.getD d) w'->Q w' s') :
  wpAny (model X.prog X.w) A (call (.builtin "dict.get") [.ref a,u,r]) Q E s:=by
 rcases g with ⟨kvs,k,e,ey,l⟩ | ⟨kvs,k,b,e,ey,eb,l⟩
 ·subst ey
  obtain ⟨z,hd,vs,rel,dd⟩:=dk_rd I.hok e
  refine call_meetsIn PySem.F.slot_dict_get dd.typeIs PySem.F.entry_dict_get (PySem.F.args_dict_get_3 _ _ _) (meets_dict_get_default (mixKind X.prog X.w) a (kV_is ry) hd r) ⟨_,dd.mapOf,h _ _ (I.tok _) ?_⟩
  rw [l]
  exact (rel.val k).getD rd
 ·subst ey
  cases (show u=Value.ref b from ry)
  obtain ⟨z,hd,xs,rel,dd⟩:=dt_rd I.hok e
  refine call_meetsIn PySem.F.slot_dict_get dd.typeIs PySem.F.entry_dict_get (PySem.F.args_dict_get_3 _ _ _) (meetsH_dict_get_default (tupleKind (mixKind X.prog X.w)) a b hd r) ⟨tupleKind_room_in1 hu,k,xs,key_of I.hok eb,dd,h _ _ (I.tok _) ?_⟩
  rw [l]
  exact (rel.val k).getD rd
end
def tDGet2 (td ty tx:TE):TE:=fun σ H Q=>td σ H fun x H1=>∃ a,x = .ref a∧IsD H1 a∧ty σ H1 fun y H2=>tx σ H2 fun z H3=>∃ o,DGet H3 a y o∧Q (o.getD z) H3
section
variable {X:Cx}{o e f:Expr}{apos cpos:Pos}{td ty tx:TE}
theorem pe_dget2 (hu:X.A.units+1<cLine)(ho:PE X o td)(he:PE X e ty)(hf:PE X f tx)(m:M2 X o "get" apos e f cpos):PE X (.Call (.Attribute o "get" apos) [e,f] [] cpos) (tDGet2 td ty tx):=by
 intro pins s σ H Q I h
 refine wpAny_Call_method m.base m.few m.line PySem.F.plainAttrs_dict PySem.F.slot_dict_get PySem.F.type_dict_get (thn (ho pins s σ H _ I h) fun u s1 ⟨x,H1,I1,rx,a,ex,d,q1⟩=>?_)
 subst ex
 obtain rfl:u=Value.ref a:=rx
 obtain ⟨t1,t2,_⟩:=isD_at I1 d
 refine ⟨t1,t2,?_⟩
 rw [m.trees]
 refine Calls.callWith_builtin rfl (Calls.evalArgs_plain (Calls.spliced_cons (thn (he pins s1 σ H1 _ I1 q1) fun iv s2 ⟨y,H2,I2,ry,q2⟩ =>
  Calls.spliced_cons (thn (hf pins s2 σ H2 _ I2 q2) fun fv s3 ⟨z,H3,I3,rz,ov,g,q3⟩=>Calls.spliced_nil ?_))))
 exact d_get2 hu I3 g ry rz fun w' s4 I4 rw'=>⟨_,H3,I4,rw',q3⟩
end
section
variable {X:Cx}{pins:List (Addr×Obj)}{σ:St}{H:Hp}{s:Shared}{a:Addr}{kvs:List (Key×V)}{A:Around}{E:Value->Shared->Prop}
end
section
variable {X:Cx}{pins:List (Addr×Obj)}{σ:St}{H:Hp}{s:Shared}{a:Addr}{y:V}{u:Value}{A:Around}{E:Value->Shared->Prop}
end
end L2
namespace Att
open PySem PySem.W PySem.Calls PyProof.Rows
section
variable {prog:Program}{w:World}{A:Around}{E:Value->Shared->Prop}{s:Shared}{K:Frag}
end
end Att
namespace L2
open PySem PySem.Spec PyProof.Rows
end L2
namespace L2
open PySem PySem.Spec PyProof.Rows
end L2
namespace L2
open PySem PySem.Spec PyProof.Rows
section
variable {P:Program}{w:World}{K:PySem.W.Frag}{mg:Str->Option Value}{base:Heap}
end
section
variable {X:Cx}
theorem call_lenD:CallR X (.builtin "len") (fun xs H Q=>∃ a kvs,xs=[V.ref a]∧H a=some (.dK kvs)∧Q (.int kvs.length) H):=by
 intro pins s σ H xs us Q I r h
 obtain ⟨a,kvs,rfl,ha,q⟩:=h
 obtain ⟨u,rfl,ru⟩:=vals1 r
 cases ru
 exact d_len I (.inl ha) fun t s' I'=>⟨.int kvs.length,H,I',⟨t,rfl⟩,q⟩
end
section
variable {κ:Type}[DecidableEq κ]
end
end L2
namespace L2
open PySem PySem.Spec PyProof.Rows
namespace RT
def obj (x:Str)(t:Tok)(i:Int):Obj:={ cls:=.type "reversed",data:=.fields #[.str x t,rawInt i] }
def Is (h:Heap)(a:Addr)(x:Str)(t:Tok)(i:Int):Prop:=∃ o,h.get? a=some o∧o.cls = .type "reversed" ∧ o.data = .fields #[.str x t,rawInt i]
section
variable {prog:Program}{w:World}{A:Around}{E:Value->Shared->Prop}{s:Shared}
end
section
variable {prog:Program}{w:World}{A:Around}{E:Value->Shared->Prop}{s:Shared}
end
end RT
section
variable {X:Cx}
end
end L2
namespace L2
open PySem PySem.Spec PyProof.Rows
section
variable {X:Cx}
end
end L2
namespace L2
open PySem PySem.Spec PyProof.Rows
set_option genInjectivity false in
structure Cam (P:Program)(w:World)(K:PySem.W.Frag)(mg:Str->Option Value)(base:Heap)(CX:CXT)(x:Str)(C:Addr)(k:Nat)(ps:List Str)(sp:Sp):Prop where
 ex:∃ (f:Addr) (fd:FuncData),FnOk P w K mg base CX k f fd ps sp∧Mk K C f∧mg x=some (.ref C)∧Binds K fd ps []
section
variable {X:Cx}
theorem pe_mak {CX:CXT}{x:Str}{C:Addr}{j k:Nat}{ps:List Str}{sp:Sp}{E:XK}{e:Expr}{es:List Expr}{t:TA}{p pos:Pos}(c:Cam X.prog X.w X.K X.mg X.base CX x C j ps sp)(hr:Room k X.A)(hx:Passes CX X E)(ha:PA X (e::es) t)
  (hjk:j+1<=k:=by decide) (hg:Gl X x:=by rfl) (b1:(x==("__debug__" : Str))=false:=by decide) (b2:starEach (e::es) X.env=(false,eval e X.env)::starEach es X.env:=by rfl) (b3:(backTo pos (starEach es X.env)).any (·.1)=false:=by rfl) :
  PE X (.Call (.Name x p) (e::es) [] pos) (tMake C sp [] E t):=by
 obtain ⟨f,fd,F,M,hm,hb⟩:=c.ex
 exact pe_make M F (hr.mono hjk) hg hm hb .nil hx ha b1 b2 b3
end
end L2
namespace L2
open PySem PySem.Spec PyProof.Rows
section
variable {X:Cx}
end
namespace SE
section
variable {prog:Program}{w:World}{A:Around}{E:Value->Shared->Prop}{s:Shared}
theorem call_ofTu {l:Addr}{its:Array Value}{ls:List (List Nat)}{Q:Value->Shared->Prop}(hh:A.handled=none)(hl:s.heap.IsTuple l its)(hv:∀ i v,its[i]?=some v->∃ t,v=Value.str (tx (ls.getD i [])) t)(hn:its.size+1<scanBound)
  (h:∀ (h':Heap) (tk:Nat),Has prog w h' s.heap.objs.size (nubTo ls its.size)->(∀ b o,s.heap.get? b=some o->h'.get? b=some o)->Q (.ref s.heap.objs.size) { s with heap:=h',toks:=tk }) :
  wpAny (model prog w) A (call (.type "set") [.ref l]) Q E s:=by
 obtain ⟨mc,mt,f0⟩:=F.called_set.mro
 have f1:=F.called_set.made;have f2:=F.called_set.sub;have f3:=F.called_set.notType;have f4:=F.called_set.canCreate;have f5:=F.typeCall_set_1 (.ref l)
 refine wpAny_call (codeAny_of_tree (show wpAny _ _ (callAny (.type "set") _) _ _ _ from wpAny_pure ⟨Code.quiet_builtin _ (by decide +kernel),codeAny_builtin F.entry_type_call ?_⟩))
 rw [Around.under_plain (weight_type_call_type "set" [.ref l] []) rfl]
 repeat (any_goals (first | wp_step | assumption))
 refine codeAny_mono (code_set_new_1 (.ref l) (E:=E) (Q₁:=fun ob s1=>∃ b:Bool,ob = .ref s.heap.objs.size∧s1 = { s with heap:=s.heap.push { cls:=.type "set",dict:=none,data:=.set #[] 0 (.fresh 0 0 b) } }) fun b=>⟨b,rfl,rfl⟩) fun r s1 hr=>?_
 cases r with
 | error e=>exact hr
 | ok fl =>
  cases fl with
  | ret ob =>
   obtain ⟨b,rfl,rfl⟩:=hr
   generalize hob:({ cls:=.type "set",dict:=none,data:=.set #[] 0 (.fresh 0 0 b) }:Obj)=ob
   have hD:(s.heap.push ob).get? s.heap.objs.size=some ob:=Heap.get?_push_size _ (by rw [<- hob];rfl)
   have hT:Shared.TypeIs { s with heap:=s.heap.push ob } (.ref s.heap.objs.size) "set" := ⟨_,hD,by rw [<- hob]⟩
   have f6:=F.called_set.init.lookup;have f7:=F.called_set.init.bind (.ref s.heap.objs.size)
   repeat (any_goals (first | wp_step | assumption))
   refine codeAny_mono (codeAny_call_builtin (R:=wants (fun r s2=>r = .none∧∃ h' tk,s2 = { s with heap:=h',toks:=tk }∧Has prog w h' s.heap.objs.size (nubTo ls its.size)∧∀ b o,s.heap.get? b=some o->h'.get? b=some o) E)
    F.called_set.init.plain F.entry_set_init (check_set_init_1 hT ?_)) fun r2 s2 hr2=>?_
   ·obtain ⟨⟨oc,od,odt,osl⟩,hol,hcl,nl,hdl⟩:=id hl
    simp only at hcl hdl
    subst hcl hdl
    have hol':(s.heap.push ob).get? l=some { cls:=.type "tuple",dict:=od,data:=.seq its nl,slots:=osl }:=Heap.get?_push_of_some _ hol
    have f8:=F.sub_tuple_set;have f9:=F.sub_tuple_frozenset
    have f10:(Value.type "tuple" == Value.type "dict")=false:=by decide
    have hl1:(s.heap.push ob).IsTuple l its:=⟨_,hol',rfl,nl,rfl⟩
    subst hob
    unfold Builtin.«set.__init__» noKeywords Builtin.Frozenset.updateFrom
    generalize hPI:pyIter=PI
    wp_walk
    subst hPI
    refine wpAny_pyIter_tuple hl1 ?_
    refine wpAny_bind (wpAny_runValue ?_)
    have hlt:l<s.heap.objs.size:=Heap.lt_size hol
    have hh3:A.in1.in1.in1.handled=none:=by simp [hh]
    have hsz:(s.heap.push { cls:=.type "set",dict:=none,data:=.set #[] 0 (.fresh 0 0 b) }).objs.size=s.heap.objs.size+1:=Heap.size_push _ _
    have hne:l≠(s.heap.push { cls:=.type "set",dict:=none,data:=.set #[] 0 (.fresh 0 0 b) }).objs.size:=by rw [hsz];exact Nat.ne_of_lt (Nat.lt_succ_of_lt hlt)
    have hfp:s.heap.objs.size∉[(s.heap.push { cls:=.type "set",dict:=none,data:=.set #[] 0 (.fresh 0 0 b) }).objs.size,l]:=by
     rw [hsz]
     intro z
     rcases List.mem_cons.mp z with e | e
     ·exact Nat.ne_of_lt (Nat.lt_succ_self _) e
     ·exact Nat.ne_of_gt hlt (List.mem_singleton.mp e)
    refine loop ((Walks.tuple hh3 _ l hne its).toS) (D:=s.heap.objs.size) hfp ls hv hn (its.size-0) 0 _ (by omega) (Nat.zero_le _) ⟨⟨_,Heap.get?_push_size _ rfl,rfl,rfl⟩,hl1.push _⟩ ?_ fun s3 mv x3=>?_
    ·have hg:((s.heap.push { cls:=.type "set",dict:=none,data:=.set #[] 0 (.fresh 0 0 b) }).push { cls:=.type "tuple_iterator",data:=.fields #[.ref l,.int 0 0] }).get? s.heap.objs.size=some { cls:=.type "set",dict:=none,data:=.set #[] 0 (.fresh 0 0 b) }:=Heap.get?_push_of_some _ hD
     exact PyProof.Rows.SetOf_congr ((PyProof.Rows.setObjOf_fresh (knd:=PySem.strKind prog w) b).setOf hg (by unfold scanBound;omega)) (fun _=>rfl) rfl
    ·obtain ⟨h3,g3,d3,tk3,os3⟩:=s3
     obtain rfl:g3=s.gens:=mv.gens
     obtain rfl:d3=s.drawn:=mv.drawn
     obtain rfl:os3=s.os:=mv.os
     refine wpAny_pure (show wpAny _ _ (ret Value.none) _ _ _ from wpAny_pure ⟨rfl,h3,tk3,rfl,x3,fun c o e=>?_⟩)
     have hc:=Heap.lt_size e
     exact mv.heap c o (show c∉[s.heap.objs.size,(s.heap.push { cls:=.type "set",dict:=none,data:=.set #[] 0 (.fresh 0 0 b) }).objs.size] by
      rw [hsz]
      intro z
      rcases List.mem_cons.mp z with e | e
      ·exact Nat.ne_of_lt hc e
      ·exact Nat.ne_of_lt (Nat.lt_succ_of_lt hc) (List.mem_singleton.mp e)) (Heap.get?_push_of_some _ (Heap.get?_push_of_some _ e))
   ·cases r2 with
    | error e=>exact hr2
    | ok fl2 =>
     cases fl2 with
     | ret r =>
      obtain ⟨rfl,h3,tk,rfl,x3,k3⟩:=hr2
      repeat (any_goals (first | wp_step | assumption))
      exact h _ _ x3 k3
     | _=>exact hr2.elim
  | _=>exact hr.elim
end
end SE
section
variable {X:Cx}
theorem call_setTu (hc:X.calm=true):CallR X (.type "set") (fun xs H Q=>∃ (p:Addr) (ls:List (List Nat)),xs=[.ref p]∧SqT X.K H p (ls.map T)∧ls.length+1<4096∧∀ D,H D=none->Q (.ref D) (upd H D (SetT X.prog X.w D (uniq ls)))):=by
 intro pins s σ H xs us Q I r h
 obtain ⟨p,ls,rfl,hq,hz,q⟩:=h
 obtain ⟨u,rfl,ru⟩:=vals1 r
 cases ru
 obtain ⟨its,rv,pl,_⟩:=I.tuple hq
 have hlen:=rv.length
 rw [List.length_map] at hlen
 refine SE.call_ofTu (I.ok.hd hc) pl (ls:=ls) (fun i v e=>str_at rv (by simpa using e)) (by rw [List.size_toArray];unfold scanBound;omega) fun h' tk x k=>?_
 have e:nubTo ls its.toArray.size=uniq ls:=by rw [List.size_toArray,<- hlen];rfl
 rw [e] at x
 have hf:H s.heap.objs.size=none:=I.hok.fresh (Nat.le_refl _)
 refine ⟨.ref s.heap.objs.size,_,I.laid (t':=tk) k (Nat.le_refl _) (o:=SetT X.prog X.w s.heap.objs.size (uniq ls)) ?_,rfl,q _ hf⟩
 refine ⟨x,?_,fun h1 h2 x1 kk=>x1.at kk⟩
 obtain ⟨o,_,_,_,ho,_⟩:=x
 exact ⟨o,ho⟩
end
end L2
namespace ST
open PySem PySem.SetTable
def it (M:Nat):Nat->Nat->Nat
 | 0,i=>i
 | s+1,i=>it M s ((i*5+1) % M)
theorem it_add (M:Nat):∀ s t i,it M (s+t) i=it M t (it M s i)
 | 0,t,i=>by rw [Nat.zero_add];rfl
 | s+1,t,i=>by rw [Nat.add_right_comm];exact it_add M s t _
def orbit (M:Nat):Nat->Nat->List Nat
 | 0,_=>[]
 | s+1,i=>i::orbit M s ((i*5+1) % M)
theorem orbit_it {M:Nat}:∀ {n i j:Nat},j∈orbit M n i->∃ s,s<n∧it M s i=j
 | n+1,i,j,h=>by
  rw [orbit,List.mem_cons] at h
  rcases h with h | h
  ·exact ⟨0,by omega,h.symm⟩
  ·obtain ⟨s,h1,h2⟩:=orbit_it h
   exact ⟨s+1,by omega,h2⟩
def full (M:Nat):Bool:=it M M 0==0&&(List.range M).all fun j=>(orbit M M 0).contains j
theorem full_hits {M:Nat}(h:full M=true){a j:Nat}(ha:a<M)(hj:j<M):∃ s,s<M∧it M s a=j:=by
 rw [full,Bool.and_eq_true,beq_iff_eq,List.all_eq_true] at h
 have hit:∀ x,x<M->∃ s,s<M∧it M s 0=x:=fun x hx=>orbit_it (by have:=h.2 x (List.mem_range.mpr hx);simpa using this)
 obtain ⟨s0,h0,e0⟩:=hit a ha
 obtain ⟨s1,h1,e1⟩:=hit j hj
 rcases Nat.lt_or_ge s1 s0 with z | z
 ·refine ⟨M-s0+s1,by omega,?_⟩
  have w:it M (M-s0) a=0:=by rw [<- e0,<- it_add,show s0+(M-s0)=M by omega,h.1]
  rw [it_add,w,e1]
 ·refine ⟨s1-s0,by omega,?_⟩
  rw [<- e0,<- it_add,show s0+(s1-s0)=s1 by omega,e1]
def Size (M:Nat):Prop:=M=8∨M=16∨M=32∨M=64∨M=128∨M=256∨M=512
theorem Size.full {M:Nat}(h:Size M):full M=true:=by
 rcases h with rfl | rfl | rfl | rfl | rfl | rfl | rfl <;> decide +kernel
theorem Size.pos {M:Nat}(h:Size M):8<=M:=by
 rcases h with rfl | rfl | rfl | rfl | rfl | rfl | rfl <;> decide
def lp (mask:Nat):Nat->Nat->Nat->Nat×Nat
 | 0,i,p=>(i,p)
 | s+1,i,p=>lp mask s (leap mask i p).1 (leap mask i p).2
theorem lp_add (mask:Nat):∀ s t i p,lp mask (s+t) i p=lp mask t (lp mask s i p).1 (lp mask s i p).2
 | 0,t,i,p=>by rw [Nat.zero_add];rfl
 | s+1,t,i,p=>by rw [Nat.add_right_comm];exact lp_add mask s t _ _
theorem lp_p (mask:Nat):∀ s i p,(lp mask s i p).2=p/32 ^ s
 | 0,i,p=>by rw [Nat.pow_zero,Nat.div_one];rfl
 | s+1,i,p=>by
  show (lp mask s _ (p/32)).2=_
  rw [lp_p mask s,Nat.div_div_eq_div_mul,Nat.pow_succ,Nat.mul_comm]
theorem lp_it (mask:Nat):∀ s i,(lp mask s i 0).1=it (mask+1) s i
 | 0,i=>rfl
 | s+1,i=>by
  show (lp mask s ((i*5+1+0/32) % (mask+1)) (0/32)).1=_
  rw [Nat.zero_div,Nat.add_zero]
  exact lp_it mask s _
theorem lp_lt (mask:Nat):∀ s i p,i<mask+1->(lp mask s i p).1<mask+1
 | 0,i,p,h=>h
 | s+1,i,p,h=>lp_lt mask s _ _ (Nat.mod_lt _ (Nat.succ_pos _))
theorem runEnd_ge (mask i:Nat):i<=runEnd mask i:=by
 unfold runEnd
 split <;> omega
theorem free_none {mask:Nat}{owner:Array (Option Nat)}:∀ {fuel i p:Nat},layClean.free mask owner fuel i p=none->∀ s,s<fuel->(owner.getD (lp mask s i p).1 (some 0)).isNone=false
 | fuel+1,i,p,h,s,hs=>by
  rw [layClean.free] at h
  split at h
  ·cases h
  ·rename_i hf
   cases s with
   | zero =>
    have:=List.find?_eq_none.mp hf 0 (List.mem_range.mpr (by have:=runEnd_ge mask i;omega))
    rw [Nat.add_zero] at this
    exact Bool.eq_false_iff.mpr this
   | succ s=>exact free_none h s (by omega)
theorem free_some {mask:Nat}{owner:Array (Option Nat)}:∀ {fuel i p j:Nat},layClean.free mask owner fuel i p=some j->(owner.getD j (some 0)).isNone=true
 | fuel+1,i,p,j,h=>by
  rw [layClean.free] at h
  split at h
  ·rename_i k hf
   cases h
   have:=List.find?_some hf
   exact this
  ·exact free_some h
theorem free_ok {mask:Nat}{owner:Array (Option Nat)}{i p j:Nat}(hM:Size (mask+1))(hi:i<mask+1)(hp:p<2 ^ 64)(hj:j<mask+1)(he:(owner.getD j (some 0)).isNone=true) :
  ∃ k,layClean.free mask owner (turns mask) i p=some k∧(owner.getD k (some 0)).isNone=true:=by
 cases hf:layClean.free mask owner (turns mask) i p with
 | some k=>exact ⟨k,rfl,free_some hf⟩
 | none =>
  exfalso
  have h13:(lp mask 13 i p).2=0:=by
   rw [lp_p]
   exact Nat.div_eq_of_lt (Nat.lt_trans hp (by decide))
  obtain ⟨s,hs,e⟩:=full_hits hM.full (lp_lt mask 13 i p hi) hj
  have z:=free_none hf (13+s) (by unfold turns;omega)
  rw [lp_add,h13,lp_it,e,he] at z
  cases z
theorem fm_congr {α β:Type}{f g:α->Option β}:∀ l:List α,(∀ i∈l,f i=g i)->l.filterMap f=l.filterMap g
 | [],_=>rfl
 | x::l,h=>by
  have ih:=fm_congr l fun i hi=>h i (List.mem_cons_of_mem _ hi)
  rw [List.filterMap_cons,List.filterMap_cons,h x (List.mem_cons_self ..),ih]
def vals (N:Nat)(f:Nat->Option Nat):List Nat:=(List.range N).filterMap f
theorem fm_upd {f g:Nat->Option Nat}{j v:Nat}(hf:f j=none)(hg:g j=some v)(he:∀ i,i≠j->g i=f i):∀ l:List Nat,l.Nodup->j∈l->(l.filterMap g).Perm (v::l.filterMap f)
 | x::l,nd,hm=>by
  rw [List.nodup_cons] at nd
  by_cases e:x=j
  ·subst e
   rw [List.filterMap_cons_some hg,List.filterMap_cons_none hf]
   have:l.filterMap g=l.filterMap f:=fm_congr l fun i hi=>he i fun z=>nd.1 (z▸hi)
   rw [this]
  ·have hm':j∈l:=by
    rcases List.mem_cons.mp hm with z | z
    ·exact absurd z.symm e
    ·exact z
   have ih:=fm_upd hf hg he l nd.2 hm'
   have hx:=he x e
   cases h:f x with
   | none=>rw [List.filterMap_cons_none (hx.trans h),List.filterMap_cons_none h];exact ih
   | some y =>
    rw [List.filterMap_cons_some (hx.trans h),List.filterMap_cons_some h]
    exact (ih.cons y).trans (List.Perm.swap ..)
theorem fm_full {f:Nat->Option Nat}:∀ l:List Nat,(∀ i∈l,(f i).isNone=false)->(l.filterMap f).length=l.length
 | [],_=>rfl
 | x::l,h=>by
  have hx:=h x (List.mem_cons_self ..)
  cases e:f x with
  | none=>rw [e] at hx;cases hx
  | some y=>rw [List.filterMap_cons_some e,List.length_cons,List.length_cons,fm_full l fun i hi=>h i (List.mem_cons_of_mem _ hi)]
def Good (mask:Nat)(owner:Array (Option Nat))(k:Nat):Prop:=owner.size=mask+1∧(vals (mask+1) fun j=>owner.getD j none).Perm (List.range k)
theorem getD_some {owner:Array (Option Nat)}{j:Nat}(h:j<owner.size):owner.getD j (some 0)=owner.getD j none:=by
 simp [Array.getD,h]
theorem layStep {mask:Nat}(hM:Size (mask+1)){owner:Array (Option Nat)}{k:Nat}(g:Good mask owner k)(hk:k<mask+1)(h:Int) :
  ∃ j,layClean.free mask owner (turns mask) (bits h % (mask+1)) (bits h)=some j∧Good mask (owner.setIfInBounds j (some k)) (k+1):=by
 obtain ⟨hs,hp⟩:=g
 obtain ⟨j0,hj0,he0⟩:∃ j,j<mask+1∧(owner.getD j (some 0)).isNone=true:=by
  apply Classical.byContradiction
  intro hno
  have:=fm_full (f:=fun j=>owner.getD j none) (List.range (mask+1)) fun i hi=>by
   have hi':=List.mem_range.mp hi
   have e:=getD_some (owner:=owner) (j:=i) (by omega)
   cases z:(owner.getD i none).isNone with
   | false=>rfl
   | true=>exact absurd ⟨i,hi',by rw [e];exact z⟩ hno
  rw [List.length_range] at this
  have h2:=hp.length_eq
  rw [List.length_range] at h2
  unfold vals at h2
  omega
 obtain ⟨j,e1,e2⟩:=free_ok hM (i:=bits h % (mask+1)) (p:=bits h) (Nat.mod_lt _ (Nat.succ_pos _)) (by unfold bits;omega) hj0 he0
 have hj:j<owner.size:=by
  rcases Nat.lt_or_ge j owner.size with z | z
  ·exact z
  ·rw [Array.getD,dif_neg (by omega)] at e2
   cases e2
 refine ⟨j,e1,by rw [Array.size_setIfInBounds];exact hs,?_⟩
 have hf:(fun i=>owner.getD i none) j=none:=by
  show owner.getD j none=none
  rw [getD_some hj] at e2
  cases z:owner.getD j none with
  | none=>rfl
  | some y=>rw [z] at e2;cases e2
 have hg:(fun i=>(owner.setIfInBounds j (some k)).getD i none) j=some k:=by
  show (owner.setIfInBounds j (some k)).getD j none=some k
  simp [Array.getD,hj]
 have q:=fm_upd hf hg (fun i hi=>by
  show (owner.setIfInBounds j (some k)).getD i none=owner.getD i none
  rw [Array.getD_eq_getD_getElem?,Array.getD_eq_getD_getElem?,Array.getElem?_setIfInBounds_ne (Ne.symm hi)]) (List.range (mask+1)) List.nodup_range (List.mem_range.mpr (by omega))
 refine q.trans ?_
 rw [show List.range (k+1)=List.range k++[k] from List.range_succ]
 exact (hp.cons k).trans (List.perm_append_singleton ..).symm
theorem layAll {mask:Nat}(hM:Size (mask+1)):∀ (hs:List Int) (owner:Array (Option Nat)) (k:Nat),Good mask owner k->k+hs.length<=mask+1 ->
  ∃ o',(hs.foldl (fun acc h=>do
   let (owner,k) <- acc
   let j <- layClean.free mask owner (turns mask) (bits h % (mask+1)) (bits h)
   pure (owner.setIfInBounds j (some k),k+1)) (some (owner,k)))=some (o',k+hs.length)∧Good mask o' (k+hs.length)
 | [],owner,k,g,_=>⟨owner,rfl,g⟩
 | h::hs,owner,k,g,hk=>by
  rw [List.length_cons] at hk
  obtain ⟨j,e,g'⟩:=layStep hM g (by omega) h
  obtain ⟨o',e',g''⟩:=layAll hM hs _ _ g' (by omega)
  refine ⟨o',?_,by rw [List.length_cons,show k+(hs.length+1)=k+1+hs.length by omega];exact g''⟩
  rw [List.foldl_cons,List.length_cons,show k+(hs.length+1)=k+1+hs.length by omega,<- e']
  congr 1
  show (layClean.free mask owner (turns mask) (bits h % (mask+1)) (bits h)).bind _=_
  rw [e]
  rfl
theorem good_nil (mask:Nat):Good mask (Array.replicate (mask+1) none) 0:=by
 refine ⟨Array.size_replicate,?_⟩
 have:vals (mask+1) (fun j=>(Array.replicate (mask+1) (none:Option Nat)).getD j none)=[]:=by
  unfold vals
  refine List.filterMap_eq_nil_iff.mpr fun i _=>?_
  rw [Array.getD_eq_getD_getElem?,Array.getElem?_replicate]
  split <;> rfl
 rw [this]
 exact List.Perm.refl _
theorem laid_ok {mask finger moves:Nat}{led plain:Bool}{hashes:Array Int}(hM:Size (mask+1))(hn:hashes.size<=mask) :
  ∃ (t:SetTable) (order:Array Nat),laid mask finger moves led plain hashes=some (t,order)∧order.toList.Perm (List.range hashes.size)∧t.place.size=hashes.size∧t.mask=mask∧t.dummies = #[]∧t.led=led∧t.plain=plain:=by
 obtain ⟨o,e,g⟩:=layAll hM hashes.toList _ 0 (good_nil mask) (by rw [Array.length_toList];omega)
 have hc:layClean mask hashes=some o:=by
  unfold layClean
  rw [<- Array.foldl_toList]
  refine (congrArg (Option.map (·.1)) e).trans ?_
  rfl
 have em:((List.range (mask+1)).filterMap fun j=>(o.getD j none).map (j,·)).map (·.2)=vals (mask+1) fun j=>o.getD j none:=by
  rw [List.map_filterMap]
  unfold vals
  refine fm_congr _ fun i _=>?_
  cases o.getD i none <;> rfl
 have gp:(vals (mask+1) fun j=>o.getD j none).Perm (List.range hashes.size):=by
  have:=g.2
  rw [Nat.zero_add,Array.length_toList] at this
  exact this
 refine ⟨_,_,by unfold laid;rw [hc];rfl,by rw [em];exact gp,?_,rfl,rfl,rfl,rfl⟩
 show (((List.range (mask+1)).filterMap fun j=>(o.getD j none).map (j,·)).map (·.1)).toArray.size=_
 have hl:=congrArg List.length em
 rw [List.length_map] at hl
 rw [List.size_toArray,List.length_map,hl,gp.length_eq,List.length_range]
end ST
namespace SS
open PySem PyProof.Rows
def byT (w:World):Bool:=w.params.followText "set-order"
def keyV:Value->Str
 | .str x _=>x
 | _=>Str.empty
def El (w:World)(e:Int×Value):Prop:=e.1=hashStr w (keyV e.2)∧∃ t,e.2 = .str (keyV e.2) t
def Els (w:World)(es:List (Int×Value))(ms:List Str):Prop:=(∀ e∈es,El w e)∧(es.map fun e=>keyV e.2).Perm ms
theorem Els.perm {w:World}{es es':List (Int×Value)}{ms:List Str}(h:Els w es ms)(p:es'.Perm es):Els w es' ms:=⟨fun e he=>h.1 e (p.mem_iff.mp he),(p.map _).trans h.2⟩
theorem Els.of {w:World}{prog:Program}{es:List (Int×Value)}{ms:List Str}(h:Els w es ms):ElemsOf (PySem.strKind prog w) es:=fun e he=>by
 obtain ⟨h1,t,h2⟩:=h.1 e he
 refine ⟨⟨keyV e.2,?_,h1⟩,?_⟩
 ·rw [h2]
  exact strKind_is prog w _ t
 ·rw [h2]
  rfl
theorem Els.len {w:World}{es:List (Int×Value)}{ms:List Str}(h:Els w es ms):es.length=ms.length:=by
 have:=h.2.length_eq
 rwa [List.length_map] at this
theorem Els.has {w:World}{prog:Program}{es:List (Int×Value)}{ms:List Str}(h:Els w es ms)(k:Str):k∈ms↔∃ e∈es,(PySem.strKind prog w).is k e.2=true:=by
 rw [<- h.2.mem_iff,List.mem_map]
 constructor
 ·rintro ⟨e,he,rfl⟩
  obtain ⟨_,t,h2⟩:=h.1 e he
  refine ⟨e,he,?_⟩
  conv=>lhs;arg 3;rw [h2]
  exact strKind_is prog w _ t
 ·rintro ⟨e,he,hk⟩
  obtain ⟨t,ht⟩:=Value.isStrOf_shape hk
  exact ⟨e,he,by rw [ht];rfl⟩
def Is (w:World)(h:Heap)(a:Addr)(ms:List Str):Prop :=
 ∃ o es ep t,h.get? a=some o∧o.ExactSet∧o.data = .set es ep t∧Els w es.toList ms∧ms.Nodup∧es.size<scanBound∧t.fits es.size=true∧(byT w=true∨t.led=true)∧(es.size=0∨t.plain=false)
theorem Is.at {w:World}{h h':Heap}{a:Addr}{ms:List Str}(x:Is w h a ms)(e:∀ o,h.get? a=some o->h'.get? a=some o):Is w h' a ms:=let ⟨o,es,ep,t,ho,r⟩:=x;⟨o,es,ep,t,e o ho,r⟩
theorem Is.there {w:World}{h:Heap}{a:Addr}{ms:List Str}(x:Is w h a ms):∃ o,h.get? a=some o:=let ⟨o,_,_,_,ho,_⟩:=x;⟨o,ho⟩
theorem layNew_led (t:SetTable)(es:Array (Int×Value))(h:Int)(x:Value):(layNew t es h x).2.1.led=t.led:=by
 unfold layNew
 split
 ·rename_i slot wd _
  show ((t.put slot).1.orStandIn _).led=t.led
  unfold SetTable.orStandIn
  split <;> rfl
 ·rfl
theorem laid_marks {mask finger moves:Nat}{led plain:Bool}{hs:Array Int}{t:SetTable}{o:Array Nat}(h:SetTable.laid mask finger moves led plain hs=some (t,o)):t.led=led∧t.plain=plain:=by
 unfold SetTable.laid at h
 cases hc:SetTable.layClean mask hs with
 | none=>rw [hc] at h;cases h
 | some ow =>
  rw [hc] at h
  have h':=Option.some.inj h
  rw [<- (Prod.mk.inj h').1]
  exact ⟨rfl,rfl⟩
theorem relayAll_marks (t:SetTable)(es:Array (Int×Value))(n:Nat)(hp:t.plain=false):(relayAll t es n).2.1.led=t.led∧(relayAll t es n).2.1.plain=false:=by
 unfold relayAll
 split
 ·rename_i t' order e
  obtain ⟨h1,h2⟩:=laid_marks e
  dsimp only
  split
  ·exact ⟨h1,h2.trans hp⟩
  ·exact ⟨rfl,rfl⟩
 ·exact ⟨rfl,rfl⟩
section
variable {prog:Program}{w:World}{A:Around}{E:Value->Shared->Prop}{s:Shared}
theorem Is.store (prog:Program){a:Addr}{o:Obj}{es es':Array (Int×Value)}{ep:Nat}{t t':SetTable}{h:Heap}{ms:List Str}(ho:h.get? a=some o)(hex:o.ExactSet)(hd:o.data = .set es ep t)(hel:Els w es'.toList ms)(hnd:ms.Nodup)(hb:es'.size<scanBound)(hf:t'.fits es'.size=true)
  (hl:byT w=true∨t'.led=true) (hp:es'.size=0∨t'.plain=false):(h.update a (Obj.putSet es' t')).get? a=some { o with data:=.set es' (ep+1) t' }∧Is w (h.update a (Obj.putSet es' t')) a ms:=by
 have hg:=(SetOf_store (knd:=PySem.strKind prog w) (S':=fun k=>decide (k∈ms)) ho hex hd hel.of (fun k=>by rw [decide_eq_true_iff];exact hel.has k) hb hf).1
 exact ⟨hg,_,es',ep+1,t',hg,hex,rfl,hel,hnd,hb,hf,hl,hp⟩
theorem add_ok {a : Addr} {ms : List Str} {k : Str} {tk : Tok} {Q : Bool → Shared → Prop} (hS : Is w s.heap a ms) (hroom : ms.length + 1 < scanBound)
    (h : ∀ h' ms', Heap.SameBut a s.heap h' → Is w h' a ms' → (∀ x, x ∈ ms' ↔ x ∈ ms ∨ x = k) → ms'.length ≤ ms.length + 1 → Q (!decide (k ∈ ms)) { s with heap := h' }) :
    wpAny (model prog w) A (setAddHashed a (.str k tk) (hashStr w k)) Q E s := by
  obtain ⟨o, es, ep, t, ho, hex, hd, hel, hnd, hb, hf, hl, hp⟩ := hS
  have hn : es.size = ms.length := by rw [← hel.len, Array.length_toList]
  have hkey : (PySem.strKind prog w).is k (.str k tk) = true := strKind_is prog w k tk
  unfold setAddHashed setAddHashedIn
  refine wpAny_holding (wpAny_bind (wpAny_setState_of ho hd hf ?_))
  dsimp only
  rw [byScan_of (knd := PySem.strKind prog w) (x := .str k tk) rfl hb hel.of]
  simp only [↓reduceIte]
  unfold setAddByScan
  refine wpAny_bind (wpAny_bind (wpAny_rule (wpAny_bind (wpAny_setScan_of (knd := PySem.strKind prog w) hkey ho hd hf hel.of ?_))))
  cases hr : List.findIdx? (fun e => (PySem.strKind prog w).is k e.2) es.toList with
  | some j =>
    dsimp only
    obtain ⟨hj, hpj, _⟩ := List.findIdx?_eq_some_iff_getElem.mp hr
    have hm : k ∈ ms := (hel.has (prog := prog) k).mpr ⟨es.toList[j], List.getElem_mem hj, hpj⟩
    refine wpAny_pure (wpAny_pure ?_)
    have z := h s.heap ms (Heap.SameBut.refl a s.heap) ⟨o, es, ep, t, ho, hex, hd, hel, hnd, hb, hf, hl, hp⟩ (fun x => ⟨.inl, fun q => q.elim id fun e => e ▸ hm⟩) (by omega)
    rw [decide_eq_true hm] at z
    exact z
  | none =>
    dsimp only
    have hm : ¬ k ∈ ms := fun z => by
      obtain ⟨e, he, q⟩ := (hel.has (prog := prog) k).mp z
      have := List.findIdx?_eq_none_iff.mp hr e he
      rw [q] at this
      cases this
    have gw : ∀ (b : Bool) {s₁ : Shared} {Q' : Unit → Shared → Prop}, Q' () s₁ → wpAny (model prog w) A (match b with | true => rule "set.scan.the-table-gave-way" | false => pure ()) Q' E s₁ := fun b s₁ Q' hq => by
      cases b
      · exact wpAny_pure hq
      · exact wpAny_rule hq
    have hperm := layNew_perm t es (hashStr w k) (.str k tk)
    have hfits := layNew_fits t es (hashStr w k) (.str k tk)
    have hled := layNew_led t es (hashStr w k) (.str k tk)
    generalize hL : layNew t es (hashStr w k) (.str k tk) = L at hperm hfits hled ⊢
    obtain ⟨es1, t1, wasDummy, gave⟩ := L
    dsimp only at hperm hfits hled ⊢
    rw [Array.toList_push] at hperm
    have hel1 : Els w es1.toList (ms ++ [k]) := by
      refine Els.perm ⟨fun e he => ?_, ?_⟩ hperm
      · rcases List.mem_append.mp he with z | z
        · exact hel.1 e z
        · have e' : e = (hashStr w k, .str k tk) := by simpa using z
          rw [e']
          exact ⟨rfl, tk, rfl⟩
      · rw [List.map_append]
        exact hel.2.append_right _
    have hnd1 : (ms ++ [k]).Nodup := List.nodup_append.mpr ⟨hnd, by simp, fun x hx y hy e => hm (by have : y = k := (by simpa using hy); rw [← this, ← e]; exact hx)⟩
    have hsz1 : es1.size = ms.length + 1 := by rw [← Array.length_toList, hel1.len, List.length_append, List.length_singleton]
    have hb1 : es1.size < scanBound := by omega
    have fin : ∀ h', Heap.SameBut a s.heap h' → Is w h' a (ms ++ [k]) → Q true { s with heap := h' } := fun h' sb x => by
      have z := h h' (ms ++ [k]) sb x (fun y => by rw [List.mem_append, List.mem_singleton]) (by rw [List.length_append, List.length_singleton]; omega)
      rw [decide_eq_false hm] at z
      exact z
    have tail : ∀ t2 : SetTable, t2.fits es1.size = true → (byT w = true ∨ t2.led = true) → t2.plain = false → wpAny (model prog w) A (do
        storeSet a es1 t2
        if (!wasDummy && t2.tooFull) = true then do
            (match (relayAll t2 es1 (SetTable.grown es1.size)).2.2 with | true => rule "set.scan.the-table-gave-way" | false => pure ())
            storeSet a (relayAll t2 es1 (SetTable.grown es1.size)).1 (relayAll t2 es1 (SetTable.grown es1.size)).2.1
            pure (some true)
          else pure (some true)) (fun r s' => wpAny (model prog w) A (match r with | some added => pure added | none => setAddHashedIn a (.str k tk) (hashStr w k) 99999) Q E s') E s := fun t2 hf2 hl2 hp2 => by
      refine wpAny_bind (wpAny_storeSet_of ho hd ?_ (fits_of_scanBound hb1))
      obtain ⟨ho1, hS1⟩ := Is.store prog ho hex hd hel1 hnd1 hb1 hf2 hl2 (.inr hp2)
      have sb1 := Heap.SameBut.update s.heap a (Obj.putSet es1 t2)
      split
      · have q1 := relayAll_perm t2 es1 (SetTable.grown es1.size)
        have q2 := relayAll_fits t2 es1 (SetTable.grown es1.size)
        have q3 := relayAll_marks t2 es1 (SetTable.grown es1.size) hp2
        generalize relayAll t2 es1 (SetTable.grown es1.size) = Rl at q1 q2 q3 ⊢
        obtain ⟨es2, t3, g2⟩ := Rl
        dsimp only at q1 q2 q3 ⊢
        have hel2 := hel1.perm q1
        have hsz : es2.size = es1.size := by rw [← Array.length_toList, q1.length_eq, Array.length_toList]
        have hb2 : es2.size < scanBound := by omega
        refine wpAny_bind (gw _ (wpAny_bind (wpAny_storeSet_of ho1 rfl ?_ (fits_of_scanBound hb2))))
        obtain ⟨_, hS2⟩ := Is.store prog ho1 hex rfl hel2 hnd1 hb2 q2 (hl2.imp id fun z => q3.1.trans z) (.inr q3.2)
        exact wpAny_pure (wpAny_pure (fin _ (sb1.trans (Heap.SameBut.update _ a _)) hS2))
      · exact wpAny_pure (wpAny_pure (fin _ sb1 hS1))
    refine wpAny_bind (gw _ ?_)
    have hl1 : byT w = true ∨ t1.led = true := hl.imp id fun z => hled.trans z
    split
    · refine wpAny_bind (wpAny_pure ?_)
      simp only [Bool.false_eq_true, ↓reduceIte]
      exact tail { t1 with plain := false } (SetTable.fits_plain_off hfits) hl1 rfl
    · rename_i hpl
      refine wpAny_bind (wpAny_pure ?_)
      simp only [↓reduceIte]
      exact tail t1 hfits hl1 (Bool.eq_false_iff.mpr hpl)
end
end SS
namespace SS
open PySem PyProof.Rows
theorem above_ok:∀ n,n<=256->ST.Size (SetTable.sizeAbove n)∧n<SetTable.sizeAbove n:=by
 have key:∀ n,n<257->(SetTable.sizeAbove n=8∨SetTable.sizeAbove n=16∨SetTable.sizeAbove n=32∨SetTable.sizeAbove n=64∨SetTable.sizeAbove n=128∨SetTable.sizeAbove n=256∨SetTable.sizeAbove n=512)∧n<SetTable.sizeAbove n:=by decide +kernel
 exact fun n h=>key n (by omega)
theorem reorder_perm {es:Array (Int×Value)}{order:Array Nat}(h:order.toList.Perm (List.range es.size)):(order.filterMap (es[·]?)).toList.Perm es.toList:=by
 rw [Array.toList_filterMap]
 exact (h.filterMap _).trans (by rw [filterMap_getElem?_range])
theorem erase_perm {α:Type}:∀ (l:List α) (i:Nat) (h:i<l.length),(l[i]::l.eraseIdx i).Perm l
 | x::l,0,_=>List.Perm.refl _
 | x::l,i+1,h=>by
  have h':i<l.length:=by simpa using h
  have ih:=erase_perm l i h'
  exact (List.Perm.swap x (l[i]'h') (l.eraseIdx i)).trans (ih.cons x)
theorem pick_perm {α:Type}(next:Nat->Nat)(xs:Array α):(pickOrder next xs).toList.Perm xs.toList:=by
 have key:∀ (fuel k:Nat) (left:List α) (out:Array α),left.length=fuel->(pickOrder.go next fuel k left out).toList.Perm (out.toList++left):=by
  intro fuel
  induction fuel with
  | zero =>
   intro k left out hl
   obtain rfl:=List.length_eq_zero_iff.mp hl
   rw [pickOrder.go,List.append_nil]
  | succ fuel ih =>
   intro k left out hl
   have hlt:next k % left.length<left.length:=Nat.mod_lt _ (by omega)
   rw [pickOrder.go,List.getElem?_eq_getElem hlt]
   dsimp only
   refine (ih _ _ _ (by rw [List.length_eraseIdx_of_lt hlt];omega)).trans ?_
   rw [Array.toList_push,List.append_assoc]
   refine List.Perm.append_left _ ?_
   exact erase_perm left _ hlt
 have z:=key xs.size 0 xs.toList #[] (Array.length_toList)
 simpa [pickOrder] using z
section
variable {prog:Program}{w:World}{A:Around}{E:Value->Shared->Prop}{s:Shared}
theorem byText_ok {Q:Bool->Shared->Prop}(h:Q (byT w) s):wpAny (model prog w) A setsByText Q E s:=by
 unfold setsByText
 exact wpAny_bind (wpAny_askSetting (wpAny_pure h))
theorem relay_ok {a:Addr}{ms:List Str}{n:Nat}{Q:Unit->Shared->Prop}{o:Obj}{es:Array (Int×Value)}{ep:Nat}{t:SetTable}(ho:s.heap.get? a=some o)(hd:o.data = .set es ep t)(hf:t.fits es.size=true)(hn:n<=256)(hm:es.size<=n)
  (h:∀ (es':Array (Int×Value)) (t':SetTable),es'.toList.Perm es.toList->t'.place.size=es.size->t'.mask+1=SetTable.sizeAbove n->t'.dummies = #[]->t'.led=t.led->t'.plain=t.plain->Q () { s with heap:=s.heap.update a (Obj.putSet es' t') }) :
  wpAny (model prog w) A (setRelay a n) Q E s:=by
 obtain ⟨hM,hlt⟩:=above_ok n hn
 have h8:=hM.pos
 unfold setRelay
 refine wpAny_bind (wpAny_setState_of ho hd hf ?_)
 dsimp only
 have hs:sizeLine=16777216:=sizeLine_eq
 have hsl:¬ SetTable.sizeAbove n>sizeLine:=by
  rcases hM with e | e | e | e | e | e | e <;> omega
 rw [if_neg hsl]
 obtain ⟨t',order,e1,e2,e3,e4,e5,e6,e7⟩:=ST.laid_ok (mask:=SetTable.sizeAbove n-1) (finger:=t.finger) (moves:=t.movedTo (SetTable.sizeAbove n-1)) (led:=t.led) (plain:=t.plain) (hashes:=es.map (·.1)) (by rw [Nat.sub_add_cancel (by omega)];exact hM) (by rw [Array.size_map];omega)
 have e1':t.relaid (es.map (·.1)) n=some (t',order):=e1
 rw [e1']
 rw [Array.size_map] at e2 e3
 have hp:=reorder_perm e2
 have hsz:(order.filterMap (es[·]?)).size=es.size:=by rw [<- Array.length_toList,hp.length_eq,Array.length_toList]
 refine wpAny_bind (m:=(do
  if ((order.filterMap (es[·]?)).size != es.size)=true then unsupported "internal:set-table-lost-an-element"
  pure (order.filterMap (es[·]?),t'))) ?_
 rw [hsz,bne_self_eq_false,if_neg Bool.false_ne_true]
 refine wpAny_pure ?_
 exact wpAny_storeSet_of ho hd (h _ _ hp e3 (by rw [e4];omega) e5 e6 e7) (by rw [hsz];omega)
theorem quiet_ok {a b:Addr}{ms ms':List Str}{Q:Bool->Shared->Prop}(h1:Is w s.heap a ms)(h2:Is w s.heap b ms')(h:Q true s):wpAny (model prog w) A (setsQuiet [a,b]) Q E s:=by
 unfold setsQuiet
 refine wpAny_bind ?_
 refine wpAny_forIn_list _ (fun rest r s'=>r=(none,())∧s'=s∧∀ c∈rest,∃ ks,Is w s.heap c ks) _ ?_ ?_ _ _ ⟨rfl,rfl,fun c hc=>?_⟩
 ·rintro c rest r s' ⟨rfl,rfl,hall⟩
  obtain ⟨ks,hc⟩:=hall c (List.mem_cons_self ..)
  obtain ⟨o,es,ep,t,ho,hex,hd,hel,hnd,hb,hf,_⟩:=hc
  refine wpAny_bind (wpAny_setEntries_of ho hd hf (wpAny_bind ?_))
  rw [<- Array.forIn_toList]
  refine wpAny_forIn_list _ (fun rest r s2=>r=(none,())∧s2=s'∧∀ e∈rest,El w e) _ ?_ ?_ _ _ ⟨rfl,rfl,hel.1⟩
  ·rintro ⟨hh,x⟩ rest2 r s2 ⟨rfl,rfl,hall2⟩
   obtain ⟨_,tk,e⟩:=hall2 _ (List.mem_cons_self ..)
   dsimp only at e ⊢
   rw [e]
   exact wpAny_pure ⟨rfl,rfl,fun u hu=>hall2 u (List.mem_cons_of_mem _ hu)⟩
  ·rintro r s2 ⟨rfl,rfl,_⟩
   exact wpAny_pure ⟨rfl,rfl,fun u hu=>hall u (List.mem_cons_of_mem _ hu)⟩
 ·rintro r s' ⟨rfl,rfl,_⟩
  exact wpAny_pure h
 ·rcases List.mem_cons.mp hc with rfl | hc
  ·exact ⟨ms,h1⟩
  ·rcases List.mem_cons.mp hc with rfl | hc
   ·exact ⟨ms',h2⟩
   ·cases hc
theorem walkU {a b:Addr}{ms1 ms2:List Str}{Q:Array (Int×Value)->Shared->Prop}(h1:Is w s.heap a ms1)(hne:ms1≠[])(h2:Is w s.heap b ms2)(h:∀ es:Array (Int×Value),Els w es.toList ms2->Q es s) :
  wpAny (model prog w) A (setWalkUnseen b [a] (some a)) Q E s:=by
 obtain ⟨o,es,ep,t,ho,hex,hd,hel,hnd,hb,hf,hl,hp⟩:=id h2
 unfold setWalkUnseen
 refine wpAny_bind (wpAny_setState_of ho hd hf ?_)
 dsimp only
 refine wpAny_bind (byText_ok ?_)
 have walk:∀ Q':Array (Int×Value)->Shared->Prop,(byT w=true∨es.size<=1)->(∀ es':Array (Int×Value),Els w es'.toList ms2->Q' es' s)->wpAny (model prog w) A (setWalk b) Q' E s:=fun Q' hc hQ=>by
  unfold setWalk
  refine wpAny_bind (wpAny_setState_of ho hd hf ?_)
  dsimp only
  refine wpAny_bind (byText_ok ?_)
  by_cases hby:byT w=true
  ·rw [if_pos hby]
   refine wpAny_bind (wpAny_askSetting (wpAny_pure (hQ _ (hel.perm (pick_perm _ _)))))
  ·rw [if_neg hby]
   have h1:es.size<=1:=hc.resolve_left hby
   have hdr:(!t.plain&&decide (es.size>1))=false:=by
    rw [decide_eq_false (by omega),Bool.and_false]
   have hml:(!t.led&&decide (es.size>1))=false:=by
    rw [decide_eq_false (by omega),Bool.and_false]
   show wpAny _ _ (if (!t.plain&&decide (es.size>1))=true then _ else _) _ _ s
   rw [hdr,if_neg Bool.false_ne_true]
   refine wpAny_bind (m:=if (!t.led&&decide (es.size>1))=true then unsupported "set:maker-not-led" else pure ()) ?_
   rw [hml,if_neg Bool.false_ne_true]
   exact wpAny_pure (wpAny_pure (hQ _ hel))
 by_cases hc:byT w=true∨es.size<=1
 ·have e:(byT w||(t.led&&t.plain)||decide (es.size<=1))=true:=by
   rcases hc with z | z
   ·rw [z];simp
   ·rw [decide_eq_true z];simp
  rw [e,if_pos rfl]
  exact walk _ hc h
 ·have hby:byT w=false:=Bool.eq_false_iff.mpr fun z=>hc (.inl z)
  have hs1:¬ es.size<=1:=fun z=>hc (.inr z)
  have hpl:t.plain=false:=hp.resolve_left (by omega)
  have hld:t.led=true:=hl.resolve_left (by rw [hby];exact Bool.false_ne_true)
  have e:(byT w||(t.led&&t.plain)||decide (es.size<=1))=false:=by
   rw [hby,hpl,decide_eq_false hs1];simp
  rw [e,if_neg Bool.false_ne_true]
  refine wpAny_bind (quiet_ok h2 h1 ?_)
  simp only [Bool.not_true,Bool.false_eq_true,↓reduceIte]
  refine wpAny_bind (wpAny_rule ?_)
  obtain ⟨o1,es1,ep1,t1,ho1,hex1,hd1,hel1,hnd1,hb1,hf1,hl1,hp1⟩:=id h1
  refine wpAny_bind (wpAny_setState_of ho1 hd1 hf1 ?_)
  dsimp only
  have hs0:es1.size≠0:=fun z=>hne (List.length_eq_zero_iff.mp (by rw [<- hel1.len,Array.length_toList];exact z))
  have hpl1:t1.plain=false:=hp1.resolve_left hs0
  have hc2:(t1.led && !t.led||t1.plain && !t.plain)=false:=by
   rw [hld,hpl1];simp
  rw [hc2,if_neg Bool.false_ne_true]
  exact wpAny_pure (h es hel)
theorem room_ok {a:Addr}{ms:List Str}{m:Nat}{Q:Unit->Shared->Prop}(hS:Is w s.heap a ms)(hm:ms.length+m<=128)(h:∀ h',Heap.SameBut a s.heap h'->Is w h' a ms->Q () { s with heap:=h' }):wpAny (model prog w) A (setRoomFor a m) Q E s:=by
 obtain ⟨o,es,ep,t,ho,hex,hd,hel,hnd,hb,hf,hl,hp⟩:=id hS
 have hn:es.size=ms.length:=by rw [<- hel.len,Array.length_toList]
 have hpsz:t.place.size=es.size:=by
  simp only [SetTable.fits,Bool.and_eq_true,beq_iff_eq] at hf
  exact hf.1
 unfold setRoomFor
 refine wpAny_bind (wpAny_setState_of ho hd hf ?_)
 dsimp only
 unfold SetTable.roomFor
 by_cases hc:(t.fill+m)*5≥t.mask*3
 ·rw [if_pos hc]
  refine relay_ok (ms:=ms) ho hd hf (by omega) (by omega) fun es' t' p1 p2 p3 p4 p5 p6=>?_
  have hsz:es'.size=es.size:=by rw [<- Array.length_toList,p1.length_eq,Array.length_toList]
  have h8:=(above_ok ((t.place.size+m)*2) (by omega)).2
  have hf':t'.fits es'.size=true:=by
   simp only [SetTable.fits,Bool.and_eq_true,beq_iff_eq,decide_eq_true_eq,SetTable.fill,p4]
   exact ⟨by omega,by show t'.place.size+0<=t'.mask;omega⟩
  exact h _ (Heap.SameBut.update _ a _) (Is.store prog ho hex hd (hel.perm p1) hnd (by omega) hf' (hl.imp id fun z=>p5.trans z) (hp.imp (fun z=>by omega) fun z=>p6.trans z)).2
 ·rw [if_neg hc]
  exact wpAny_pure (h s.heap (Heap.SameBut.refl a _) hS)
theorem merge_on {a b:Addr}{ms1 ms2:List Str}{each:Sem Unit}{Q:Unit->Shared->Prop}(hab:a≠b)(h1:Is w s.heap a ms1)(h2:Is w s.heap b ms2)(hne:ms1≠[])(hsz:ms1.length+ms2.length<=128)
  (heach:∀ (s':Shared) (Q':Unit->Shared->Prop),(∀ o,s.heap.get? b=some o->s'.heap.get? b=some o)->Q' () s'->wpAny (model prog w) A each Q' E s')
  (h:∀ h' ms',Heap.SameBut a s.heap h'->Is w h' a ms'->(∀ x,x∈ms'↔x∈ms1∨x∈ms2)->ms'.length<=ms1.length+ms2.length->Q () { s with heap:=h' }):wpAny (model prog w) A (setMerge a b each) Q E s:=by
 obtain ⟨o,es,ep,t,ho,hex,hd,hel,hnd,hb,hf,hl,hp⟩:=id h2
 have hn:es.size=ms2.length:=by rw [<- hel.len,Array.length_toList]
 unfold setMerge
 rw [if_neg (show ¬ ((a==b)=true) by rw [beq_iff_eq];exact hab)]
 refine wpAny_bind (wpAny_setState_of ho hd hf ?_)
 dsimp only
 by_cases h0:es.isEmpty=true
 ·rw [if_pos h0]
  have e0:ms2=[]:=List.length_eq_zero_iff.mp (by rw [<- hn];simpa using h0)
  exact wpAny_pure (h s.heap ms1 (Heap.SameBut.refl a _) h1 (fun x=>by rw [e0];simp) (by omega))
 rw [if_neg h0]
 refine wpAny_bind (room_ok h1 (by omega) fun h3 sb3 i3=>?_)
 have hb3:h3.get? b=some o:=(sb3.2 b (Ne.symm hab)).trans ho
 have h2':Is w h3 b ms2:=⟨o,es,ep,t,hb3,hex,hd,hel,hnd,hb,hf,hl,hp⟩
 obtain ⟨o3,es3,ep3,t3,ho3,hex3,hd3,hel3,hnd3,hb3',hf3,hl3,hp3⟩:=id i3
 refine wpAny_bind (wpAny_setState_of (s:={ s with heap:=h3 }) ho3 hd3 hf3 ?_)
 dsimp only
 have hroad:t3.road t = .oneByOne:=by
  unfold SetTable.road
  have hp:t3.place.size=es3.size:=by
   simp only [SetTable.fits,Bool.and_eq_true,beq_iff_eq] at hf3
   exact hf3.1
  have hpos:0<es3.size:=by
   rw [<- Array.length_toList,hel3.len]
   exact List.length_pos_iff.mpr hne
  rw [if_pos]
  rw [bne_iff_ne]
  unfold SetTable.fill
  omega
 rw [hroad]
 dsimp only
 refine wpAny_bind (walkU (s:={ s with heap:=h3 }) i3 hne h2' fun es4 hel4=>wpAny_bind ?_)
 rw [<- Array.forIn_toList]
 refine wpAny_forIn_list _ (fun rest _ s'=>∃ dn ms',es4.toList=dn++rest∧s' = { s with heap:=s'.heap }∧Heap.SameBut a s.heap s'.heap∧Is w s'.heap a ms'∧(∀ x,x∈ms'↔x∈ms1∨∃ e∈dn,x=keyV e.2)∧ms'.length<=ms1.length+dn.length) _ ?_ ?_ _ _ ⟨[],ms1,rfl,rfl,sb3,i3,fun x=>by simp,by simp⟩
 ·rintro ⟨hh,x⟩ rest u s' ⟨dn,ms',e1,e2,sb,i4,hm,hle⟩
  obtain ⟨q1,tk,q2⟩:=hel4.1 (hh,x) (by rw [e1];simp)
  dsimp only at q1 q2 ⊢
  have hlen:dn.length+(rest.length+1)=ms2.length:=by
   have:=congrArg List.length e1
   rw [hel4.len,List.length_append,List.length_cons] at this
   omega
  rw [q2,q1]
  have sb128:scanBound=4096:=rfl
  refine wpAny_bind (wpAny_holding (add_ok (s:=s') i4 (by omega) fun h5 ms5 sb5 i5 hm5 hl5=>?_))
  have hb5:h5.get? b=some o:=(sb5.2 b (Ne.symm hab)).trans ((sb.2 b (Ne.symm hab)).trans ho)
  refine wpAny_bind (heach _ _ (fun o' z=>?_) ?_)
  ·rw [ho] at z
   cases z
   exact hb5
  ·refine wpAny_bind (wpAny_setState_of (s:={ s' with heap:=h5 }) hb5 hd hf ?_)
   dsimp only
   rw [bne_self_eq_false,if_neg Bool.false_ne_true]
   refine wpAny_pure ⟨dn++[(hh,x)],ms5,by rw [e1,List.append_assoc];rfl,by rw [e2],sb.trans sb5,i5,fun y=>?_,by rw [List.length_append,List.length_singleton];omega⟩
   rw [hm5,hm]
   constructor
   ·rintro ((z | ⟨e,he,rfl⟩) | rfl)
    ·exact .inl z
    ·exact .inr ⟨e,List.mem_append_left _ he,rfl⟩
    ·exact .inr ⟨(hh,x),by simp,rfl⟩
   ·rintro (z | ⟨e,he,rfl⟩)
    ·exact .inl (.inl z)
    ·rcases List.mem_append.mp he with z | z
     ·exact .inl (.inr ⟨e,z,rfl⟩)
     ·have:e=(hh,x):=by simpa using z
      subst this
      exact .inr rfl
 ·rintro u s' ⟨dn,ms',e1,e2,sb,i4,hm,hle⟩
  rw [List.append_nil] at e1
  rw [e2]
  refine wpAny_pure (h _ ms' sb i4 (fun x=>?_) ?_)
  ·rw [hm,<- e1,<- hel4.2.mem_iff,List.mem_map]
   exact or_congr Iff.rfl ⟨fun ⟨e,he,z⟩=>⟨e,he,z.symm⟩,fun ⟨e,he,z⟩=>⟨e,he,z.symm⟩⟩
  ·have:=congrArg List.length e1
   rw [hel4.len] at this
   omega
end
end SS
namespace SS
open PySem PyProof.Rows
section
variable {prog:Program}{w:World}{A:Around}{E:Value->Shared->Prop}{s:Shared}
def freshO (w:World):Obj:={ cls:=.type "set",dict:=none,data:=.set #[] 0 (.fresh 0 0 (!byT w)) }
theorem new_ok {Q:Value->Shared->Prop}(h:Q (.ref s.heap.objs.size) { s with heap:=s.heap.push (freshO w) }):wpAny (model prog w) A (newSet (.type "set")) Q E s:=by
 unfold newSet
 refine wpAny_bind (byText_ok ?_)
 dsimp only
 simp only [newObj]
 exact wpAny_bind (wpAny_alloc (wpAny_pure h))
theorem Is.fresh (h:Heap):Is w (h.push (freshO w)) h.objs.size []:=by
 refine ⟨freshO w,#[],0,.fresh 0 0 (!byT w),Heap.get?_push_size _ rfl,⟨rfl,rfl,rfl⟩,rfl,⟨fun e he=>by simp at he,by simp⟩,List.nodup_nil,by decide,rfl,?_,.inl rfl⟩
 cases byT w
 ·exact .inr rfl
 ·exact .inl rfl
theorem room_new {a:Addr}{n:Nat}{Q:Unit->Shared->Prop}(ho1:s.heap.get? a=some (freshO w))(hn:n<=128)
  (h:∀ (h3:Heap) (o3:Obj) (ep3:Nat) (t3:SetTable),Heap.SameBut a s.heap h3->h3.get? a=some o3->o3.ExactSet->o3.data = .set #[] ep3 t3->t3.place.size=0->t3.dummies = #[]->ST.Size (t3.mask+1)->n<=t3.mask->(byT w=true∨t3.led=true)->Q () { s with heap:=h3 }) :
  wpAny (model prog w) A (setRoomFor a n) Q E s:=by
 have hled:byT w=true∨(!byT w)=true:=by cases byT w <;> simp
 unfold setRoomFor
 refine wpAny_bind (wpAny_setState_of ho1 rfl rfl ?_)
 dsimp only
 unfold SetTable.roomFor
 by_cases hc:((SetTable.fresh 0 0 (!byT w)).fill+n)*5≥(SetTable.fresh 0 0 (!byT w)).mask*3
 ·rw [if_pos hc]
  refine relay_ok (ms:=[]) ho1 rfl rfl (by show (0+n)*2<=256;omega) (Nat.zero_le _) fun es' t' p1 p2 p3 p4 p5 p6=>?_
  obtain rfl:es' = #[]:=by
   have:=p1.length_eq
   rw [Array.length_toList] at this
   exact Array.eq_empty_of_size_eq_zero this
  obtain ⟨hM,hlt⟩:=above_ok ((0+n)*2) (by omega)
  have p3':t'.mask+1=SetTable.sizeAbove ((0+n)*2):=p3
  have hg:(s.heap.update a (Obj.putSet #[] t')).get? a=some { freshO w with data:=.set #[] (0+1) t' }:=by
   have:=Heap.get?_update_self (Obj.putSet #[] t') ho1 (by rw [putSet_of (o:=freshO w) #[] t' rfl];rfl)
   rw [putSet_of (o:=freshO w) #[] t' rfl] at this
   exact this
  exact h _ _ 1 t' (Heap.SameBut.update _ a _) hg ⟨rfl,rfl,rfl⟩ rfl p2 p4 (by rw [p3'];exact hM) (by omega) (hled.imp id fun z=>p5.trans z)
 ·rw [if_neg hc]
  have hc':¬ (0+n)*5≥7*3:=hc
  exact wpAny_pure (h s.heap (freshO w) 0 _ (Heap.SameBut.refl a _) ho1 ⟨rfl,rfl,rfl⟩ rfl rfl rfl (.inl rfl) (by show n<=7;omega) hled)
theorem merge_new {a b:Addr}{ms:List Str}{Q:Unit->Shared->Prop}(hab:a≠b)(ho1:s.heap.get? a=some (freshO w))(h2:Is w s.heap b ms)(hsz:ms.length<=128)
  (h:∀ h',Heap.SameBut a s.heap h'->Is w h' a ms->Q () { s with heap:=h' }):wpAny (model prog w) A (setMerge a b) Q E s:=by
 obtain ⟨o,es,ep,t,ho,hex,hd,hel,hnd,hb,hf,hl,hp⟩:=id h2
 have hn:es.size=ms.length:=by rw [<- hel.len,Array.length_toList]
 have hled:byT w=true∨(!byT w)=true:=by cases byT w <;> simp
 unfold setMerge
 rw [if_neg (show ¬ ((a==b)=true) by rw [beq_iff_eq];exact hab)]
 refine wpAny_bind (wpAny_setState_of ho hd hf ?_)
 dsimp only
 by_cases h0:es.isEmpty=true
 ·rw [if_pos h0]
  have e0:ms=[]:=List.length_eq_zero_iff.mp (by rw [<- hn];simpa using h0)
  subst e0
  exact wpAny_pure (h s.heap (Heap.SameBut.refl a _) ⟨freshO w,#[],0,.fresh 0 0 (!byT w),ho1,⟨rfl,rfl,rfl⟩,rfl,⟨fun e he=>by simp at he,by simp⟩,List.nodup_nil,by decide,rfl,hled,.inl rfl⟩)
 rw [if_neg h0]
 have hpos:0<es.size:=by
  rcases Nat.eq_zero_or_pos es.size with z | z
  ·exact absurd (by simpa using z) h0
  ·exact z
 have hpl:t.plain=false:=hp.resolve_left (by omega)
 refine wpAny_bind (room_new ho1 (by omega) fun h3 o3 ep3 t3 sb3 ho3 hex3 hd3 hps hdu hM hle hld3=>?_)
 have hf3:t3.fits (#[]:Array (Int×Value)).size=true:=by
  simp only [SetTable.fits,Bool.and_eq_true,beq_iff_eq,decide_eq_true_eq,SetTable.fill,hdu]
  exact ⟨hps,by show t3.place.size+0<=t3.mask;omega⟩
 refine wpAny_bind (wpAny_setState_of (s:={ s with heap:=h3 }) ho3 hd3 hf3 ?_)
 dsimp only
 have hled3:byT w=true∨(t3.led&&t.led)=true:=by
  rcases hld3 with z | z
  ·exact .inl z
  ·rcases hl with y | y
   ·exact .inl y
   ·exact .inr (by rw [z,y];rfl)
 have hfill:(t3.fill != 0)=false:=by
  unfold SetTable.fill
  rw [hps,hdu]
  rfl
 unfold SetTable.road
 rw [hfill,if_neg Bool.false_ne_true]
 by_cases hm:(t3.mask==t.mask&&t.dummies.isEmpty)=true
 ·rw [if_pos hm]
  dsimp only
  refine wpAny_storeSet_of (s:={ s with heap:=h3 }) ho3 hd3 ?_ (fits_of_scanBound hb)
  exact h _ (sb3.trans (Heap.SameBut.update _ a _)) (Is.store prog (t':={ mask:=t.mask,place:=t.place,dummies:=t.dummies,finger:=t3.finger,led:=t3.led&&t.led,moves:=t3.moves,plain:=t3.plain&&t.plain }) ho3 hex3 hd3 hel hnd hb hf hled3 (.inr (by show (t3.plain&&t.plain)=false;rw [hpl,Bool.and_false]))).2
 ·rw [if_neg hm]
  dsimp only
  obtain ⟨t',order,e1,e2,e3,e4,e5,e6,e7⟩:=ST.laid_ok (finger:=t3.finger) (moves:=t3.moves) (led:=t3.led&&t.led) (plain:=t3.plain&&t.plain) (hashes:=es.map (·.1)) hM (by rw [Array.size_map];exact hle)
  rw [e1]
  rw [Array.size_map] at e2 e3
  have hpm:=reorder_perm e2
  have hsz':(order.filterMap (es[·]?)).size=es.size:=by rw [<- Array.length_toList,hpm.length_eq,Array.length_toList]
  refine wpAny_bind (m:=(do
   if ((order.filterMap (es[·]?)).size != es.size)=true then unsupported "internal:set-table-lost-an-element"
   pure (order.filterMap (es[·]?),t'))) ?_
  rw [hsz',bne_self_eq_false,if_neg Bool.false_ne_true]
  refine wpAny_pure ?_
  refine wpAny_storeSet_of (s:={ s with heap:=h3 }) ho3 hd3 ?_ (by rw [hsz'];exact fits_of_scanBound hb)
  have hf':t'.fits (order.filterMap (es[·]?)).size=true:=by
   simp only [SetTable.fits,Bool.and_eq_true,beq_iff_eq,decide_eq_true_eq,SetTable.fill,e5]
   exact ⟨by omega,by show t'.place.size+0<=t'.mask;omega⟩
  exact h _ (sb3.trans (Heap.SameBut.update _ a _)) (Is.store prog ho3 hex3 hd3 (hel.perm hpm) hnd (by rw [hsz'];exact hb) hf' (by rw [e6];exact hled3) (.inr (by rw [e7,hpl,Bool.and_false]))).2
theorem Is.ty {a:Addr}{ms:List Str}(x:Is w s.heap a ms):s.TypeIs (.ref a) "set" := by
 obtain ⟨o,_,_,_,ho,hex,_⟩:=x
 exact ⟨o,ho,hex.1⟩
theorem copy_ok {b:Addr}{ms:List Str}{Q:Value->Shared->Prop}(h2:Is w s.heap b ms)(hsz:ms.length<=128)
  (h:∀ h',(∀ x o,s.heap.get? x=some o->h'.get? x=some o)->Is w h' s.heap.objs.size ms->Q (.ref s.heap.objs.size) { s with heap:=h' }):wpAny (model prog w) A (Builtin.Frozenset.copyOf b) Q E s:=by
 unfold Builtin.Frozenset.copyOf Builtin.Frozenset.baseOf
 refine wpAny_bind (wpAny_bind (wpAny_isInstance h2.ty sub_set_self (wpAny_pure ?_)))
 rw [if_pos rfl]
 refine wpAny_bind (new_ok ?_)
 refine wpAny_bind (m:=Builtin.Frozenset.addrOf (.ref s.heap.objs.size)) (wpAny_pure ?_)
 obtain ⟨o,ho⟩:=h2.there
 have hlt:=Heap.lt_size ho
 refine wpAny_bind (merge_new (s:={ s with heap:=s.heap.push (freshO w) }) (Nat.ne_of_gt hlt) (Heap.get?_push_size _ rfl) (h2.at fun o e=>Heap.get?_push_of_some _ e) hsz fun h' sb i=>wpAny_pure ?_)
 exact h h' (fun x o e=>(sb.2 x (Nat.ne_of_lt (Heap.lt_size e))).trans (Heap.get?_push_of_some _ e)) i
theorem entry_or:entryFor table "set.__or__" = some Builtin.«frozenset.__or__» :=
 entryFor_alias (id' := "frozenset.__or__") (by kernel_rfl) (by first | rfl | decide +kernel | (unfold String.splitOn;simp +decide [String.splitOnAux])) (by decide +kernel) (by kernel_rfl)
theorem or_ok {a b:Addr}{ms1 ms2:List Str}{Q:Value->Shared->Prop}(hab:a≠b)(h1:Is w s.heap a ms1)(h2:Is w s.heap b ms2)(hne:ms1≠[])(hsz:ms1.length+ms2.length<=128)
  (h:∀ h' ms',(∀ x o,s.heap.get? x=some o->h'.get? x=some o)->Is w h' s.heap.objs.size ms'->(∀ x,x∈ms'↔x∈ms1∨x∈ms2)->ms'.length<=ms1.length+ms2.length->Q (.ref s.heap.objs.size) { s with heap:=h' }) :
  wpAny (model prog w) A (binaryOp .BitOr (.ref a) (.ref b)) Q E s:=by
 refine wpAny_binaryOp_same h1.ty h2.ty F.fills_set_or F.slot_set_or (wpAny_call_entry F.slot_set_or h1.ty entry_or ?_ (F.args_set_or_2 _ _))
 refine wpAny_bind (m:=Builtin.Frozenset.slot1 "__or__" ⟨[.ref a,.ref b],[]⟩) (wpAny_pure (a:=(Value.ref a,Value.ref b)) ?_)
 dsimp only
 simp only [Bool.false_eq_true,↓reduceIte]
 have any:∀ (c:Addr) (ms:List Str) (A':Around) (s':Shared) (Q':Bool->Shared->Prop),Is w s'.heap c ms->Q' true s'->wpAny (model prog w) A' (Builtin.Frozenset.isAnySet (.ref c)) Q' E s':=fun c ms A' s' Q' hc hQ=>by
  unfold Builtin.Frozenset.isAnySet
  refine wpAny_bind (m:=isInstance (.ref c) (.type "set")) (wpAny_isInstance hc.ty sub_set_self ?_)
  exact wpAny_pure hQ
 refine wpAny_bind (m:=Builtin.Frozenset.isAnySet (.ref a) <&&> Builtin.Frozenset.isAnySet (.ref b)) ?_
 refine wpAny_bind (m:=Builtin.Frozenset.isAnySet (.ref a)) (any a ms1 _ s _ h1 ?_)
 refine any b ms2 _ s _ h2 ?_
 simp only [Bool.not_true,Bool.false_eq_true,↓reduceIte]
 refine wpAny_bind (m:=Builtin.Frozenset.addrOf (.ref a)) (wpAny_pure ?_)
 refine wpAny_bind ?_
 refine wpAny_bind (m:=Builtin.Frozenset.copyOf a) (copy_ok h1 (by omega) fun h3 kp3 i3=>?_)
 have hb:(Value.ref b != Value.ref a)=true:=by
  rw [bne_iff_ne]
  exact fun z=>hab (by cases z;rfl)
 have hlt:=Heap.lt_size h2.there.choose_spec
 have h2':Is w h3 b ms2:=h2.at fun o e=>kp3 b o e
 have nb:s.heap.objs.size≠b:=Nat.ne_of_gt hlt
 rw [hb,if_pos rfl]
 refine wpAny_bind (m:=holding [.ref s.heap.objs.size] (do Builtin.Frozenset.updateFrom _ (<- Builtin.Frozenset.addrOf (.ref s.heap.objs.size)) (.ref b))) (wpAny_holding ?_)
 refine wpAny_bind (m:=Builtin.Frozenset.addrOf (.ref s.heap.objs.size)) (wpAny_pure ?_)
 unfold Builtin.Frozenset.updateFrom
 refine wpAny_bind (m:=Builtin.Frozenset.isAnySet (.ref b)) (any b ms2 _ { s with heap:=h3 } _ h2' ?_)
 rw [if_pos rfl]
 refine wpAny_bind (m:=Builtin.Frozenset.addrOf (.ref b)) (wpAny_pure ?_)
 unfold Builtin.Frozenset.merge
 obtain ⟨o,es,ep,t,ho,hex,hd,hel,hnd,hbs,hf,hl,hp⟩:=id h2'
 refine wpAny_bind (wpAny_setEpoch_of (s:={ s with heap:=h3 }) ho hd hf ?_)
 refine merge_on (s:={ s with heap:=h3 }) nb i3 h2' hne hsz (fun s' Q' keep hQ=>?_) fun h4 ms' sb4 i4 hm hle=>?_
 ·unfold Builtin.Frozenset.unchanged
  refine wpAny_bind (wpAny_setEpoch_of (s:=s') (keep o ho) hd hf ?_)
  rw [bne_self_eq_false,if_neg Bool.false_ne_true]
  exact wpAny_pure hQ
 ·refine wpAny_pure (wpAny_pure ⟨_,rfl,(by intro z;cases z),h h4 ms' (fun x o' e=>(sb4.2 x (Nat.ne_of_lt (Heap.lt_size e))).trans (kp3 x o' e)) i4 hm hle⟩)
end
end SS
namespace SS
open PySem PyProof.Rows
theorem slot_next:Slot "set_iterator" "__next__" "set_iterator.__next__" :=
 .of (owner := "set_iterator") (n := "__next__") (by rw [typeLookup_type,builtinLookup_eq_fast];kernel_rfl) (by decide +kernel) (by decide +kernel) (by decide +kernel) (by first | exact .inl (by decide +kernel) | exact .inr (by decide +kernel)) (by rw [isSubtype_type];kernel_rfl)
theorem entry_next:entryFor table "set_iterator.__next__" = some Builtin.«set_iterator.__next__» := entryFor_of_tree (by kernel_rfl)
theorem args_next (a:Value):argsOk "set_iterator.__next__" ⟨[a],[]⟩:=by unfold argsOk;kernel_rfl
theorem slot_self:Slot "set_iterator" "__iter__" "set_iterator.__iter__" :=
 .of (owner := "set_iterator") (n := "__iter__") (by rw [typeLookup_type,builtinLookup_eq_fast];kernel_rfl) (by decide +kernel) (by decide +kernel) (by decide +kernel) (by first | exact .inl (by decide +kernel) | exact .inr (by decide +kernel)) (by rw [isSubtype_type];kernel_rfl)
theorem args_self (a:Value):argsOk "set_iterator.__iter__" ⟨[a],[]⟩:=by unfold argsOk;kernel_rfl
theorem entry_self:entryFor table "set_iterator.__iter__" = some Builtin.«dict_keyiterator.__iter__» :=
 entryFor_alias (id' := "dict_keyiterator.__iter__") (by kernel_rfl) (by first | rfl | decide +kernel | (unfold String.splitOn;simp +decide [String.splitOnAux])) (by decide +kernel) (by kernel_rfl)
theorem entry_iter:entryFor table "set.__iter__" = some Builtin.«frozenset.__iter__» :=
 entryFor_alias (id' := "frozenset.__iter__") (by kernel_rfl) (by first | rfl | decide +kernel | (unfold String.splitOn;simp +decide [String.splitOnAux])) (by decide +kernel) (by kernel_rfl)
def It (h:Heap)(I a:Addr)(first:Value)(i n ep:Nat):Prop:=∃ o,h.get? I=some o∧o.cls = .type "set_iterator" ∧ o.data = .fields #[first,rawInt (i:Int),.ref a,rawInt (n:Int),rawInt (ep:Int)]
theorem It.at {h h':Heap}{I a:Addr}{first:Value}{i n ep:Nat}(x:It h I a first i n ep)(e:∀ o,h.get? I=some o->h'.get? I=some o):It h' I a first i n ep:=let ⟨o,ho,r⟩:=x;⟨o,e _ ho,r⟩
section
variable {prog:Program}{w:World}{A:Around}{E:Value->Shared->Prop}{s:Shared}
theorem It.ty {I a:Addr}{first:Value}{i n ep:Nat}(x:It s.heap I a first i n ep):s.TypeIs (.ref I) "set_iterator" := let ⟨o,ho,hc,_⟩:=x;⟨o,ho,hc⟩
theorem stop_ok {α:Type}{I:Addr}{s0 s:Shared}{Q:Option Value->Shared->Prop}(hh:A.handled=none)(hQ:∀ h',(∀ b o,s.heap.get? b=some o->h'.get? b=some o)->Q none { s with heap:=h' }) :
  wpAny (model prog w) A.in1 (newExc (.type "StopIteration") [] >>= fun e=>(raiseNew e:Sem Fin)) (fun fin s'=>∃ v,fin = .done (.ret v)∧wpAny (model prog w) A (pure (some v)) Q E s')
   (fun e s'=>wpAny (model prog w) A (do if <- isInstance e (.type "StopIteration") then pure none else throw e) Q E s') s:=by
 refine wpAny_bind ?_
 simp only [newExc,newTuple]
 refine wpAny_bind (wpAny_newObj_type ?_ (by size_fits))
 refine wpAny_bind (m:=firstArgMember _ _) (wpAny_of_eq (a:=Value.none) (by first | rfl | (simp only [firstArgMember];rfl)) ?_)
 refine wpAny_newObj_type ?_ (by size_fits)
 simp only [raiseNew]
 refine wpAny_bind (wpAny_handled ?_)
 first | rw [show A.in1.handled=none from hh] | rw [hh]
 refine wpAny_bind (wpAny_pure (wpAny_throw ?_))
 refine wpAny_bind (wpAny_isInstance (T := "StopIteration") (b:=true) ⟨_,Heap.get?_push_size _ rfl,rfl⟩ isSubtype_stop ?_)
 refine wpAny_pure (hQ _ fun b ob eb=>?_)
 exact Heap.get?_push_of_some _ (Heap.get?_push_of_some _ eb)
end
end SS
namespace SS
open PySem PyProof.Rows
section
variable {prog:Program}{w:World}{A:Around}{E:Value->Shared->Prop}{s:Shared}
theorem item_int {I a:Addr}{o:Obj}{es:Array (Int×Value)}{ep i slot nx:Nat}{t:SetTable}{x:Value}{Q:Option Value->Shared->Prop}(hI:It s.heap I a (rawInt (slot:Int)) i es.size ep)(hne:a≠I)(ho:s.heap.get? a=some o)(hd:o.data = .set es ep t)(hf:t.fits es.size=true)
  (hN:∀ (A':Around) (E':Value->Shared->Prop) (Q':Option (Value×Nat)->Shared->Prop),Q' (some (x,nx)) s->wpAny (model prog w) A' (setNext a slot i ep) Q' E' s)
  (hQ:∀ h',It h' I a (rawInt (nx:Int)) (i+1) es.size ep->Heap.SameBut I s.heap h'->Q (some x) { s with heap:=h' }):wpAny (model prog w) A (pyNext (.ref I)) Q E s:=by
 obtain ⟨oi,hoi,hci,hdi⟩:=id hI
 unfold pyNext
 refine wpAny_bind (wpAny_attempt (wpAny_callSpecial?_slot (name:=Str.ofString "__next__") hI.ty slot_next (wpAny_call_entry slot_next hI.ty entry_next ?_ (args_next _))))
 unfold Builtin.«set_iterator.__next__»
 refine wpAny_bind (wpAny_of_eq (a:=(Value.ref I,[])) rfl ?_)
 try dsimp only
 refine wpAny_bind (wpAny_fieldsOf hoi hdi ?_)
 dsimp only [rawInt]
 refine wpAny_bind (wpAny_setEntries_of ho hd hf ?_)
 rw [if_neg (by simp)]
 refine wpAny_bind (m:=setNext a (slot:Int).toNat (i:Int).toNat (ep:Int).toNat) ?_
 rw [Int.toNat_natCast,Int.toNat_natCast,Int.toNat_natCast]
 refine hN _ _ _ ?_
 dsimp only
 refine wpAny_bind (wpAny_setField hoi hdi (by simp) ?_)
 have h2:=Heap.get?_update_self (Obj.mapFields (·.setIfInBounds 0 (rawInt (nx:Int)))) hoi (Obj.isFreed_of_fields (Obj.data_mapFields hdi _))
 refine wpAny_bind (wpAny_setField h2 (Obj.data_mapFields hdi _) (by simp) ?_)
 refine wpAny_pure ⟨_,rfl,wpAny_pure (hQ _ ?_ ((Heap.SameBut.update ..).trans (Heap.SameBut.update ..)))⟩
 exact ⟨_,Heap.get?_update_self _ h2 (Obj.isFreed_of_fields (Obj.data_mapFields (Obj.data_mapFields hdi _) _)),(Obj.cls_mapFields ..).trans ((Obj.cls_mapFields ..).trans hci),by rw [Obj.data_mapFields (Obj.data_mapFields hdi _)];simp [rawInt]⟩
theorem end_int {I a:Addr}{o:Obj}{es:Array (Int×Value)}{ep i slot:Nat}{t:SetTable}{Q:Option Value->Shared->Prop}(hh:A.handled=none)(hI:It s.heap I a (rawInt (slot:Int)) i es.size ep)(hne:a≠I)(ho:s.heap.get? a=some o)(hd:o.data = .set es ep t)(hf:t.fits es.size=true)
  (hN:∀ (A':Around) (E':Value->Shared->Prop) (Q':Option (Value×Nat)->Shared->Prop),Q' none s->wpAny (model prog w) A' (setNext a slot i ep) Q' E' s)
  (hQ:∀ h',Heap.ExtBut I s.heap h'->Q none { s with heap:=h' }):wpAny (model prog w) A (pyNext (.ref I)) Q E s:=by
 obtain ⟨oi,hoi,hci,hdi⟩:=id hI
 unfold pyNext
 refine wpAny_bind (wpAny_attempt (wpAny_callSpecial?_slot (name:=Str.ofString "__next__") hI.ty slot_next (wpAny_call_entry slot_next hI.ty entry_next ?_ (args_next _))))
 unfold Builtin.«set_iterator.__next__»
 refine wpAny_bind (wpAny_of_eq (a:=(Value.ref I,[])) rfl ?_)
 try dsimp only
 refine wpAny_bind (wpAny_fieldsOf hoi hdi ?_)
 dsimp only [rawInt]
 refine wpAny_bind (wpAny_setEntries_of ho hd hf ?_)
 rw [if_neg (by simp)]
 refine wpAny_bind (m:=setNext a (slot:Int).toNat (i:Int).toNat (ep:Int).toNat) ?_
 rw [Int.toNat_natCast,Int.toNat_natCast,Int.toNat_natCast]
 refine hN _ _ _ ?_
 dsimp only
 refine wpAny_bind (wpAny_setField hoi hdi (by simp) ?_)
 refine wpAny_mono (stop_ok (α:=Unit) (I:=I) (s0:=s) (Q:=Q) (E:=E) hh fun h' kp=>hQ h' fun b ob hb eb=>kp b ob ((Heap.get?_update_other _ _ (Ne.symm hb)).trans eb)) (fun fin s' z=>z) fun e s' z=>z
theorem item_ref {I a tp:Addr}{o ot:Obj}{es:Array (Int×Value)}{ep i p nt:Nat}{t:SetTable}{x:Int×Value}{ps:List Nat}{Q:Option Value->Shared->Prop}(hI:It s.heap I a (.ref tp) i es.size ep)(ho:s.heap.get? a=some o)(hd:o.data = .set es ep t)(hf:t.fits es.size=true)
  (hot:s.heap.get? tp=some ot) (hdt:ot.data = .seq (ps.map fun j:Nat=>rawInt (j:Int)).toArray nt) (hp:ps[i]?=some p) (hx:es[p]?=some x)
  (hQ:∀ h',It h' I a (.ref tp) (i+1) es.size ep->Heap.SameBut I s.heap h'->Q (some x.2) { s with heap:=h' }):wpAny (model prog w) A (pyNext (.ref I)) Q E s:=by
 obtain ⟨oi,hoi,hci,hdi⟩:=id hI
 unfold pyNext
 refine wpAny_bind (wpAny_attempt (wpAny_callSpecial?_slot (name:=Str.ofString "__next__") hI.ty slot_next (wpAny_call_entry slot_next hI.ty entry_next ?_ (args_next _))))
 unfold Builtin.«set_iterator.__next__»
 refine wpAny_bind (wpAny_of_eq (a:=(Value.ref I,[])) rfl ?_)
 try dsimp only
 refine wpAny_bind (wpAny_fieldsOf hoi hdi ?_)
 dsimp only [rawInt]
 refine wpAny_bind (wpAny_setEntries_of ho hd hf ?_)
 rw [if_neg (by simp)]
 refine wpAny_bind (wpAny_seqItems hot hdt ?_)
 dsimp only
 rw [Int.toNat_natCast,List.getElem?_toArray,List.getElem?_map,hp]
 dsimp only [Option.map,rawInt]
 refine wpAny_bind (m:=setNextDrawn a (p:Int).toNat (ep:Int).toNat) ?_
 rw [Int.toNat_natCast,Int.toNat_natCast]
 unfold setNextDrawn
 refine wpAny_bind (wpAny_setState_of ho hd hf ?_)
 dsimp only
 rw [bne_self_eq_false,if_neg Bool.false_ne_true,hx]
 refine wpAny_pure ?_
 refine wpAny_bind (wpAny_setField hoi hdi (by simp) ?_)
 refine wpAny_pure ⟨_,rfl,wpAny_pure (hQ _ ?_ (Heap.SameBut.update ..))⟩
 exact ⟨_,Heap.get?_update_self _ hoi (Obj.isFreed_of_fields (Obj.data_mapFields hdi _)),(Obj.cls_mapFields ..).trans hci,by rw [Obj.data_mapFields hdi];simp [rawInt]⟩
theorem end_ref {I a tp:Addr}{o ot:Obj}{es:Array (Int×Value)}{ep i nt:Nat}{t:SetTable}{ps:List Nat}{Q:Option Value->Shared->Prop}(hh:A.handled=none)(hI:It s.heap I a (.ref tp) i es.size ep)(ho:s.heap.get? a=some o)(hd:o.data = .set es ep t)(hf:t.fits es.size=true)
  (hot:s.heap.get? tp=some ot) (hdt:ot.data = .seq (ps.map fun j:Nat=>rawInt (j:Int)).toArray nt) (hp:ps[i]?=none)
  (hQ:∀ h',Heap.ExtBut I s.heap h'->Q none { s with heap:=h' }):wpAny (model prog w) A (pyNext (.ref I)) Q E s:=by
 obtain ⟨oi,hoi,hci,hdi⟩:=id hI
 unfold pyNext
 refine wpAny_bind (wpAny_attempt (wpAny_callSpecial?_slot (name:=Str.ofString "__next__") hI.ty slot_next (wpAny_call_entry slot_next hI.ty entry_next ?_ (args_next _))))
 unfold Builtin.«set_iterator.__next__»
 refine wpAny_bind (wpAny_of_eq (a:=(Value.ref I,[])) rfl ?_)
 try dsimp only
 refine wpAny_bind (wpAny_fieldsOf hoi hdi ?_)
 dsimp only [rawInt]
 refine wpAny_bind (wpAny_setEntries_of ho hd hf ?_)
 rw [if_neg (by simp)]
 refine wpAny_bind (wpAny_seqItems hot hdt ?_)
 dsimp only
 rw [Int.toNat_natCast,List.getElem?_toArray,List.getElem?_map,hp]
 dsimp only [Option.map]
 refine wpAny_bind (wpAny_setField hoi hdi (by simp) ?_)
 have h2:=Heap.get?_update_self (Obj.mapFields (·.setIfInBounds 0 (rawInt 0))) hoi (Obj.isFreed_of_fields (Obj.data_mapFields hdi _))
 refine wpAny_bind (wpAny_setField h2 (Obj.data_mapFields hdi _) (by simp) ?_)
 refine wpAny_mono (stop_ok (α:=Unit) (I:=I) (s0:=s) (Q:=Q) (E:=E) hh fun h' kp=>hQ h' fun b ob hb eb=>kp b ob ((Heap.get?_update_other _ _ (Ne.symm hb)).trans ((Heap.get?_update_other _ _ (Ne.symm hb)).trans eb))) (fun fin s' z=>z) fun e s' z=>z
theorem self_ok {I a:Addr}{first:Value}{i n ep:Nat}{Q:Value->Shared->Prop}(hI:It s.heap I a first i n ep)(h:Q (.ref I) s):wpAny (model prog w) A (pyIter (.ref I)) Q E s:=by
 refine wpAny_pyIter_slot hI.ty slot_self (wpAny_call_entry slot_self hI.ty entry_self ?_ (args_self _))
 show wpAny _ _ (ret (.ref I)) _ _ s
 exact wpAny_pure ⟨_,rfl, "set_iterator",_,hI.ty,slot_next.lookup,h⟩
theorem wpAny_choose {M:Model}{src:Source}{n:Nat}{Q:Nat->Shared->Prop}(hn:n≠0)(h:∀ i d,i<n->Q i { s with drawn:=d }):wpAny M A (choose src n) Q E s:=fun Γ p hΓ=>⟨hn,h _ _ (Nat.mod_lt _ (Nat.pos_of_ne_zero hn))⟩
theorem draw_ok {α:Type}:∀ (xs:List α) (s:Shared) (Q:List α->Shared->Prop),(∀ ys d,ys.Perm xs->Q ys { s with drawn:=d })->wpAny (model prog w) A (drawOrder xs.length xs) Q E s:=by
 intro xs
 generalize hn:xs.length=n
 induction n generalizing xs with
 | zero =>
  intro s Q h
  obtain rfl:=List.length_eq_zero_iff.mp hn
  rw [drawOrder]
  exact wpAny_pure (h [] s.drawn (List.Perm.refl _))
 | succ n ih =>
  intro s Q h
  cases xs with
  | nil=>cases hn
  | cons x xs =>
   rw [drawOrder]
   rotate_left
   ·intro z
    cases z
   refine wpAny_bind (wpAny_choose (by simp) fun i d hi=>?_)
   rw [List.getElem?_eq_getElem hi]
   dsimp only
   refine wpAny_bind (ih ((x::xs).eraseIdx i) (by rw [List.length_eraseIdx_of_lt hi,hn];rfl) _ _ fun ys d2 hp=>wpAny_pure ?_)
   exact h _ d2 ((hp.cons _).trans (erase_perm _ i hi))
end
end SS
namespace SS
open PySem PyProof.Rows
theorem walk_int {prog:Program}{w:World}{A:Around}{a I:Addr}{o:Obj}{es:Array (Int×Value)}{ep:Nat}{t:SetTable}{L:List (Int×Value)}{slots:Nat->Nat}(hh:A.handled=none)(hne:a≠I)(hd:o.data = .set es ep t)(hf:t.fits es.size=true)
  (hN:∀ (i:Nat) (s:Shared) (A':Around) (E':Value->Shared->Prop) (Q':Option (Value×Nat)->Shared->Prop),s.heap.get? a=some o->i<=L.length->Q' ((L[i]?).map fun e=>(e.2,slots (i+1))) s->wpAny (model prog w) A' (setNext a (slots i) i ep) Q' E' s) :
  Walks prog w A I [I,a] [I] L.length (fun i v=>(L.map (·.2))[i]?=some v) (fun i h=>h.get? a=some o∧It h I a (rawInt (slots i:Int)) i es.size ep) where
 sub:=fun b hb=>by simp at hb;simp [hb]
 frame:=fun _ _ _ y hk=>⟨hk a (by simp) o y.1,y.2.at fun o e=>hk I (by simp) o e⟩
 item:=fun i s Q E hi y hQ=>by
  refine item_int (x:=L[i].2) (nx:=slots (i+1)) y.2 hne y.1 hd hf (fun A' E' Q' q=>hN i s A' E' Q' y.1 (by omega) ?_) fun h' hit hs=>?_
  ·rw [List.getElem?_eq_getElem hi]
   exact q
  ·exact hQ _ h' s.toks (by rw [List.getElem?_map,List.getElem?_eq_getElem hi];rfl) ⟨(hs.2 a hne).trans y.1,hit⟩ fun b o hb eo=>hs.extBut b o (fun h=>hb (by simp [h])) eo
 done:=fun s Q E y hQ=>by
  refine end_int hh y.2 hne y.1 hd hf (fun A' E' Q' q=>hN L.length s A' E' Q' y.1 (Nat.le_refl _) ?_) fun h' he=>hQ h' s.toks fun b o hb eo=>he b o (fun h=>hb (by simp [h])) eo
  rw [List.getElem?_eq_none (Nat.le_refl _)]
  exact q
 self:=fun _ _ _ _ y hQ=>self_ok y.2 hQ
theorem walk_ref {prog:Program}{w:World}{A:Around}{a I tp:Addr}{o ot:Obj}{es:Array (Int×Value)}{ep nt:Nat}{t:SetTable}{ps:List Nat}(hh:A.handled=none)(hne:a≠I)(hnt:tp≠I)(hd:o.data = .set es ep t)(hf:t.fits es.size=true)
  (hdt:ot.data = .seq (ps.map fun j:Nat=>rawInt (j:Int)).toArray nt) (hps:∀ p∈ps,p<es.size) :
  Walks prog w A I [I,a,tp] [I] ps.length (fun i v=>(ps.map fun p=>(es.getD p (0,.none)).2)[i]?=some v) (fun i h=>h.get? a=some o∧h.get? tp=some ot∧It h I a (.ref tp) i es.size ep) where
 sub:=fun b hb=>by simp at hb;simp [hb]
 frame:=fun _ _ _ y hk=>⟨hk a (by simp) o y.1,hk tp (by simp) ot y.2.1,y.2.2.at fun o e=>hk I (by simp) o e⟩
 item:=fun i s Q E hi y hQ=>by
  have hp:ps[i]?=some ps[i]:=List.getElem?_eq_getElem hi
  have hlt:=hps _ (List.getElem_mem hi)
  have hx:es[ps[i]]?=some (es[ps[i]]'hlt):=Array.getElem?_eq_getElem hlt
  refine item_ref y.2.2 y.1 hd hf y.2.1 hdt hp hx fun h' hit hs=>?_
  refine hQ _ h' s.toks ?_ ⟨(hs.2 a hne).trans y.1,(hs.2 tp hnt).trans y.2.1,hit⟩ fun b o hb eo=>hs.extBut b o (fun h=>hb (by simp [h])) eo
  rw [List.getElem?_map,hp]
  show some (es.getD ps[i] (0,Value.none)).2=_
  rw [Array.getD_eq_getD_getElem?,hx]
  rfl
 done:=fun s Q E y hQ=>end_ref hh y.2.2 y.1 hd hf y.2.1 hdt (List.getElem?_eq_none (Nat.le_refl _)) fun h' he=>hQ h' s.toks fun b o hb eo=>he b o (fun h=>hb (by simp [h])) eo
 self:=fun _ _ _ _ y hQ=>self_ok y.2.2 hQ
theorem strs_els {w:World}:∀ L:List (Int×Value),(∀ e∈L,El w e)->StrsAre (L.map (·.2)) (L.map fun e=>keyV e.2)
 | [],_=>.nil
 | e::L,h=>by
  obtain ⟨_,tk,q⟩:=h e (List.mem_cons_self ..)
  rw [List.map_cons,List.map_cons]
  have r:=strs_els L fun x hx=>h x (List.mem_cons_of_mem _ hx)
  have z:StrsAre (Value.str (keyV e.2) tk::L.map (·.2)) (keyV e.2::L.map fun e=>keyV e.2):=.cons _ _ r
  rw [<- q] at z
  exact z
section
variable {prog:Program}{w:World}{A:Around}{E:Value->Shared->Prop}{s:Shared}
theorem iter_ok {a:Addr}{ms:List Str}{Q:Value->Shared->Prop}(hS:Is w s.heap a ms)
  (h:∀ (h':Heap) (d:Drawn) (I:Addr) (fp:List Addr) (xs:List Value) (ss:List Str) (St:Nat->Heap->Prop),(∀ A':Around,A'.handled=none->Walks prog w A' I fp [I] xs.length (fun i v=>xs[i]?=some v) St)->St 0 h' ->
   (∀ b o,s.heap.get? b=some o->h'.get? b=some o)->s.heap.objs.size<=I->(∀ b∈fp,b=a∨s.heap.objs.size<=b)->StrsAre xs ss->ss.Perm ms->Q (.ref I) { s with heap:=h',drawn:=d }) :
  wpAny (model prog w) A (pyIter (.ref a)) Q E s:=by
 obtain ⟨o,es,ep,t,ho,hex,hd,hel,hnd,hb,hf,hl,hp⟩:=id hS
 have hlt:=Heap.lt_size ho
 have hps:t.place.size=es.size:=by
  simp only [SetTable.fits,Bool.and_eq_true,beq_iff_eq] at hf
  exact hf.1
 refine wpAny_pyIter_slot hS.ty F.slot_set_iter (wpAny_call_entry F.slot_set_iter hS.ty entry_iter ?_ (F.args_set_iter_1 _))
 unfold Builtin.«frozenset.__iter__»
 refine wpAny_bind (m:=Builtin.Frozenset.slot0 "__iter__" ⟨[.ref a],[]⟩) (wpAny_of_eq (a:=a) rfl ?_)
 unfold Builtin.Frozenset.sizeOf
 refine wpAny_bind (wpAny_bind (wpAny_setEntries_of ho hd hf (wpAny_pure ?_)))
 have hlist:∀ L:List (Int×Value),L.Perm es.toList->StrsAre (L.map (·.2)) (L.map fun e=>keyV e.2)∧(L.map fun e=>keyV e.2).Perm ms:=fun L hp=>⟨strs_els L (hel.perm hp).1,(hel.perm hp).2⟩
 have fin:∀ (L:List (Int×Value)) (slots:Nat->Nat),slots 0=0->L.Perm es.toList->(∀ (i:Nat) (s:Shared) (A':Around) (E':Value->Shared->Prop) (Q':Option (Value×Nat)->Shared->Prop),s.heap.get? a=some o->i<=L.length->Q' ((L[i]?).map fun e=>(e.2,slots (i+1))) s->wpAny (model prog w) A' (setNext a (slots i) i ep) Q' E' s) ->
   wpAny (model prog w) A.in1 (setEpoch a >>= fun e=>newFields "set_iterator" [rawInt 0,rawInt 0,.ref a,rawInt (es.size:Int),rawInt (e:Int)] >>= ret) (fun fin s'=>∃ v,fin = .done (.ret v)∧∃ (T:String) (r:Value),s'.TypeIs v T∧typeLookup (.type T) "__next__" = pure (some r)∧Q v s') E s:=fun L slots h0 hL hN=>by
  refine wpAny_bind (wpAny_setEpoch_of ho hd hf ?_)
  have hI:It (s.heap.push { cls:=.type "set_iterator",data:=.fields #[rawInt 0,rawInt 0,.ref a,rawInt (es.size:Int),rawInt (ep:Int)] }) s.heap.objs.size a (rawInt (slots 0:Int)) 0 es.size ep:=⟨_,Heap.get?_push_size _ rfl,rfl,by rw [h0];rfl⟩
  obtain ⟨q1,q2⟩:=hlist L hL
  refine wpAny_bind (wpAny_newObj_type (wpAny_pure ⟨_,rfl, "set_iterator",_,⟨_,Heap.get?_push_size _ rfl,rfl⟩,slot_next.lookup,?_⟩))
  have z:=h (s.heap.push { cls:=.type "set_iterator",data:=.fields #[rawInt 0,rawInt 0,.ref a,rawInt (es.size:Int),rawInt (ep:Int)] }) s.drawn s.heap.objs.size [s.heap.objs.size,a] (L.map (·.2)) _ (fun i h=>h.get? a=some o∧It h s.heap.objs.size a (rawInt (slots i:Int)) i es.size ep) (fun A' hA'=>by
     rw [List.length_map]
     exact walk_int hA' (Nat.ne_of_lt hlt) hd hf hN) ⟨Heap.get?_push_of_some _ ho,hI⟩ (fun b o e=>Heap.get?_push_of_some _ e) (Nat.le_refl _) (fun b hb=>by
     rcases List.mem_cons.mp hb with rfl | hb
     · exact .inr (Nat.le_refl _)
     · exact .inl (List.mem_singleton.mp hb)) q1 q2
  exact z
 have hdrw:∀ (Q':Bool->Shared->Prop),Q' (!byT w&&(!t.plain&&decide (es.size>1))) s->wpAny (model prog w) A.in1 (setDrawn a) Q' E s:=fun Q' q=>by
  unfold setDrawn
  refine wpAny_bind (wpAny_setState_of ho hd hf ?_)
  dsimp only
  exact wpAny_bind (byText_ok (wpAny_pure q))
 refine wpAny_bind (hdrw _ ?_)
 by_cases hby:byT w=true
 ·rw [hby]
  simp only [Bool.not_true,Bool.false_and,Bool.false_eq_true,↓reduceIte]
  refine wpAny_bind (wpAny_pure ?_)
  refine fin (pickOrder (w.params.setOrder a ep) es).toList (fun _=>0) rfl (pick_perm _ _) fun i s' A' E' Q' ho' hi q=>?_
  unfold setNext
  refine wpAny_bind (wpAny_setState_of ho' hd hf ?_)
  dsimp only
  refine wpAny_bind (byText_ok ?_)
  rw [hby,if_pos rfl,bne_self_eq_false,if_neg Bool.false_ne_true]
  unfold setWalk
  refine wpAny_bind (wpAny_bind (wpAny_setState_of ho' hd hf ?_))
  dsimp only
  refine wpAny_bind (byText_ok ?_)
  rw [hby,if_pos rfl]
  refine wpAny_bind (wpAny_askSetting (wpAny_pure (wpAny_pure ?_)))
  rw [Array.getElem?_toList] at q
  exact q
 ·have hbf:byT w=false:=Bool.eq_false_iff.mpr hby
  have hld:t.led=true:=hl.resolve_left hby
  by_cases h1:es.size<=1
  ·have hnot:(!byT w&&(!t.plain&&decide (es.size>1)))=false:=by rw [decide_eq_false (by omega)];simp
   rw [hnot]
   simp only [Bool.false_eq_true,↓reduceIte]
   refine wpAny_bind (wpAny_pure ?_)
   have hN:∀ (slot i:Nat) (s':Shared) (A':Around) (E':Value->Shared->Prop) (Q':Option (Value×Nat)->Shared->Prop),s'.heap.get? a=some o ->
       Q' (match es[SetTable.below t.place slot]?,t.place[SetTable.below t.place slot]? with | some (_,x),some j=>some (x,j+1) | _,_=>none) s'->wpAny (model prog w) A' (setNext a slot i ep) Q' E' s':=fun slot i s' A' E' Q' ho' q=>by
     unfold setNext
     refine wpAny_bind (wpAny_setState_of ho' hd hf ?_)
     dsimp only
     refine wpAny_bind (byText_ok ?_)
     rw [hbf,if_neg Bool.false_ne_true]
     have hdr:(!t.plain&&decide (es.size>1))=false:=by rw [decide_eq_false (by omega)];simp
     show wpAny _ _ (if (!t.plain&&decide (es.size>1))=true then _ else _) _ _ s'
     rw [hdr,if_neg Bool.false_ne_true]
     refine wpAny_bind (m:=if (!t.led && !es.isEmpty)=true then unsupported "set:maker-not-led" else pure ()) ?_
     rw [hld]
     simp only [Bool.not_true,Bool.false_and,Bool.false_eq_true,↓reduceIte]
     exact wpAny_pure (wpAny_pure q)
   by_cases h0:es.size=0
   · have ee:es = #[]:=Array.eq_empty_of_size_eq_zero h0
     refine fin [] (fun _=>0) rfl (by rw [ee]) fun i s' A' E' Q' ho' hi q=>hN 0 i s' A' E' Q' ho' ?_
     rw [ee,Array.getElem?_eq_none (by simp)]
     exact q
   · obtain ⟨e0,he0⟩:∃ e0,es = #[e0]:=by
       obtain ⟨l⟩:=es
       match l,h0,h1 with
       | [e0],_,_=>exact ⟨e0,rfl⟩
       | [],h,_=>exact absurd rfl h
       | _::_::_,_,h=>simp at h
     obtain ⟨j,hj⟩:∃ j,t.place = #[j]:=by
       rw [he0] at hps
       cases hpl:t.place with
       | mk l =>
         rw [hpl] at hps
         match l,hps with
         | [j],_=>exact ⟨j,rfl⟩
     refine fin [e0] (fun i=>if i=0 then 0 else j+1) rfl (by rw [he0]) fun i s' A' E' Q' ho' hi q=>hN _ i s' A' E' Q' ho' ?_
     have b0:SetTable.below #[j] 0=0:=by
       simp [SetTable.below,SetTable.below.go]
     have b1:SetTable.below #[j] (j+1)=1:=by
       simp [SetTable.below,SetTable.below.go]
     match i,hi with
     | 0,_ =>
       rw [if_pos rfl,hj,b0,he0]
       exact q
     | 1,_ =>
       rw [if_neg (by decide),hj,b1,he0]
       exact q
  ·have hpl:t.plain=false:=hp.resolve_left (by omega)
   have hyes:(!byT w&&(!t.plain&&decide (es.size>1)))=true:=by rw [hbf,hpl,decide_eq_true (by omega)];rfl
   rw [hyes,if_pos rfl]
   have hr:(List.range es.size).length=es.size:=List.length_range
   refine wpAny_bind (m:=drawOrder es.size (List.range es.size)) ?_
   have dr:=draw_ok (prog:=prog) (w:=w) (A:=A.in1) (E:=E) (List.range es.size) s
   rw [hr] at dr
   refine dr _ fun ps d hpp=>?_
   have hpl:ps.length=es.size:=by rw [hpp.length_eq,hr]
   have hs:sizeLine=16777216:=sizeLine_eq
   have sb:scanBound=4096:=rfl
   refine wpAny_bind (wpAny_newTuple ?_ (by rw [List.length_map];omega))
   generalize hot:({ cls:=.type "tuple",data:=.seq (ps.map fun j:Nat=>rawInt (j:Int)).toArray }:Obj)=ot
   have hg:(s.heap.push ot).get? s.heap.objs.size=some ot:=Heap.get?_push_size _ (by rw [<- hot];rfl)
   have ho2:(s.heap.push ot).get? a=some o:=Heap.get?_push_of_some _ ho
   refine wpAny_bind (wpAny_setEpoch_of (s:={ s with heap:=s.heap.push ot,drawn:=d }) ho2 hd hf ?_)
   refine wpAny_bind (wpAny_newObj_type (wpAny_pure ⟨_,rfl, "set_iterator",_,⟨_,Heap.get?_push_size _ rfl,rfl⟩,slot_next.lookup,?_⟩))
   have hsz:(s.heap.push ot).objs.size=s.heap.objs.size+1:=Heap.size_push _ _
   have hfm:(ps.map fun p=>es.getD p (0,Value.none)).Perm es.toList:=by
     have e1:(List.range es.size).map (fun p=>es.getD p (0,Value.none))=es.toList:=by
       apply List.ext_getElem
       · simp
       · intro i g1 g2
         have g3:i<es.size:=by simpa using g1
         simp [Array.getD_eq_getD_getElem?,g3]
     exact (hpp.map _).trans (by rw [e1])
   obtain ⟨q1,q2⟩:=hlist _ hfm
   rw [List.map_map,List.map_map] at q1
   rw [List.map_map] at q2
   have hps':∀ p∈ps,p<es.size:=fun p hp=>List.mem_range.mp (hpp.mem_iff.mp hp)
   have hgo:∀ (o2:Obj),o2 = { cls:=.type "set_iterator",data:=.fields #[.ref s.heap.objs.size,rawInt 0,.ref a,rawInt (es.size:Int),rawInt (ep:Int)] }->Q (.ref (s.heap.objs.size+1)) { s with heap:=(s.heap.push ot).push o2,drawn:=d }:=fun o2 ho2'=>by
    refine h ((s.heap.push ot).push o2) d (s.heap.objs.size+1) [s.heap.objs.size+1,a,s.heap.objs.size] (ps.map fun p=>(es.getD p (0,Value.none)).2) _ (fun i h=>h.get? a=some o∧h.get? s.heap.objs.size=some ot∧It h (s.heap.objs.size+1) a (.ref s.heap.objs.size) i es.size ep) (fun A' hA'=>by
        rw [List.length_map]
        exact walk_ref (ot:=ot) (nt:=0) hA' (Nat.ne_of_lt (Nat.lt_succ_of_lt hlt)) (Nat.ne_of_lt (Nat.lt_succ_self _)) hd hf (by rw [<- hot]) hps') ⟨Heap.get?_push_of_some _ ho2,Heap.get?_push_of_some _ hg,?_⟩ (fun b o e=>Heap.get?_push_of_some _ (Heap.get?_push_of_some _ e)) (Nat.le_succ _) (fun b hb=>?_) q1 q2
    · rw [<- hsz]
      exact ⟨o2,Heap.get?_push_size _ (by rw [ho2'];rfl),by rw [ho2'],by rw [ho2'];rfl⟩
    · rcases List.mem_cons.mp hb with rfl | hb
      · exact .inr (Nat.le_succ _)
      · rcases List.mem_cons.mp hb with rfl | hb
        · exact .inl rfl
        · exact .inr (Nat.le_of_eq (List.mem_singleton.mp hb).symm)
   have z:=hgo _ rfl
   rw [<- hsz] at z
   exact z
end
end SS
namespace SS
open PySem PyProof.Rows
theorem items_eq {xs:List Value}{acc:Array Value}(h:ItemsOf (fun i v=>xs[i]?=some v) acc xs.length):acc.toList=xs:=by
 apply List.ext_getElem?
 intro i
 rw [Array.getElem?_toList]
 cases e:acc[i]? with
 | some v=>exact (h.2 i v e).symm
 | none =>
  have:acc.size<=i:=by
   rcases Nat.lt_or_ge i acc.size with z | z
   ·rw [Array.getElem?_eq_getElem z] at e;cases e
   ·exact z
  rw [List.getElem?_eq_none (by rw [<- h.1];exact this)]
section
variable {prog:Program}{w:World}{A:Around}{E:Value->Shared->Prop}{s:Shared}
theorem hint_ok {a:Addr}{ms:List Str}{Q:Bool->Shared->Prop}(hS:Is w s.heap a ms)(h:Q false s):wpAny (model prog w) A (Builtin.List.listLengthHint (.ref a)) Q E s:=by
 unfold Builtin.List.listLengthHint
 refine wpAny_bind (wpAny_specialOf hS.ty F.slot_set_len.lookup ?_)
 generalize hid:("set.__len__" : String)=id0
 wp_delta
 rw [show splitId id0=some ("set", "__len__") from by subst hid;decide +kernel]
 subst hid
 refine wpAny_bind (wpAny_isInstance (T := "set") (b:=true) hS.ty sub_set_self ?_)
 refine wpAny_ite_split (fun hab=>absurd hab (by decide)) (fun _=>?_)
 refine wpAny_ite_split (fun _=>?_) (fun hab=>absurd (by decide +kernel) hab)
 refine wpAny_bind (wpAny_typeOf hS.ty ?_)
 exact wpAny_pure h
theorem extend_ok {a:Addr}{ms:List Str}{R:Result->Shared->Prop}(hh:A.handled=none)(hS:Is w s.heap a ms)(hz:ms.length<=sizeLine)(S:Addr)(res:Value)(h1:S≠a)(hSl:s.heap.get? S=some { cls:=.type "list",data:=.seq #[] })
  (hR:∀ s' acc' c' ss,(∀ b o,b≠S->s.heap.get? b=some o->s'.heap.get? b=some o)->s'.gens=s.gens->s'.os=s.os->s'.heap.get? S=some { cls:=.type "list",dict:=none,data:=.seq acc' c',slots:=#[] }->StrsAre acc'.toList ss->ss.Perm ms->R (.ok (.ret res)) s') :
  wpAny (model prog w) A.in1 (Builtin.List.listExtendWith (.ref S) (.ref a) res)
   (fun fin s'=>match fin with | .done f=>R (.ok f) s' | .again c'=>c'.quiet=true∧codeAny (model prog w) A c' R s') (fun e s'=>R (.error e) s') s:=by
 unfold Builtin.List.listExtendWith
 refine wpAny_bind (wpAny_typeOf hS.ty ?_)
 have g1:Builtin.List.listSameRef (.ref S) (.ref a)=false:=by simp [Builtin.List.listSameRef,h1]
 have g2:(Value.type "set" == Value.type "list")=false:=by decide
 have g3:(Value.type "set" == Value.type "tuple")=false:=by decide
 simp only [g1,g2,g3,Bool.or_false,Bool.false_eq_true,if_false]
 refine wpAny_bind (iter_ok (A:=A.in1) hS fun h2 d I fp xs ss St W st0 kp hIs hfp hss hpm=>?_)
 have hlt:=Heap.lt_size hSl
 have hSI:S≠I:=Nat.ne_of_lt (Nat.lt_of_lt_of_le hlt hIs)
 have hSf:S∉fp:=fun z=>by
  rcases hfp S z with e | e
  ·exact h1 e
  ·exact absurd hlt (Nat.not_lt.mpr e)
 have hS2:Is w h2 a ms:=hS.at fun o e=>kp a o e
 refine wpAny_bind (wpAny_holding (hint_ok (s:={ s with heap:=h2,drawn:=d }) hS2 ?_))
 have WS:=(W A.in1 hh).toS
 have hxl:xs.length=ms.length:=by rw [hss.length,hpm.length_eq]
 have last:∀ (h0:Heap) (c0:Nat),(∀ b o,b≠S->h2.get? b=some o->h0.get? b=some o)->h0.get? S=some { cls:=.type "list",data:=.seq #[] c0 } ->
   wpAny (model prog w) A.in1 (again (.builtin "list.extend.loop" ⟨[.ref S,.ref I,res],[]⟩))
    (fun fin s'=>match fin with | .done f=>R (.ok f) s' | .again c'=>c'.quiet=true∧codeAny (model prog w) A c' R s') (fun e s'=>R (.error e) s') { s with heap:=h0,drawn:=d }:=fun h0 c0 hk0 hS0=>by
  refine wpAny_pure ⟨plainId_quiet F.plain_extend_loop _,codeAny_extend_loopS WS (by omega) S hSf res xs.length 0 _ #[] c0 rfl (Nat.zero_le _) ?_ hS0 (ItemsOf.nil _) fun s' acc' c' hm hS' hacc=>?_⟩
  ·exact (W A.in1 hh).frame 0 h2 h0 st0 fun b hb o e=>hk0 b o (fun z=>hSf (z▸hb)) e
  ·refine hR s' acc' c' ss (fun b o hb e=>?_) hm.gens hm.os hS' (by rw [items_eq hacc];exact hss) hpm
   by_cases hbI:b=I
   ·subst hbI
    exact absurd (Heap.lt_size e) (Nat.not_lt.mpr hIs)
   ·exact hm.heap b o (by simp [hb,hbI]) (hk0 b o hb (kp b o e))
 refine wpAny_ite_split (fun _=>?_) (fun hab=>absurd (by decide +kernel) hab)
 refine wpAny_bind (wpAny_rule ?_)
 have hSl2:h2.get? S=some { cls:=.type "list",data:=.seq #[] }:=kp S _ hSl
 refine wpAny_bind (m:=((do updateSeq S (fun z=>z.push .none);updateSeq S (fun z=>z.pop)):Sem Unit)) (wpAny_bind (wpAny_updateSeq (s:={ s with heap:=h2,drawn:=d }) hSl2 rfl ?_))
 have k1:=Heap.get?_update_self (Obj.mapSeq (fun z=>z.push .none)) hSl2 rfl
 refine wpAny_updateSeq k1 rfl ?_
 have k2:=Heap.get?_update_self (Obj.mapSeq (fun z=>z.pop)) k1 rfl
 exact last _ _ (fun b o hb e=>(Heap.get?_update_other _ _ (Ne.symm hb)).trans ((Heap.get?_update_other _ _ (Ne.symm hb)).trans e)) k2
theorem collect_ok {a:Addr}{ms:List Str}{Q:List Value->Shared->Prop}(hh:A.handled=none)(hS:Is w s.heap a ms)(hz:ms.length<=sizeLine)
  (hQ:∀ s' vs ss,(∀ b o,s.heap.get? b=some o->s'.heap.get? b=some o)->s'.gens=s.gens->s'.os=s.os->StrsAre vs ss->ss.Perm ms->Q vs s'):wpAny (model prog w) A (collect (.ref a)) Q E s:=by
 have hlt:=Heap.lt_size hS.there.choose_spec
 unfold collect
 refine wpAny_bind (wpAny_runValue (codeAny_builtin F.entry_proto_collect ?_))
 rw [Around.under_plainId F.plain_proto_collect]
 refine wpAny_bind (m:=newList []) (wpAny_newObj_type (wpAny_pure ⟨plainId_quiet F.plain_list_iadd _,codeAny_builtin F.entry_list_iadd ?_⟩))
 rw [Around.under_plainId F.plain_list_iadd]
 have hSl:(s.heap.push { cls:=.type "list",data:=.seq #[] }).get? s.heap.objs.size=some { cls:=.type "list",data:=.seq #[] }:=Heap.get?_push_size _ rfl
 have go:∀ R:Result->Shared->Prop,(∀ s' acc' c' ss,(∀ b o,s.heap.get? b=some o->s'.heap.get? b=some o)->s'.gens=s.gens->s'.os=s.os->s'.heap.get? s.heap.objs.size=some { cls:=.type "list",dict:=none,data:=.seq acc' c',slots:=#[] }->StrsAre acc'.toList ss->ss.Perm ms->R (.ok (.ret (.ref s.heap.objs.size))) s') ->
   wpAny (model prog w) A.in1 (Builtin.List.listExtendWith (.ref s.heap.objs.size) (.ref a) (.ref s.heap.objs.size))
    (fun fin s'=>match fin with | .done f=>R (.ok f) s' | .again c'=>c'.quiet=true∧codeAny (model prog w) A c' R s') (fun e s'=>R (.error e) s') { s with heap:=s.heap.push { cls:=.type "list",data:=.seq #[] } }:=fun R hR =>
  extend_ok (A:=A) (s:={ s with heap:=s.heap.push { cls:=.type "list",data:=.seq #[] } }) hh (hS.at fun o e=>Heap.get?_push_of_some _ e) hz s.heap.objs.size (.ref s.heap.objs.size) (Nat.ne_of_gt hlt) hSl
   fun s' acc' c' ss kp g1 g2 e1 e2 e3=>hR s' acc' c' ss (fun b o e=>kp b o (Nat.ne_of_lt (Heap.lt_size e)) (Heap.get?_push_of_some _ e)) g1 g2 e1 e2 e3
 refine go (fun r s'=>match r with
  | .ok (.ret v)=>wpAny (model prog w) A (match v with
   | .ref a=>do
    match (<- load a).data with
    | .seq xs _=>pure xs.toList
    | _=>unsupported "internal:collect"
   | _=>unsupported "internal:collect") Q E s'
  | .ok _=>False
  | .error e=>E e s') fun s' acc' c' ss kp g1 g2 hS' e2 e3=>?_
 refine wpAny_bind (m:=load s.heap.objs.size) (wpAny_load hS' (wpAny_pure ?_))
 exact hQ s' acc'.toList ss kp g1 g2 e2 e3
theorem code_new1 (a:Value){Q₁:Value->Shared->Prop}(h:Q₁ (.ref s.heap.objs.size) { s with heap:=s.heap.push (freshO w) }):codeAny (model prog w) A (.call (.builtin "set.__new__") ⟨[.type "set",a],[]⟩) (wants Q₁ E) s:=by
 refine codeAny_of_tree (show wpAny _ A.in1 (do checkBuiltinCall "set.__new__" ⟨[.type "set",a],[]⟩;again (.builtin "set.__new__" ⟨[.type "set",a],[]⟩)) _ _ s from ?_)
 refine wpAny_bind (wpAny_of_eq (F.newCall_set_1 a) (wpAny_pure ⟨plainId_quiet F.plain_set_new _,codeAny_builtin F.entry_set_new ?_⟩))
 rw [Around.under_plainId F.plain_set_new _]
 unfold Builtin.«set.__new__» Builtin.Frozenset.newClass
 have hsub:=sub_set_self
 obtain ⟨hp,g,d,tk,os⟩:=s
 dsimp only
 wp_walk
 refine wpAny_askSetting (wpAny_pure ?_)
 dsimp only
 simp only [newObj]
 refine wpAny_bind (wpAny_alloc (wpAny_pure (wpAny_pure h)))
end
end SS
namespace L2
open PySem PySem.Spec PyProof.Rows
namespace SE
def Of (w:World)(h:Heap)(D:Addr)(ls:List (List Nat))(i:Nat):Prop:=∃ ms,SS.Is w h D ms∧(∀ x,x∈ms↔x∈(ls.take i).map tx)∧ms.length<=i
theorem Of.at {w:World}{h h':Heap}{D:Addr}{ls:List (List Nat)}{i:Nat}(x:Of w h D ls i)(k:∀ o,h.get? D=some o->h'.get? D=some o):Of w h' D ls i:=let ⟨ms,a,b⟩:=x;⟨ms,a.at k,b⟩
section
variable {prog:Program}{w:World}{A:Around}{R:Result->Shared->Prop}{J:Addr}{fp wr:List Addr}{G:Array GenState->Array GenState->Prop}{n:Nat}{P:Nat->Value->Prop}{St:Nat->Shared->Prop}
theorem loopI (W:WalksS prog w A.in1 J fp wr G n P St){D:Addr}(hD:D∉fp)(ls:List (List Nat))(hv:∀ i v,P i v->∃ t,v=Value.str (tx (ls.getD i [])) t)(hn:n+1<scanBound)(hnl:n<=ls.length) :
  ∀ (k i:Nat) (s:Shared),n-i=k->i<=n->St i s->Of w s.heap D ls i ->
   (∀ s',Moved (D::wr) G s s'->Of w s'.heap D ls n->R (.ok (.ret .none)) s')->codeAny (model prog w) A (.builtin "set.update.loop" ⟨[.ref D,.ref J],[]⟩) R s:=by
 have hDw:D∉wr:=fun z=>hD (W.sub _ z)
 have up:∀ b∈wr,b∈D::wr:=fun b hb=>.tail _ hb
 intro k
 induction k with
 | zero =>
  intro i s hk hi st hs hR
  obtain rfl:i=n:=by omega
  refine codeAny_builtin PyProof.Rows.F.entry_set_update_loop ?_
  rw [Around.under_plainId PyProof.Rows.F.plain_set_update_loop]
  refine wpAny_bind (m:=pyNext (.ref J)) (W.done s _ _ st fun s2 mv=>?_)
  exact (show wpAny _ A.in1 (ret Value.none) _ _ s2 from wpAny_pure (hR s2 (mv.mono up) (hs.at fun o e=>mv.heap D o hDw e)))
 | succ k ih =>
  intro i s hk hi st hs hR
  have hlt:i<n:=by omega
  refine codeAny_builtin PyProof.Rows.F.entry_set_update_loop ?_
  rw [Around.under_plainId PyProof.Rows.F.plain_set_update_loop]
  refine wpAny_bind (m:=pyNext (.ref J)) (W.item i s _ _ hlt st fun v s2 pv st2 mv=>?_)
  obtain ⟨t,rfl⟩:=hv i v pv
  have hs2:=hs.at fun o e=>mv.heap D o hDw e
  refine wpAny_bind (m:=holding [Value.str (tx (ls.getD i [])) t] (setAdd D (.str (tx (ls.getD i [])) t))) (wpAny_holding ?_)
  unfold setAdd
  refine wpAny_holding (wpAny_bind ((PySem.strKind prog w).pyHash (k:=tx (ls.getD i [])) (strKind_is _ _ _ _) ?_))
  obtain ⟨ms,hi1,hi2,hi3⟩:=hs2
  refine SS.add_ok (s:={ s2 with toks:=s2.toks+1 }) hi1 (by omega) fun h3 ms3 sb i3 m3 l3=>?_
  have x4:Of w h3 D ls (i+1):=by
   refine ⟨ms3,i3,fun x=>?_,by omega⟩
   have e:ls.take (i+1)=ls.take i++[ls.getD i []]:=by
    rw [List.take_add_one,List.getD_eq_getElem?_getD,List.getElem?_eq_getElem (by omega)]
    rfl
   rw [m3,hi2,e,List.map_append,List.mem_append,List.map_cons,List.map_nil,List.mem_singleton]
  refine wpAny_pure ⟨plainId_quiet PyProof.Rows.F.plain_set_update_loop _,ih (i+1) _ (by omega) hlt (W.frame _ s2 _ _ st2 (Nat.le_succ _) fun b hb o e=>(sb.2 b fun z=>hD (z▸hb)).trans e) x4 fun s5 m5 x5=>?_⟩
  refine hR s5 (Moved.trans W.gtrans ((mv.mono up).then_heap (Nat.le_succ _) fun b o hb e=>(sb.2 b fun z=>hb (z▸.head _)).trans e) m5) x5
variable {E:Value->Shared->Prop}{s:Shared}
theorem call_ofI {l:Addr}{its:Array Value}{ls:List (List Nat)}{Q:Value->Shared->Prop}(hh:A.handled=none)(hl:s.heap.IsList l its)(hv:∀ i v,its[i]?=some v->∃ t,v=Value.str (tx (ls.getD i [])) t)(hn:its.size+1<scanBound)(hnl:its.size<=ls.length)
  (h:∀ (h':Heap) (tk:Nat),Of w h' s.heap.objs.size ls its.size->(∀ b o,s.heap.get? b=some o->h'.get? b=some o)->Q (.ref s.heap.objs.size) { s with heap:=h',toks:=tk }) :
  wpAny (model prog w) A (call (.type "set") [.ref l]) Q E s:=by
 obtain ⟨mc,mt,f0⟩:=F.called_set.mro
 have f1:=F.called_set.made;have f2:=F.called_set.sub;have f3:=F.called_set.notType;have f4:=F.called_set.canCreate;have f5:=F.typeCall_set_1 (.ref l)
 refine wpAny_call (codeAny_of_tree (show wpAny _ _ (callAny (.type "set") _) _ _ _ from wpAny_pure ⟨Code.quiet_builtin _ (by decide +kernel),codeAny_builtin F.entry_type_call ?_⟩))
 rw [Around.under_plain (weight_type_call_type "set" [.ref l] []) rfl]
 repeat (any_goals (first | wp_step | assumption))
 refine codeAny_mono (SS.code_new1 (.ref l) (E:=E) (Q₁:=fun ob s1=>ob = .ref s.heap.objs.size∧s1 = { s with heap:=s.heap.push (SS.freshO w) }) ⟨rfl,rfl⟩) fun r s1 hr=>?_
 cases r with
 | error e=>exact hr
 | ok fl =>
  cases fl with
  | ret ob =>
   obtain ⟨rfl,rfl⟩:=hr
   generalize hob:SS.freshO w=ob
   have hD:(s.heap.push ob).get? s.heap.objs.size=some ob:=Heap.get?_push_size _ (by rw [<- hob];rfl)
   have hT:Shared.TypeIs { s with heap:=s.heap.push ob } (.ref s.heap.objs.size) "set" := ⟨_,hD,by rw [<- hob];rfl⟩
   have f6:=F.called_set.init.lookup;have f7:=F.called_set.init.bind (.ref s.heap.objs.size)
   repeat (any_goals (first | wp_step | assumption))
   refine codeAny_mono (codeAny_call_builtin (R:=wants (fun r s2=>r = .none∧∃ h' tk,s2 = { s with heap:=h',toks:=tk }∧Of w h' s.heap.objs.size ls its.size∧∀ b o,s.heap.get? b=some o->h'.get? b=some o) E)
    F.called_set.init.plain F.entry_set_init (check_set_init_1 hT ?_)) fun r2 s2 hr2=>?_
   ·obtain ⟨⟨oc,od,odt,osl⟩,hol,hcl,nl,hdl⟩:=id hl
    simp only at hcl hdl
    subst hcl hdl
    have hol':(s.heap.push ob).get? l=some { cls:=.type "list",dict:=od,data:=.seq its nl,slots:=osl }:=Heap.get?_push_of_some _ hol
    have f8:=F.sub_list_set;have f9:=F.sub_list_frozenset
    have f10:(Value.type "list" == Value.type "dict")=false:=by decide
    have hl1:(s.heap.push ob).IsList l its:=⟨_,hol',rfl,nl,rfl⟩
    subst hob
    unfold Builtin.«set.__init__» noKeywords Builtin.Frozenset.updateFrom
    generalize hPI:pyIter=PI
    wp_walk
    subst hPI
    refine wpAny_pyIter_list hl1 ?_
    refine wpAny_bind (wpAny_runValue ?_)
    have hlt:l<s.heap.objs.size:=Heap.lt_size hol
    have hh3:A.in1.in1.in1.handled=none:=by simp [hh]
    have hsz:(s.heap.push (SS.freshO w)).objs.size=s.heap.objs.size+1:=Heap.size_push _ _
    have hne:l≠(s.heap.push (SS.freshO w)).objs.size:=by rw [hsz];exact Nat.ne_of_lt (Nat.lt_succ_of_lt hlt)
    have hfp:s.heap.objs.size∉[(s.heap.push (SS.freshO w)).objs.size,l]:=by
     rw [hsz]
     intro z
     rcases List.mem_cons.mp z with e | e
     ·exact Nat.ne_of_lt (Nat.lt_succ_self _) e
     ·exact Nat.ne_of_gt hlt (List.mem_singleton.mp e)
    refine loopI ((Walks.list hh3 _ l hne its).toS) (D:=s.heap.objs.size) hfp ls hv hn hnl (its.size-0) 0 _ (by omega) (Nat.zero_le _) ⟨⟨_,Heap.get?_push_size _ rfl,rfl,rfl⟩,hl1.push _⟩ ?_ fun s3 mv x3=>?_
    ·have hg:((s.heap.push (SS.freshO w)).push { cls:=.type "list_iterator",data:=.fields #[.ref l,.int 0 0] }).get? s.heap.objs.size=some (SS.freshO w):=Heap.get?_push_of_some _ hD
     exact ⟨[],(SS.Is.fresh s.heap).at fun o e=>Heap.get?_push_of_some _ e,fun x=>by simp,Nat.zero_le _⟩
    ·obtain ⟨h3,g3,d3,tk3,os3⟩:=s3
     obtain rfl:g3=s.gens:=mv.gens
     obtain rfl:d3=s.drawn:=mv.drawn
     obtain rfl:os3=s.os:=mv.os
     refine wpAny_pure (show wpAny _ _ (ret Value.none) _ _ _ from wpAny_pure ⟨rfl,h3,tk3,rfl,x3,fun c o e=>?_⟩)
     have hc:=Heap.lt_size e
     exact mv.heap c o (show c∉[s.heap.objs.size,(s.heap.push (SS.freshO w)).objs.size] by
      rw [hsz]
      intro z
      rcases List.mem_cons.mp z with e | e
      ·exact Nat.ne_of_lt hc e
      ·exact Nat.ne_of_lt (Nat.lt_succ_of_lt hc) (List.mem_singleton.mp e)) (Heap.get?_push_of_some _ (Heap.get?_push_of_some _ e))
   ·cases r2 with
    | error e=>exact hr2
    | ok fl2 =>
     cases fl2 with
     | ret r =>
      obtain ⟨rfl,h3,tk,rfl,x3,k3⟩:=hr2
      repeat (any_goals (first | wp_step | assumption))
      exact h _ _ x3 k3
     | _=>exact hr2.elim
  | _=>exact hr.elim
end
end SE
def SetI (w:World)(D:Addr)(ms:List (List Nat)):HO:=.ext fun h=>SS.Is w h D (ms.map tx)
theorem mem_tx {ls:List (List Nat)}{x:Str}:x∈ls.map tx↔x.cps.toList∈ls:=by
 rw [List.mem_map]
 constructor
 ·rintro ⟨l,h,rfl⟩
  rw [tx_cps]
  exact h
 ·intro h
  exact ⟨_,h,tx_eta x⟩
theorem is_perm {w:World}{h:Heap}{D:Addr}{ms ms':List Str}(x:SS.Is w h D ms)(p:ms.Perm ms'):SS.Is w h D ms':=by
 obtain ⟨o,es,ep,t,ho,hex,hd,hel,hnd,r⟩:=x
 exact ⟨o,es,ep,t,ho,hex,hd,⟨hel.1,hel.2.trans p⟩,p.nodup_iff.mp hnd,r⟩
theorem is_nodup {w:World}{h:Heap}{D:Addr}{ms:List Str}(x:SS.Is w h D ms):ms.Nodup:=let ⟨_,_,_,_,_,_,_,_,n,_⟩:=x;n
theorem nodup_tx {ls:List (List Nat)}(h:ls.Nodup):(ls.map tx).Nodup:=by
 refine List.pairwise_map.mpr (h.imp fun hne e=>hne (tx_inj e))
section
variable {X:Cx}
theorem setI_ok {pins:List (Addr×Obj)}{σ:St}{H:Hp}{s:Shared}{D:Addr}{ms:List (List Nat)}(I:Inv X pins σ H s)(h:H D=some (SetI X.w D ms)):SS.Is X.w s.heap D (ms.map tx):=by
 obtain ⟨x,_⟩:=(show ObjOk X.prog X.w H s.heap D (SetI X.w D ms) from I.hok D _ h)
 exact x
theorem call_setI (hc:X.calm=true):CallR X (.type "set") (fun xs H Q=>∃ (p:Addr) (ls:List (List Nat)),xs=[.ref p]∧SqL X.K H p (ls.map T)∧ls.length+1<4096∧∀ D,H D=none->Q (.ref D) (upd H D (SetI X.w D (uniq ls)))):=by
 intro pins s σ H xs us Q I r h
 obtain ⟨p,ls,rfl,hq,hz,q⟩:=h
 obtain ⟨u,rfl,ru⟩:=vals1 r
 cases ru
 obtain ⟨its,rv,pl,_⟩:=I.list hq
 have hlen:=rv.length
 rw [List.length_map] at hlen
 refine SE.call_ofI (I.ok.hd hc) pl.isList (ls:=ls) (fun i v e=>str_at rv (by simpa using e)) (by rw [List.size_toArray];unfold scanBound;omega) (by rw [List.size_toArray];omega) fun h' tk x k=>?_
 obtain ⟨ms,i1,i2,_⟩:=x
 have x:SS.Is X.w h' s.heap.objs.size ((uniq ls).map tx):=by
  refine is_perm i1 ((List.perm_ext_iff_of_nodup (is_nodup i1) (nodup_tx (uniq_nodup ls))).mpr fun y=>?_)
  rw [i2,mem_tx,mem_tx,uniq_mem,List.size_toArray,<- hlen,List.take_length]
 have hf:H s.heap.objs.size=none:=I.hok.fresh (Nat.le_refl _)
 refine ⟨.ref s.heap.objs.size,_,I.laid (t':=tk) k (Nat.le_refl _) (o:=SetI X.w s.heap.objs.size (uniq ls)) ⟨x,x.there,fun h1 h2 x1 kk=>x1.at kk⟩,rfl,q _ hf⟩
theorem op_orI:OpR X (binaryOp .BitOr) (fun x y H Q=>∃ (a b:Addr) (ls ms:List (List Nat)),x = .ref a∧y = .ref b∧a≠b∧H a=some (SetI X.w a ls)∧H b=some (SetI X.w b ms)∧ls≠[]∧ls.length+ms.length<=128 ∧
  ∀ (D:Addr) (qs:List (List Nat)),H D=none->qs.Nodup->qs.length<=ls.length+ms.length->(∀ z,z∈qs↔z∈ls∨z∈ms)->Q (.ref D) (upd H D (SetI X.w D qs))):=by
 intro pins s σ H x y v u Q I rx ry h
 obtain ⟨a,b,ls,ms,rfl,rfl,hab,h1,h2,hne,hsz,q⟩:=h
 cases rx
 cases ry
 refine SS.or_ok hab (setI_ok I h1) (setI_ok I h2) (fun z=>hne (List.map_eq_nil_iff.mp z)) (by rw [List.length_map,List.length_map];exact hsz) fun h' ms' kp i hm hl=>?_
 have em:(ms'.map fun x=>x.cps.toList).map tx=ms':=by
  rw [List.map_map]
  conv=>rhs;rw [<- List.map_id ms']
  exact List.map_congr_left fun x _=>tx_eta x
 have hnd:(ms'.map fun x=>x.cps.toList).Nodup:=List.pairwise_map.mpr ((is_nodup i).imp fun {a b} hne e=>hne ((tx_eta a).symm.trans ((congrArg tx e).trans (tx_eta b))))
 have x:SS.Is X.w h' s.heap.objs.size ((ms'.map fun x=>x.cps.toList).map tx):=by rw [em];exact i
 refine ⟨.ref s.heap.objs.size,_,I.laid (t':=s.toks) kp (Nat.le_refl _) (o:=SetI X.w s.heap.objs.size (ms'.map fun x=>x.cps.toList)) ⟨x,x.there,fun h1 h2 x1 kk=>x1.at kk⟩,rfl,q _ _ (I.hok.fresh (Nat.le_refl _)) hnd (by rw [List.length_map];rw [List.length_map,List.length_map] at hl;exact hl) fun z=>?_⟩
 have e:=hm (tx z)
 rw [mem_tx,mem_tx,tx_cps] at e
 rw [<- e,<- em,mem_tx,tx_cps,em]
end
end L2
namespace L2
open PySem PySem.Spec PyProof.Rows
set_option genInjectivity false in
structure Reads (J:It)(H:Hp)(vs:List V):Prop where
 go:∀ i H',Same H H'->i<vs.length->J.go i H'
 yl:∀ i H' y H2,Same H H'->J.yld i H' y H2->H2=H'∧vs[i]?=some y
 st:∀ H',Same H H'->J.stop vs.length H'
theorem reads_list {K:PySem.W.Frag}{a:Addr}{H:Hp}{vs:List V}(h:SqL K H a vs):Reads (Itl K a) H vs :=
 ⟨fun i H' s hi=>⟨vs,vs[i],s.seq h,List.getElem?_eq_getElem hi⟩,fun i H' y H2 s ⟨e1,e2⟩=>⟨e1,e2 vs (s.seq h)⟩,fun H' s=>⟨vs,s.seq h,Nat.le_refl _⟩⟩
theorem tupOn {K:PySem.W.Frag}{H H':Hp}{p:Addr}{xs:List V}(s:Same H H')(h:SqT K H p xs):SqT K H' p xs:=by
 rcases h with (h | ⟨q,h⟩) | h
 ·exact .inl (.inl (s _ _ h))
 ·exact .inl (.inr ⟨q,s _ _ h⟩)
 ·exact .inr h
theorem reads_tup {K:PySem.W.Frag}{a:Addr}{H:Hp}{vs:List V}(h:SqT K H a vs):Reads (Itt K a) H vs :=
 ⟨fun i H' s hi=>⟨vs,vs[i],tupOn s h,List.getElem?_eq_getElem hi⟩,fun i H' y H2 s ⟨e1,e2⟩=>⟨e1,e2 vs (tupOn s h)⟩,fun H' s=>⟨vs,tupOn s h,Nat.le_refl _⟩⟩
theorem reads_text {l:List Nat}{H:Hp}:Reads (Itx l) H ((l.map fun c=>[c]).map T) :=
 ⟨fun i H' _ hi=>by (show i<l.length;simpa using hi),fun i H' y H2 _ ⟨e1,c,hc,e2⟩=>⟨e1,by rw [List.getElem?_map,List.getElem?_map,hc,e2];rfl⟩,fun H' _=>by show l.length<=_;simp⟩
theorem compG {J:It}{vs:List V}{te:TE}{σ:St}{H:Hp}{Q:VK}(f:V->V)(rd:Reads J H vs)(hn:vs.length<=sizeLine)
  (he:∀ x H',x∈vs->Same H H'->∀ N:V->Hp->Prop,(∀ H'',Same H' H''->N (f x) H'')->te (some x::σ) H' N)
  (hq:∀ D H',H D=none->Same H H'->H' D=some (.lst (vs.map f))->Q (.ref D) H'):compAt te σ Q J H:=by
 intro D hD
 refine ⟨fun i m ys H2=>m=vs.length-i∧i<=vs.length∧ys=(vs.take i).map f∧Same H H2∧H2 D=some (.lst ys),⟨vs.length,rfl,Nat.zero_le _,rfl,fun b o e=>?_,upd_same⟩,?_⟩
 ·rw [upd_ne (ne_of_none e hD)]
  exact e
 ·rintro i m ys H2 ⟨rfl,hi,rfl,hs,hd⟩
  by_cases hlt:i<vs.length
  ·have hx:vs[i]?=some vs[i]:=List.getElem?_eq_getElem hlt
   refine .inr ⟨rd.go i H2 hs hlt,by rw [List.length_map,List.length_take];omega,fun v H'=>v=f vs[i]∧Same H2 H',fun v H' ⟨ev,hs'⟩=>⟨hs' D _ hd,vs.length-(i+1),by omega,rfl,hlt,?app,fun b o e=>?kp,upd_same⟩,fun y H' hy=>?stp⟩
   case app =>
    rw [ev,List.take_add_one,hx,List.map_append]
    rfl
   case kp =>
    rw [upd_ne (ne_of_none e hD)]
    exact hs' b o (hs b o e)
   case stp =>
    obtain ⟨rfl,e2⟩:=rd.yl i H2 y H' hs hy
    have e4:y=vs[i]:=by rw [hx] at e2;exact (Option.some.inj e2).symm
    subst e4
    exact he _ _ (List.getElem_mem hlt) hs _ fun H'' h''=>⟨rfl,h''⟩
  ·have e:i=vs.length:=by omega
   subst e
   rw [List.take_length] at hd
   exact .inl ⟨rd.st H2 hs,hq D H2 hD hs hd⟩
theorem compFG {J:It}{vs:List V}{tc:TT}{te:TE}{σ:St}{H:Hp}{Q:VK}(p:V->Bool)(f:V->V)(rd:Reads J H vs)(hn:vs.length<=sizeLine)
  (ht:∀ x H',x∈vs->Same H H'->∀ N:Bool->Hp->Prop,(∀ H'',Same H' H''->N (p x) H'')->tc (some x::σ) H' N)
  (he:∀ x H',x∈vs->p x=true->Same H H'->∀ N:V->Hp->Prop,(∀ H'',Same H' H''->N (f x) H'')->te (some x::σ) H' N)
  (hq:∀ D H',H D=none->Same H H'->H' D=some (.lst ((vs.filter p).map f))->Q (.ref D) H'):compAtF tc te σ Q J H:=by
 intro D hD
 refine ⟨fun i m ys H2=>m=vs.length-i∧i<=vs.length∧ys=((vs.take i).filter p).map f∧Same H H2∧H2 D=some (.lst ys),⟨vs.length,rfl,Nat.zero_le _,rfl,fun b o e=>?_,upd_same⟩,?_⟩
 ·rw [upd_ne (ne_of_none e hD)]
  exact e
 ·rintro i m ys H2 ⟨rfl,hi,rfl,hs,hd⟩
  by_cases hlt:i<vs.length
  ·have hx:vs[i]?=some vs[i]:=List.getElem?_eq_getElem hlt
   refine .inr ⟨rd.go i H2 hs hlt,by have:=filter_take_len p vs i;rw [List.length_map];omega,fun v H'=>v=f vs[i]∧p vs[i]=true∧Same H2 H',fun v H' ⟨ev,hp,hs'⟩=>⟨hs' D _ hd,vs.length-(i+1),by omega,rfl,hlt,?app,fun b o e=>?kp,upd_same⟩,
    fun H'=>p vs[i]=false∧Same H2 H',fun H' ⟨hp,hs'⟩=>⟨vs.length-(i+1),by omega,rfl,hlt,?skp,fun b o e=>hs' b o (hs b o e),hs' D _ hd⟩,fun y H' hy=>?stp⟩
   case app =>
    rw [ev,take_filter p vs i _ hx,hp,List.map_append]
    rfl
   case kp =>
    rw [upd_ne (ne_of_none e hD)]
    exact hs' b o (hs b o e)
   case skp =>
    rw [take_filter p vs i _ hx,hp]
    simp
   case stp =>
    obtain ⟨rfl,e2⟩:=rd.yl i H2 y H' hs hy
    have e4:y=vs[i]:=by rw [hx] at e2;exact (Option.some.inj e2).symm
    subst e4
    refine ht _ _ (List.getElem_mem hlt) hs _ fun H'' h''=>?_
    by_cases hp:p vs[i]=true
    ·rw [if_pos hp]
     exact he _ _ (List.getElem_mem hlt) hp (hs.trans h'') _ fun H3 h3=>⟨rfl,hp,h''.trans h3⟩
    ·rw [if_neg hp]
     exact ⟨by simpa using hp,h''⟩
  ·have e:i=vs.length:=by omega
   subst e
   rw [List.take_length] at hd
   exact .inl ⟨rd.st H2 hs,hq D H2 hD hs hd⟩
def unT:V->List Nat
 | .str x=>x.cps.toList
 | _=>[]
theorem unT_T (l:List Nat):unT (T l)=l:=tx_cps l
section
variable {X:Cx}
theorem op_in_seqK (K:PySem.W.Frag)(h:X.K=K):OpR X (compareOp .In) (rIn K false):=by subst h;exact op_in_seq
theorem op_notIn_seqK (K:PySem.W.Frag)(h:X.K=K):OpR X (compareOp .NotIn) (rIn K true):=by subst h;exact op_notIn_seq
end
theorem map_unT {f:List Nat->V}(ls:List (List Nat)):(ls.map T).map (fun x=>f (unT x))=ls.map f:=by
 rw [List.map_map]
 exact List.map_congr_left fun l _=>by show f (unT (T l))=f l;rw [unT_T]
theorem filter_unT {p:List Nat->Bool}:∀ ls:List (List Nat),(ls.map T).filter (fun x=>p (unT x))=(ls.filter p).map T
 | []=>rfl
 | l::ls=>by
  rw [List.map_cons,List.filter_cons,List.filter_cons,unT_T,filter_unT ls]
  split <;> rfl
end L2
namespace SS
open PySem PyProof.Rows L2
section
variable {prog:Program}{w:World}{A:Around}{E:Value->Shared->Prop}{s:Shared}
theorem dhint_ok {a:Addr}{Q:Bool->Shared->Prop}(hS:s.TypeIs (.ref a) "dict")(h:Q false s):wpAny (model prog w) A (Builtin.List.listLengthHint (.ref a)) Q E s:=by
 unfold Builtin.List.listLengthHint
 refine wpAny_bind (wpAny_specialOf hS F.slot_dict_len.lookup ?_)
 generalize hid:("dict.__len__" : String)=id0
 wp_delta
 rw [show splitId id0=some ("dict", "__len__") from by subst hid;decide +kernel]
 subst hid
 refine wpAny_bind (wpAny_isInstance (T := "dict") (b:=true) hS F.sub_dict_dict ?_)
 refine wpAny_ite_split (fun hab=>absurd hab (by decide)) (fun _=>?_)
 refine wpAny_ite_split (fun _=>?_) (fun hab=>absurd (by decide +kernel) hab)
 refine wpAny_bind (wpAny_typeOf hS ?_)
 exact wpAny_pure h
def KeyAt (vs:List (Key×Value))(i:Nat)(v:Value):Prop:=∃ k x,vs[i]?=some (k,x)∧keyIs k v=true
theorem dat_push {h:Heap}{a:Addr}{vs:List (Key×Value)}{ep:Nat}{ob:Obj}(hD:Heap.DictAt (mixKind prog w) h a vs ep):Heap.DictAt (mixKind prog w) (h.push ob) a vs ep:=by
 obtain ⟨o,es,g,r⟩:=hD
 exact ⟨o,es,Heap.get?_push_of_some _ g,r⟩
theorem dat_ty {a:Addr}{vs:List (Key×Value)}{ep:Nat}(hD:Heap.DictAt (mixKind prog w) s.heap a vs ep):s.TypeIs (.ref a) "dict" := by
 obtain ⟨o,es,g,r⟩:=hD
 exact (show Heap.DictOf (mixKind prog w) s.heap a vs from ⟨o,es,ep,g,r⟩).typeIs
theorem dextend_ok {a:Addr}{vs:List (Key×Value)}{ep:Nat}{R:Result->Shared->Prop}(hh:A.handled=none)(hd:(a==sysModules)=false)(hD:Heap.DictAt (mixKind prog w) s.heap a vs ep)(hz:vs.length<=sizeLine)(S:Addr)(res:Value)(h1:S≠a)(hSl:s.heap.get? S=some { cls:=.type "list",data:=.seq #[] })
  (hR:∀ s' acc' c',(∀ b o,b≠S->s.heap.get? b=some o->s'.heap.get? b=some o)->s'.gens=s.gens->s'.os=s.os->s'.heap.get? S=some { cls:=.type "list",dict:=none,data:=.seq acc' c',slots:=#[] }->ItemsOf (KeyAt vs) acc' vs.length->R (.ok (.ret res)) s') :
  wpAny (model prog w) A.in1 (Builtin.List.listExtendWith (.ref S) (.ref a) res)
   (fun fin s'=>match fin with | .done f=>R (.ok f) s' | .again c'=>c'.quiet=true∧codeAny (model prog w) A c' R s') (fun e s'=>R (.error e) s') s:=by
 unfold Builtin.List.listExtendWith
 refine wpAny_bind (wpAny_typeOf (dat_ty hD) ?_)
 have g1:Builtin.List.listSameRef (.ref S) (.ref a)=false:=by simp [Builtin.List.listSameRef,h1]
 have g2:(Value.type "dict" == Value.type "list")=false:=by decide
 have g3:(Value.type "dict" == Value.type "tuple")=false:=by decide
 simp only [g1,g2,g3,Bool.or_false,Bool.false_eq_true,if_false]
 refine wpAny_bind (wpAny_pyIter_dict hd hD ?_)
 have hlt:=Heap.lt_size hSl
 have hal:a<s.heap.objs.size:=by obtain ⟨o,es,g,r⟩:=hD;exact Heap.lt_size g
 generalize hio:({ cls:=Value.type "dict_keyiterator",data:=Data.fields #[Value.ref a,Value.int 0 0,Value.int (↑vs.length) 0,Value.int (↑ep) 0] }:Obj)=io
 have hIs:s.heap.objs.size<=s.heap.objs.size:=Nat.le_refl _
 have hSI:S≠s.heap.objs.size:=Nat.ne_of_lt hlt
 have haI:a≠s.heap.objs.size:=Nat.ne_of_lt hal
 have kp:∀ b o,s.heap.get? b=some o->(s.heap.push io).get? b=some o:=fun b o e=>Heap.get?_push_of_some _ e
 have W:=Walks.dictKeys (prog:=prog) (w:=w) (knd:=mixKind prog w) (A:=A.in1) hh s.heap.objs.size a haI vs ep
 have hD2:Heap.DictAt (mixKind prog w) (s.heap.push io) a vs ep:=dat_push hD
 have st0:(s.heap.push io).IsKeyIter s.heap.objs.size a 0 vs.length ep∧Heap.DictAt (mixKind prog w) (s.heap.push io) a vs ep:=by
  refine ⟨⟨io,Heap.get?_push_size _ (by rw [<- hio];rfl),?_,?_⟩,hD2⟩
  ·rw [<- hio]
  ·rw [<- hio];rfl
 have hSf:S∉[s.heap.objs.size,a]:=by simp [hSI,h1]
 refine wpAny_bind (wpAny_holding (dhint_ok (s:={ s with heap:=s.heap.push io }) (dat_ty (s:={ s with heap:=s.heap.push io }) hD2) ?_))
 have WS:=W.toS
 have last:∀ (h0:Heap) (c0:Nat),(∀ b o,b≠S->(s.heap.push io).get? b=some o->h0.get? b=some o)->h0.get? S=some { cls:=.type "list",data:=.seq #[] c0 } ->
   wpAny (model prog w) A.in1 (again (.builtin "list.extend.loop" ⟨[.ref S,.ref s.heap.objs.size,res],[]⟩))
    (fun fin s'=>match fin with | .done f=>R (.ok f) s' | .again c'=>c'.quiet=true∧codeAny (model prog w) A c' R s') (fun e s'=>R (.error e) s') { s with heap:=h0 }:=fun h0 c0 hk0 hS0=>by
  refine wpAny_pure ⟨plainId_quiet F.plain_extend_loop _,codeAny_extend_loopS WS (by omega) S hSf res vs.length 0 _ #[] c0 rfl (Nat.zero_le _) ?_ hS0 (ItemsOf.nil _) fun s' acc' c' hm hS' hacc=>?_⟩
  ·exact W.frame 0 (s.heap.push io) h0 st0 fun b hb o e=>hk0 b o (fun z=>hSf (z▸hb)) e
  ·refine hR s' acc' c' (fun b o hb e=>?_) hm.gens hm.os hS' hacc
   by_cases hbI:b=s.heap.objs.size
   ·subst hbI
    exact absurd (Heap.lt_size e) (Nat.not_lt.mpr hIs)
   ·exact hm.heap b o (by simp [hb,hbI]) (hk0 b o hb (kp b o e))
 refine wpAny_ite_split (fun _=>?_) (fun hab=>absurd (by decide +kernel) hab)
 refine wpAny_bind (wpAny_rule ?_)
 have hSl2:(s.heap.push io).get? S=some { cls:=.type "list",data:=.seq #[] }:=kp S _ hSl
 refine wpAny_bind (m:=((do updateSeq S (fun z=>z.push .none);updateSeq S (fun z=>z.pop)):Sem Unit)) (wpAny_bind (wpAny_updateSeq (s:={ s with heap:=s.heap.push io }) hSl2 rfl ?_))
 have k1:=Heap.get?_update_self (Obj.mapSeq (fun z=>z.push .none)) hSl2 rfl
 refine wpAny_updateSeq k1 rfl ?_
 have k2:=Heap.get?_update_self (Obj.mapSeq (fun z=>z.pop)) k1 rfl
 exact last _ _ (fun b o hb e=>(Heap.get?_update_other _ _ (Ne.symm hb)).trans ((Heap.get?_update_other _ _ (Ne.symm hb)).trans e)) k2
theorem dcollect_ok {a:Addr}{vs:List (Key×Value)}{ep:Nat}{Q:List Value->Shared->Prop}(hh:A.handled=none)(hd:(a==sysModules)=false)(hD:Heap.DictAt (mixKind prog w) s.heap a vs ep)(hz:vs.length<=sizeLine)
  (hQ:∀ (s':Shared) (acc:Array Value),(∀ b o,s.heap.get? b=some o->s'.heap.get? b=some o)->s'.gens=s.gens->s'.os=s.os->ItemsOf (KeyAt vs) acc vs.length->Q acc.toList s'):wpAny (model prog w) A (collect (.ref a)) Q E s:=by
 have hlt:a<s.heap.objs.size:=by obtain ⟨o,es,g,r⟩:=hD;exact Heap.lt_size g
 unfold collect
 refine wpAny_bind (wpAny_runValue (codeAny_builtin F.entry_proto_collect ?_))
 rw [Around.under_plainId F.plain_proto_collect]
 refine wpAny_bind (m:=newList []) (wpAny_newObj_type (wpAny_pure ⟨plainId_quiet F.plain_list_iadd _,codeAny_builtin F.entry_list_iadd ?_⟩))
 rw [Around.under_plainId F.plain_list_iadd]
 have hSl:(s.heap.push { cls:=.type "list",data:=.seq #[] }).get? s.heap.objs.size=some { cls:=.type "list",data:=.seq #[] }:=Heap.get?_push_size _ rfl
 have go:∀ R:Result->Shared->Prop,(∀ s' acc' c',(∀ b o,s.heap.get? b=some o->s'.heap.get? b=some o)->s'.gens=s.gens->s'.os=s.os->s'.heap.get? s.heap.objs.size=some { cls:=.type "list",dict:=none,data:=.seq acc' c',slots:=#[] }->ItemsOf (KeyAt vs) acc' vs.length->R (.ok (.ret (.ref s.heap.objs.size))) s') ->
   wpAny (model prog w) A.in1 (Builtin.List.listExtendWith (.ref s.heap.objs.size) (.ref a) (.ref s.heap.objs.size))
    (fun fin s'=>match fin with | .done f=>R (.ok f) s' | .again c'=>c'.quiet=true∧codeAny (model prog w) A c' R s') (fun e s'=>R (.error e) s') { s with heap:=s.heap.push { cls:=.type "list",data:=.seq #[] } }:=fun R hR =>
  dextend_ok (A:=A) (s:={ s with heap:=s.heap.push { cls:=.type "list",data:=.seq #[] } }) hh hd (dat_push hD) hz s.heap.objs.size (.ref s.heap.objs.size) (Nat.ne_of_gt hlt) hSl
   fun s' acc' c' kp g1 g2 e1 e2=>hR s' acc' c' (fun b o e=>kp b o (Nat.ne_of_lt (Heap.lt_size e)) (Heap.get?_push_of_some _ e)) g1 g2 e1 e2
 refine go (fun r s'=>match r with
  | .ok (.ret v)=>wpAny (model prog w) A (match v with
   | .ref a=>do
    match (<- load a).data with
    | .seq xs _=>pure xs.toList
    | _=>unsupported "internal:collect"
   | _=>unsupported "internal:collect") Q E s'
  | .ok _=>False
  | .error e=>E e s') fun s' acc' c' kp g1 g2 hS' e2=>?_
 refine wpAny_bind (m:=load s.heap.objs.size) (wpAny_load hS' (wpAny_pure ?_))
 exact hQ s' acc' kp g1 g2 e2
end
end SS
namespace L2
open PySem PyProof.Rows
def tKs (ls:List (List Nat))(v:V):List (Key×V):=ls.map fun t=>(Sum.inr (tx t),v)
section
variable {X:Cx}
theorem strs_pt:∀ (ls:List Str) (us:List Value),us.length=ls.length->(∀ (i:Nat) (v:Value),us[i]?=some v->∃ x t,ls[i]?=some x∧v=Value.str x t)->StrsAre us ls
 | [],[],_,_=>.nil
 | [],_::_,h,_=>nomatch h
 | _::_,[],h,_=>nomatch h
 | y::ls,u::us,h,hp=>by
  obtain ⟨x,t,e1,e2⟩:=hp 0 u rfl
  have e3:y=x:=by simpa using e1
  rw [e2,<- e3]
  exact .cons _ _ (strs_pt ls us (by simpa using h) fun i v e=>by simpa using hp (i+1) v (by simpa using e))
theorem kv_fst:∀ {kvs:List (Key×V)} {vs:List (Key×Value)},KV kvs vs->vs.map (·.1)=kvs.map (·.1)
 | [],[],.nil=>rfl
 | _::_,_::_,.cons h r=>by rw [List.map_cons,List.map_cons,h.1,kv_fst r]
theorem keys_strs {ls:List (List Nat)}{kvs:List (Key×V)}{vs:List (Key×Value)}{acc:Array Value}(hk:kvs.map (·.1)=ls.map fun t=>Sum.inr (tx t))(r:KV kvs vs)(h:ItemsOf (SS.KeyAt vs) acc vs.length):StrsAre acc.toList (ls.map tx):=by
 have e0:vs.map (·.1)=(ls.map tx).map Sum.inr:=by rw [kv_fst r,hk,List.map_map];rfl
 have el:vs.length=ls.length:=by have:=congrArg List.length e0;simpa using this
 refine strs_pt _ _ (by rw [Array.length_toList,h.1,el,List.length_map]) fun i v e=>?_
 obtain ⟨k,x,g1,g2⟩:=h.2 i v (by rw [<- Array.getElem?_toList];exact e)
 have g3:(vs.map (·.1))[i]?=some k:=by rw [List.getElem?_map,g1];rfl
 rw [e0,List.getElem?_map] at g3
 cases g4:(ls.map tx)[i]? with
 | none=>rw [g4] at g3;cases g3
 | some y =>
  rw [g4] at g3
  obtain rfl:Sum.inr y=k:=Option.some.inj g3
  rcases keyIs_shape g2 with ⟨j,t,q1,_⟩ | ⟨z,t,q1,q2⟩
  ·cases q1
  ·cases q1
   exact ⟨y,t,rfl,q2⟩
end
end L2
namespace L2
open PySem PyProof.Rows PySem.Spec
namespace SE
section
variable {prog:Program}{w:World}{A:Around}{E:Value->Shared->Prop}{s:Shared}
end
end SE
section
variable {X:Cx}
end
end L2
namespace L2
open PySem PyProof.Rows PySem.Spec
section
variable {X:Cx}
end
end L2
namespace L2
open PySem PyProof.Rows PySem.Spec
section
variable {X:Cx}
end
end L2
namespace L2
open PySem PyProof.Rows PySem.Spec
section
variable {X:Cx}{pins:List (Addr×Obj)}{σ:List (Option V)}{H H':Hp}{s:Shared}{h':Heap}
theorem Inv.turnedL {t':Nat}{ch:List Addr}(I:Inv X pins σ H s)(k:∀ b o,b∉ch->s.heap.get? b=some o->h'.get? b=some o)(hf:∀ b∈ch,FpOk X pins H b):Inv X pins σ H { s with heap:=h',toks:=t' }:=by
 have nit:∀ b u,H b=some u->b∉ch:=fun b u e z=>by rw [(hf b z).1] at e;cases e
 refine I.step (g':=s.gens) (d':=s.drawn) (ch:=ch) (fun b hb=>?_) (fun b o _ _ hc e _=>k b o hc e) (fun b o _ _ hc e _=>⟨o.slots,k b o hc e⟩) (fun _ _ _ _ n=>n)
  (fun b o hc e=>⟨o,k b o hc e⟩) (fun _ _ e=>e) (fun _ _ _ e=>e) (fun b ps e=>⟨#[],by rw [e];simp⟩) (fun m hm=>?_) (fun b u e=>?_) I.bare
 ·obtain ⟨f0,f1,f2,f3,f4,f5⟩:=hf b hb
  exact ⟨f3,f1,f4,f5⟩
 ·obtain ⟨o,es,ep,ho,r⟩:=hm
  exact ⟨o,es,ep,k _ o (fun z=>(hf _ z).2.1 rfl) ho,r⟩
 ·refine (I.hok b u e).stay (fun c v hc q=>k c v ?_ q) (fun _ q=>q) fun _ _ q=>q
  rcases hc with z | z
  ·rw [z];exact nit b u e
  ·exact nit c _ z
end
def Itz (K:PySem.W.Frag)(a b:Addr):It :=
 ⟨fun i H=>∃ xs ys x y,SqL K H a xs∧SqL K H b ys∧xs[i]?=some x∧ys[i]?=some y,
  fun i H x H'=>∃ (T:Addr) (u v:V),x = .ref T∧H T=none∧H'=upd H T (.tup [u,v])∧(∀ xs,SqL K H a xs->xs[i]?=some u)∧∀ ys,SqL K H b ys->ys[i]?=some v,
  fun i H=>∃ xs ys,SqL K H a xs∧SqL K H b ys∧(xs.length<=i∨ys.length<=i)⟩
theorem turn_zip {P:Program}{w:World}{K:PySem.W.Frag}{elts:List Expr}{x1}{pos:Pos}{a b z TI TO i1 i2:Addr}(D:ZipApart z TI TO i1 i2 a b) :
  Turn P w K (.Tuple elts x1 pos) (Itz K a b) [z,TI,TO,i1,i2] z (fun i h=>IsZip h z TI TO .none∧IsPair h TI (.ref i1) (.ref i2)∧(∃ u v,IsPair h TO u v)∧h.IsListIter i1 a i∧h.IsListIter i2 b i) where
 mem:=by simp
 obj:=fun i h st c hc=>by
  obtain ⟨h1,h2,⟨u,v,h3⟩,⟨o4,e4,c4,d4⟩,⟨o5,e5,c5,d5⟩⟩:=st
  simp only [List.mem_cons,List.not_mem_nil,or_false] at hc
  rcases hc with rfl | rfl | rfl | rfl | rfl
  ·exact ⟨_,h1,fun v z=>by cases z⟩
  ·exact ⟨_,h2,fun v z=>by cases z⟩
  ·exact ⟨_,h3,fun v z=>by cases z⟩
  ·exact ⟨_,e4,fun v z=>by rw [d4] at z;cases z⟩
  ·exact ⟨_,e5,fun v z=>by rw [d5] at z;cases z⟩
 keep:=fun i h h' st k=>by
  obtain ⟨h1,h2,⟨u,v,h3⟩,h4,h5⟩:=st
  exact ⟨k z (by simp) _ h1,k TI (by simp) _ h2,⟨u,v,k TO (by simp) _ h3⟩,h4.at fun o e=>k i1 (by simp) o e,h5.at fun o e=>k i2 (by simp) o e⟩
 item:=by
  intro X hP hw hK hc i pins s σ H E I hf st hg
  subst hP hw hK
  obtain ⟨xs,ys,x,y,hq1,hq2,hx,hy⟩:=hg
  obtain ⟨its,rv,p,hz⟩:=I.list hq1
  obtain ⟨its2,rv2,p2,hz2⟩:=I.list hq2
  obtain ⟨u,hu,ru⟩:=rv.get hx
  obtain ⟨v,hv,rv'⟩:=rv2.get hy
  obtain ⟨h1,h2,⟨c1,c2,h3⟩,h4,h5⟩:=st
  refine wpAny_pyNext_zip_item D h1 h2 h3 h4 h5 p.isList p2.isList (x:=u) (y:=v) (by simpa using hu) (by simpa using hv) fun h' z1 z2 z3 z4 z5 z6 z7=>?_
  refine ⟨_,rfl,wpAny_letOwnedTupleGo_zip (s:={ s with heap:=h' }) z1 fun h'' y1 y2=>?_⟩
  have hT:H s.heap.objs.size=none:=I.hok.fresh (Nat.le_refl _)
  have I1:Inv X pins σ (upd H s.heap.objs.size (.tup [x,y])) { s with heap:=s.heap.push { cls:=.type "tuple",data:=.seq #[u,v] },toks:=s.toks } :=
   I.laid (t':=s.toks) (fun b u e=>Heap.get?_push_of_some _ e) (Nat.le_refl _) ⟨(by show 2<=sizeLine;rw [sizeLine_eq];decide),[u,v],.cons ru (.cons rv' .nil),⟨_,Heap.get?_push_size _ rfl,rfl,_,rfl⟩⟩
  have nf:∀ c∈[z,TI,TO,i1,i2],c≠s.heap.objs.size:=fun c hc e=>by
   have lt:∃ o,s.heap.get? c=some o:=by
    obtain ⟨o4,e4,_⟩:=id h4
    obtain ⟨o5,e5,_⟩:=id h5
    simp only [List.mem_cons,List.not_mem_nil,or_false] at hc
    rcases hc with rfl | rfl | rfl | rfl | rfl
    ·exact ⟨_,h1⟩
    ·exact ⟨_,h2⟩
    ·exact ⟨_,h3⟩
    ·exact ⟨_,e4⟩
    ·exact ⟨_,e5⟩
   obtain ⟨o,ho⟩:=lt
   have:=Heap.lt_size ho
   rw [e] at this
   exact Nat.lt_irrefl _ this
  have hf1:∀ c∈[z,TI,TO,i1,i2],FpOk X pins (upd H s.heap.objs.size (.tup [x,y])) c:=fun c hc=>by
   obtain ⟨f0,f⟩:=hf c hc
   exact ⟨by rw [upd_ne (nf c hc)];exact f0,f⟩
  have I2:Inv X pins σ (upd H s.heap.objs.size (.tup [x,y])) { s with heap:=h'',toks:=s.toks } :=
   Inv.turnedL (s:={ s with heap:=s.heap.push { cls:=.type "tuple",data:=.seq #[u,v] },toks:=s.toks }) (t':=s.toks) (ch:=[z,TI,TO,i1,i2]) I1 (fun b o hb e=>by
    simp only [List.mem_cons,List.not_mem_nil,or_false,not_or] at hb
    obtain ⟨b1,b2,b3,b4,b5⟩:=hb
    refine (y2.2 b b1).trans ?_
    rcases Heap.get?_push_cases e with ⟨rfl,rfl⟩ | e
    ·exact z5
    ·exact z7 b o b1 b3 b4 b5 e) hf1
  refine ⟨.ref s.heap.objs.size,_,I2,rfl,⟨s.heap.objs.size,x,y,rfl,hT,rfl,fun zs hzs=>by rw [I.list_inj hzs hq1];exact hx,fun zs hzs=>by rw [I.list_inj hzs hq2];exact hy⟩,⟨y1,?_,⟨u,v,?_⟩,?_,?_⟩,fun c hc=>(hf1 c hc).1⟩
  ·exact (y2.2 TI D.TIz).trans (z7 TI _ D.TIz D.TITO D.TIi1 D.TIi2 h2)
  ·exact (y2.2 TO D.TOz).trans z2
  ·exact z3.at fun o e=>(y2.2 i1 D.i1z).trans e
  ·exact z4.at fun o e=>(y2.2 i2 D.i2z).trans e
 done:=by
  intro X hP hw hK hc i pins s σ H E I hf st hg
  subst hP hw hK
  obtain ⟨xs,ys,hq1,hq2,hl⟩:=hg
  obtain ⟨its,rv,p,hz⟩:=I.list hq1
  obtain ⟨its2,rv2,p2,hz2⟩:=I.list hq2
  obtain ⟨h1,h2,⟨c1,c2,h3⟩,h4,h5⟩:=st
  have l1:=rv.length
  have l2:=rv2.length
  refine wpAny_pyNext_zip_end (I.ok.hd hc) D h1 h2 h3 h4 h5 p.isList p2.isList ?_ fun h' kk=>⟨rfl,?_⟩
  ·rcases hl with g | g
   ·exact .inl (by simp;omega)
   ·exact .inr (by simp;omega)
  ·exact I.turnedL (t':=s.toks) (ch:=[z,TI,TO,i1,i2]) (fun b o hb e=>by
    simp only [List.mem_cons,List.not_mem_nil,or_false,not_or] at hb
    obtain ⟨b1,b2,b3,b4,b5⟩:=hb
    exact kk b o b1 b3 b4 b5 e) hf
 self:=fun _ _ _ _ _ st h=>wpAny_pyIter_zip st.1 h
section
variable {X:Cx}
def iZip (K:PySem.W.Frag)(ta:TA):TI:=fun σ H R=>ta σ H fun xs H1=>∃ a b:Addr,xs=[.ref a,.ref b]∧(∃ us,SqL K H1 a us)∧(∃ vs,SqL K H1 b vs)∧R (Itz K a b) H1
theorem pi_zip {a b:Expr}{ta:TA}{p pos pos':Pos}{elts:List Expr}{x1}(hg:Gl X "zip")(hm:X.mg "zip" = none)(ha:PA X [a,b] ta)(hs:starEach [a,b] X.env=[(false,eval a X.env),(false,eval b X.env)]:=by rfl)(hs2:starEach [b] X.env=[(false,eval b X.env)]:=by rfl) :
  PI X (.Tuple elts x1 pos') (.Call (.Name "zip" p) [a,b] [] pos) (iZip X.K ta):=by
 intro pins s σ H R I h
 refine Call_ (ld_blt I hg hm boot_zip (PyProof.Rows.callWith_type1 (thn (ha pos pins s σ H _ I h) fun us s1 ⟨vs,H1,I1,r1,q1⟩=>?_) (by rw [hs,hs2]) (by rw [hs2];rfl)))
 obtain ⟨l1,l2,e,⟨us1,hq1⟩,⟨us2,hq2⟩,q⟩:=q1
 subst e
 cases r1 with
 | cons r rr =>
  cases rr with
  | cons r' rr =>
   cases rr
   cases r
   cases r'
   obtain ⟨its,rv,p,hz⟩:=I1.list hq1
   obtain ⟨its2,rv2,p2,hz2⟩:=I1.list hq2
   obtain ⟨o1,ho1,_⟩:=id p.isList
   obtain ⟨o2,ho2,_⟩:=id p2.isList
   refine call_zip_2 p.isList p2.isList fun h' z1 z2 z3 z4 z5 z6 z7=>?_
   refine wpAny_pyIter_zip (s:={ s1 with heap:=h' }) z1 ?_
   have fr:∀ c,s1.heap.objs.size<=c->FpOk X pins H1 c:=fun c hc=>I1.fpOk hc (I1.hok.fresh hc)
   refine ⟨s1.heap.objs.size+4,[s1.heap.objs.size+4,s1.heap.objs.size+2,s1.heap.objs.size+3,s1.heap.objs.size,s1.heap.objs.size+1],_,_,H1,rfl,I1.kept (t':=s1.toks) z7,turn_zip (zipApart_new (Heap.lt_size ho1) (Heap.lt_size ho2)),⟨z1,z2,⟨_,_,z3⟩,z4,z5⟩,fun c hc=>fr c ?_,q⟩
   simp only [List.mem_cons,List.not_mem_nil,or_false] at hc
   rcases hc with rfl | rfl | rfl | rfl | rfl
   ·exact Nat.le_add_right _ _
   ·exact Nat.le_add_right _ _
   ·exact Nat.le_add_right _ _
   ·exact Nat.le_refl _
   ·exact Nat.le_add_right _ _
theorem for_zip {K:PySem.W.Frag}{a b:Addr}{xs ys:List V}{g:TG}{tb:TS}{D:Ends}{σ:St}{H:Hp}(Pv:Nat->St->Hp->Prop)(h0:Pv 0 σ H)(he:xs.length=ys.length)(hl:∀ i σ H,i<=xs.length->Pv i σ H->SqL K H a xs∧SqL K H b ys)
  (hs:∀ i x y T σ H,xs[i]?=some x->ys[i]?=some y->H T=none->Pv i σ H->g (.ref T) σ (upd H T (.tup [x,y])) fun σ2 H2=>tb { D with nx:=Pv (i+1),ct:=Pv (i+1),bk:=D.nx } σ2 H2) (hd:∀ σ H,Pv xs.length σ H->D.nx σ H) :
  ∃ W:Nat->Nat->St->Hp->Prop,(∃ m,W 0 m σ H)∧∀ i m σ H,W i m σ H ->
   ((Itz K a b).stop i H∧D.nx σ H)∨((Itz K a b).go i H∧∃ N:St->Hp->Prop,(∀ σ' H',N σ' H'->∃ m',m'<m∧W (i+1) m' σ' H')∧∀ x H',(Itz K a b).yld i H x H'->g x σ H' fun σ2 H2=>tb { D with nx:=N,ct:=N,bk:=D.nx } σ2 H2):=by
 refine ⟨fun i m σ H=>m=xs.length-i∧i<=xs.length∧Pv i σ H,⟨xs.length,by simp,Nat.zero_le _,h0⟩,?_⟩
 rintro i m σ H ⟨rfl,hi,p⟩
 obtain ⟨q1,q2⟩:=hl i σ H hi p
 by_cases hlt:i<xs.length
 ·refine .inr ⟨⟨xs,ys,xs[i],ys[i]'(by omega),q1,q2,by simp [hlt],by rw [List.getElem?_eq_getElem]⟩,Pv (i+1),fun σ' H' p'=>⟨xs.length-(i+1),by omega,rfl,hlt,p'⟩,fun x H' y=>?_⟩
  obtain ⟨T,u,v,rfl,hT,rfl,y1,y2⟩:=y
  exact hs i u v T σ _ (y1 xs q1) (y2 ys q2) hT p
 ·have e:i=xs.length:=by omega
  subst e
  exact .inl ⟨⟨xs,ys,q1,q2,.inl (Nat.le_refl _)⟩,hd σ H p⟩
end
end L2
namespace L2
open PySem PyProof.Rows PySem.Spec
end L2
namespace L2
open PySem PyProof.Rows PySem.Spec
namespace ZS
section
variable {prog:Program}{w:World}{A:Around}{E:Value->Shared->Prop}{s:Shared}
end
end ZS
section
variable {X:Cx}
end
end L2
namespace L2
open PySem PyProof.Rows PySem.Spec
section
variable {X:Cx}
end
end L2
namespace L2
open PySem PyProof.Rows PySem.Spec
theorem on1 {α:Type}{C:List α->Prop}{us:List α}(h:us.length=1)(k:∀ a,C [a]):C us:=match us,h with | [a],_=>k a
theorem on2 {α:Type}{C:List α->Prop}{us:List α}(h:us.length=2)(k:∀ a b,C [a,b]):C us:=match us,h with | [a,b],_=>k a b
theorem on3 {α:Type}{C:List α->Prop}{us:List α}(h:us.length=3)(k:∀ a b c,C [a,b,c]):C us:=match us,h with | [a,b,c],_=>k a b c
section
variable {X:Cx}
theorem argBest_least (ls:List (List Nat)):∀ k,k<ls.length->argBest (fun i j=>decide (ls.getD i []<ls.getD j [])) k<=k∧∀ i,i<=k->¬ ls.getD i []<ls.getD (argBest (fun i j=>decide (ls.getD i []<ls.getD j [])) k) []
 | 0,_=>⟨Nat.le_refl _,fun i hi=>by
   obtain rfl:i=0:=(by omega)
   exact List.lt_irrefl _⟩
 | k+1,h=>by
  obtain ⟨h1,h2⟩:=argBest_least ls k (by omega)
  rw [argBest]
  by_cases c:ls.getD (k+1) []<ls.getD (argBest (fun i j=>decide (ls.getD i []<ls.getD j [])) k) []
  ·rw [if_pos (decide_eq_true c)]
   refine ⟨Nat.le_refl _,fun i hi z=>?_⟩
   by_cases e:i=k+1
   ·subst e;exact List.lt_irrefl _ z
   ·exact h2 i (by omega) (List.lt_trans z c)
  ·rw [if_neg (fun z=>c (of_decide_eq_true z))]
   refine ⟨by omega,fun i hi z=>?_⟩
   by_cases e:i=k+1
   ·subst e;exact c z
   ·exact h2 i (by omega) z
theorem vals_text {ls:List (List Nat)}{its:List Value}(r:Vals (ls.map T) its){i:Nat}{v:Value}(h:its[i]?=some v):∃ t,i<ls.length∧v = .str (tx (ls.getD i [])) t:=by
 have hl:=r.length
 rw [List.length_map] at hl
 have hi:i<ls.length:=by have:=(List.getElem?_eq_some_iff.mp h).1;omega
 have e:ls[i]?=some (ls.getD i []):=by rw [List.getD_eq_getElem?_getD,List.getElem?_eq_getElem hi];rfl
 obtain ⟨u,e1,q1⟩:=r.get (show (ls.map T)[i]?=some (T (ls.getD i [])) by rw [List.getElem?_map,e];rfl)
 rw [h] at e1
 cases e1
 obtain ⟨t,rfl⟩:=q1
 exact ⟨t,hi,rfl⟩
theorem call_minT (hc:X.calm=true):CallR X (.builtin "min") (fun xs H Q=>∃ (p:Addr) (ls:List (List Nat)),xs=[.ref p]∧SqL X.K H p (ls.map T)∧ls≠[]∧∀ m∈ls,(∀ y∈ls,¬ y<m)->Q (T m) H):=by
 intro pins s σ H xs us Q I r h
 obtain ⟨p,ls,rfl,hq,hne,q⟩:=h
 obtain ⟨u,rfl,ru⟩:=vals1 r
 cases ru
 obtain ⟨its,rv,pl,_⟩:=I.list hq
 have hl:=pl.isList
 have hlen:=rv.length
 rw [List.length_map] at hlen
 have hpos:0<ls.length:=List.length_pos_iff.mpr hne
 have hlt:p<s.heap.objs.size:=by obtain ⟨_,e,_⟩:=hl;exact Heap.lt_size e
 refine call_min_walk (wpAny_pyIter_list hl ?_)
 refine ⟨_,[s.heap.objs.size,p],[s.heap.objs.size],_,_,_,fun i j=>decide (ls.getD i []<ls.getD j []),rfl,Walks.list (A:=X.A.in1) (I.ok.hd hc) _ p (Nat.ne_of_lt hlt) its.toArray,⟨⟨_,Heap.get?_push_size _ rfl,rfl,rfl⟩,hl.push _⟩,fun b hb=>?_,(by rw [List.size_toArray];omega),fun i j vi vj s' Q' E' hi hj h'=>?_,fun v h' tk hP hk=>?_⟩
 ·show b<(s.heap.push _).objs.size
  rw [Heap.size_push]
  simp only [List.mem_cons,List.not_mem_nil,or_false] at hb
  rcases hb with rfl | rfl
  ·exact Nat.lt_succ_self _
  ·exact Nat.lt_succ_of_lt hlt
 ·obtain ⟨t,_,rfl⟩:=vals_text rv (by simpa using hi)
  obtain ⟨t',_,rfl⟩:=vals_text rv (by simpa using hj)
  exact richCompare_gives (op:=.Lt) (typeIs_str s' _ t) (typeIs_str s' _ t') F.slot_str_lt F.entry_str_lt (F.args_str_lt_2 _ _) (gives_str_lt _ _ t t') (fun x=>nomatch x) (by rw [tx_cps,tx_cps];exact h')
 ·rw [List.size_toArray,show its.length=ls.length by omega] at hP
  obtain ⟨b1,b2⟩:=argBest_least ls (ls.length-1) (by omega)
  generalize argBest (fun i j=>decide (ls.getD i []<ls.getD j [])) (ls.length-1)=bi at hP b1 b2
  obtain ⟨t,hi,rfl⟩:=vals_text rv (i:=bi) (by rw [<- List.getElem?_toArray];exact hP)
  have e:ls[bi]?=some (ls.getD bi []):=by rw [List.getD_eq_getElem?_getD,List.getElem?_eq_getElem hi];rfl
  refine ⟨T (ls.getD bi []),H,I.kept (old_kept hk),⟨t,rfl⟩,q _ (List.mem_of_getElem? e) fun y hy=>?_⟩
  obtain ⟨i,hi',rfl⟩:=List.mem_iff_getElem.mp hy
  have:=b2 i (by omega)
  rw [List.getD_eq_getElem?_getD (l:=ls) (i:=i),List.getElem?_eq_getElem hi'] at this
  exact this
end
end L2
namespace L2
open PySem PySem.Spec PyProof.Rows
section
variable {X:Cx}{N':List Str}{scope:Scope}{x y2:Str}{px py py2 pt:Pos}{elt iter:Expr}{pos:Pos}{te:TE}{wi:TI}
end
end L2
namespace L2
open PySem PySem.Spec PyProof.Rows
end L2
namespace L2
open PySem PySem.Spec PyProof.Rows
end L2
namespace L2
open PySem PySem.Spec PyProof.Rows
section
variable {X:Cx}{pins:List (Addr×Obj)}{σ:St}{H H':Hp}{s s':Shared}{a:Addr}{cls:Value}{E:Value->Shared->Prop}
end
section
variable {X:Cx}{pins:List (Addr×Obj)}{σ:St}{H H':Hp}{s s':Shared}{a:Addr}{cls:Value}
end
section
variable {P:Program}{w:World}{K:PySem.W.Frag}{mg:Str->Option Value}{base:Heap}{N:List Str}{qual:Str}{scope:Scope}{f:Addr}{cdv:Value}{A:Around}{outer:List Env}{s:Shared}{H:Hp}{E:XK}
end
section
variable {X:Cx}
end
end L2
namespace L2
open PySem PySem.Spec PyProof.Rows
section
variable {prog:Program}{w:World}{A:Around}{E:Value->Shared->Prop}{h:Heap}{g:Array GenState}{d:Drawn}{t:Nat}{os:OsState}
variable {nm q:Str}{Cl Ns:Addr}{bs tl:List Value}{hdct:Bool}{sn:List Str}{sub:List Value}{ab:Bool}{col:Option Bool}{dd:Option Addr}{k0 k1 k2 k3 k5:Option Value}
end
section
variable {M:Model}{A:Around}{E:Value->Shared->Prop}{s:Shared}{env:Env}
variable {nm q:Str}{Cl Ns:Addr}{bs tl:List Value}{hdct:Bool}{sn:List Str}{sub:List Value}{ab:Bool}{col:Option Bool}{dd:Option Addr}{k0 k1 k2 k3 k5:Option Value}{ni:String}
end
end L2
namespace L2
open PySem PySem.Spec PyProof.Rows
end L2
namespace L2
open PySem PySem.Spec PyProof.Rows
section
variable {X:Cx}
end
end L2
namespace L2
open PySem PySem.Spec PyProof.Rows PySem.Builtin PySem.Builtin.ObjectAttr
section
variable {prog:Program}{w:World}{A:Around}{E:Value->Shared->Prop}{K:PySem.W.Frag}{C f a x0:Addr}{F:Str}{v:Value}{s:Shared}
end
section
variable {X:Cx}
end
end L2
namespace L2
open PySem PySem.Spec PyProof.Rows
section
variable {X:Cx}{pins:List (Addr×Obj)}{σ:St}{H:Hp}{s:Shared}{a C x0:Addr}{E:Value->Shared->Prop}{od:Option Addr}
end
section
variable {X:Cx}
end
end L2
namespace L2
open PySem PyProof.Rows PySem.Spec
section
variable {X:Cx}
end
namespace EX
open PySem.W PySem.Calls PySem.Builtin PySem.Builtin.ObjectAttr PySem.Builtin.Getset_descriptor
variable {prog:Program}{w:World}{A:Around}{E:Value->Shared->Prop}{s:Shared}{K:PySem.W.Frag}{a C:Addr}
end EX
section
variable {X:Cx}
end
end L2
namespace L2
open PySem PySem.Spec PyProof.Rows
section
variable {X:Cx}
end
end L2
namespace L2
open PySem PyProof.Rows PySem.Spec
section
variable {X:Cx}
end
end L2
namespace L2
open PySem PyProof.Rows PySem.Spec
section
variable {X:Cx}
end
section
variable {X:Cx}{N':List Str}{scope:Scope}{x y2:Str}{px py py2 pt:Pos}{elt iter:Expr}{pos:Pos}{te:TE}{wi:TI}
end
end L2
namespace L2
open PySem PyProof.Rows PySem.Spec
section
variable {X:Cx}
end
end L2
namespace SR
open PySem PyProof.Rows PySem.Spec
section
variable {prog:Program}{w:World}{A:Around}{E:Value->Shared->Prop}{s:Shared}
end
end SR
namespace L2
open PySem PyProof.Rows PySem.Spec
section
variable {X:Cx}
end
end L2
namespace L2
open PySem PyProof.Rows PySem.Spec
section
variable {X:Cx}
theorem sz_all {its its2:List Value}(h:its.length=its2.length):((List.range (min its.toArray.size its2.toArray.size)).all (fun _=>true)&&its.toArray.size==its2.toArray.size)=true:=by
 rw [show its.toArray.size=its2.toArray.size by rw [List.size_toArray,List.size_toArray];omega];simp
end
end L2
namespace L2
open PySem PyProof.Rows PySem.Spec
section
variable {X:Cx}
end
end L2
namespace L2
open PySem PyProof.Rows PySem.Spec
section
variable {X:Cx}
end
end L2
namespace L2
open PySem PyProof.Rows PySem.Spec
section
variable {X:Cx}
end
end L2
namespace L2
open PySem PyProof.Rows PySem.Spec
section
variable {X:Cx}
theorem call_list_ofK (K:PySem.W.Frag)(hK:X.K=K):CallR X (.type "list") (fun xs H Q=>∃ p ys,xs=[.ref p]∧(SqL K H p ys∨SqT K H p ys)∧∀ l,H l=none->Q (.ref l) (upd H l (.lst ys))):=by
 subst hK
 exact call_list_of
end
section
variable {K:PySem.W.Frag}{H G:Hp}{as:List Addr}{M:List (List Int)}
end
end L2
namespace L2
open PySem PySem.Spec PyProof.Rows
section
variable {X:Cx}{pins:List (Addr×Obj)}{σ:St}{H:Hp}{s:Shared}{a:Addr}{kvs:List (Key×V)}{k:Key}{A:Around}{E:Value->Shared->Prop}
theorem d_setdef {v:V}{u r:Value}{Q:Value->Shared->Prop}(I:Inv X pins σ H s)(e:H a=some (.dK kvs))(ry:RelV (kV k) u)(rv:RelV v r)(hz:kvs.length<sizeLine)
  (h1:∀ x,valV kvs k=some x->∀ w' s',Inv X pins σ H s'->RelV x w'->Q w' s') (h2:valV kvs k=none->∀ s',Inv X pins σ (upd H a (.dK (putK kvs k v))) s'->Q r s') :
  wpAny (model X.prog X.w) A (call (.builtin "dict.setdefault") [.ref a,u,r]) Q E s:=by
 obtain ⟨z,hd,vs,rel,dd⟩:=dk_of I.hok e
 refine call_meetsIn PySem.F.slot_dict_setdefault dd.typeIs PySem.F.entry_dict_setdefault (PySem.F.args_dict_setdefault_3 _ _ _) (kt_meets_setdefault (mixKind X.prog X.w) a (kV_is ry) hd r)
  ⟨vs,dd,by rw [<- rel.length];exact z,fun w' hw=>?_,fun hn h' dd' hs=>?_⟩
 ·cases l:valV kvs k with
  | none =>
   have:=RelO.none_of (o:=valueAt vs k) (by rw [<- l];exact rel.val k)
   rw [this] at hw
   cases hw
  | some x =>
   obtain ⟨w2,hw2,rw2⟩:=RelO.some_of (v:=x) (o:=valueAt vs k) (by rw [<- l];exact rel.val k)
   rw [hw] at hw2
   obtain rfl:=Option.some.inj hw2
   exact h1 x l w' _ (I.tok _) rw2
 ·have l:valV kvs k=none:=by
   cases l:valV kvs k with
   | none=>rfl
   | some x =>
    obtain ⟨w2,hw2,_⟩:=RelO.some_of (v:=x) (o:=valueAt vs k) (by rw [<- l];exact rel.val k)
    rw [hn] at hw2
    cases hw2
  have he:∃ q,h'.get? a=some q:=let ⟨q,_,_,hq,_⟩:=dd';⟨q,hq⟩
  have hl:(putK kvs k v).length<=sizeLine:=by have:=length_putK kvs k v;omega
  exact h2 l _ (d_write I (by rw [e];exact True.intro) hs he (dk_new hl hd (rel.put k rv) dd'))
end
def tDDef (td ty tx:TE):TE:=fun σ H Q=>td σ H fun x H1=>∃ a,x = .ref a∧(∃ kvs,H1 a=some (.dK kvs))∧ty σ H1 fun y H2=>tx σ H2 fun z H3=>∃ kvs k,H3 a=some (.dK kvs)∧y=kV k∧kvs.length<sizeLine∧(∀ v,valV kvs k=some v->Q v H3)∧(valV kvs k=none->Q z (upd H3 a (.dK (putK kvs k z))))
section
variable {X:Cx}{o e f:Expr}{apos cpos:Pos}{td ty tx:TE}
theorem pe_dsetdef (ho:PE X o td)(he:PE X e ty)(hf:PE X f tx)(m:M2 X o "setdefault" apos e f cpos):PE X (.Call (.Attribute o "setdefault" apos) [e,f] [] cpos) (tDDef td ty tx):=by
 intro pins s σ H Q I h
 refine wpAny_Call_method m.base m.few m.line PySem.F.plainAttrs_dict PySem.F.slot_dict_setdefault PySem.F.type_dict_setdefault (thn (ho pins s σ H _ I h) fun u s1 ⟨x,H1,I1,rx,a,ex,⟨kvs0,d⟩,q1⟩=>?_)
 subst ex
 obtain rfl:u=Value.ref a:=rx
 obtain ⟨z0,hd0,vs0,rel0,dd0⟩:=dk_of I1.hok d
 refine ⟨dd0.typeIs,fun b q=>?_,?_⟩
 ·cases q
  obtain ⟨ob,_,_,g1,g2,_⟩:=dd0
  exact ⟨ob,g1,g2.2.1⟩
 rw [m.trees]
 refine Calls.callWith_builtin rfl (Calls.evalArgs_plain (Calls.spliced_cons (thn (he pins s1 σ H1 _ I1 q1) fun iv s2 ⟨y,H2,I2,ry,q2⟩ =>
  Calls.spliced_cons (thn (hf pins s2 σ H2 _ I2 q2) fun fv s3 ⟨z,H3,I3,rz,kvs,k,ea,ey,hz,q3,q4⟩=>Calls.spliced_nil ?_))))
 subst ey
 exact d_setdef I3 ea ry rz hz (fun v l w' s4 I4 rw'=>⟨v,H3,I4,rw',q3 v l⟩) fun l s4 I4=>⟨z,_,I4,rz,q4 l⟩
end
end L2
namespace SS
open PySem PyProof.Rows L2
section
variable {prog:Program}{w:World}{A:Around}{E:Value->Shared->Prop}{s:Shared}
theorem init_dict {a:Addr}{vs:List (Key×Value)}{ep:Nat}{R:Result->Shared->Prop}(hh:A.handled=none)(hd:(a==sysModules)=false)(hD:Heap.DictAt (mixKind prog w) s.heap a vs ep)(hz:vs.length<=sizeLine)(S:Addr)(h1:S≠a)(hS:s.heap.get? S=some { cls:=.type "list",data:=.seq #[] })
  (hR:∀ s' acc' c',(∀ b o,b≠S->s.heap.get? b=some o->s'.heap.get? b=some o)->s'.gens=s.gens->s'.os=s.os->s'.heap.get? S=some { cls:=.type "list",dict:=none,data:=.seq acc' c',slots:=#[] }->ItemsOf (KeyAt vs) acc' vs.length->R (.ok (.ret .none)) s') :
  wpAny (model prog w) A.in1 (Builtin.«list.__init__» ⟨[.ref S,.ref a],[]⟩)
   (fun fin s'=>match fin with | .done f=>R (.ok f) s' | .again c'=>c'.quiet=true∧codeAny (model prog w) A c' R s') (fun e s'=>R (.error e) s') s:=by
 show wpAny _ _ (do let old <- Builtin.List.listItems (.ref S);Builtin.List.listUpdate (.ref S) (fun _=>#[]);letGo old.toList.reverse;Builtin.List.listExtendWith (.ref S) (.ref a) .none) _ _ s
 refine wpAny_bind ?_
 unfold Builtin.List.listItems
 refine wpAny_bind (wpAny_seqItems hS rfl (wpAny_pure ?_))
 show wpAny _ _ (updateSeq S (fun _=>#[]) >>= fun _=>letGo (#[]:Array Value).toList.reverse >>= fun _=>Builtin.List.listExtendWith (.ref S) (.ref a) .none) _ _ s
 refine wpAny_bind (wpAny_updateSeq hS rfl ?_)
 have hS₂:=Heap.get?_update_self (Obj.mapSeq (fun _=>(#[]:Array Value))) hS rfl
 have oth:∀ b o,b≠S->s.heap.get? b=some o->(s.heap.update S (Obj.mapSeq (fun _=>(#[]:Array Value)))).get? b=some o :=
  fun b o hb e=>(Heap.get?_update_other _ _ (Ne.symm hb)).trans e
 refine wpAny_bind (wpAny_letGo ?_)
 have hD2:Heap.DictAt (mixKind prog w) (s.heap.update S (Obj.mapSeq (fun _=>(#[]:Array Value)))) a vs ep:=by
  obtain ⟨o,es,g,r⟩:=hD
  exact ⟨o,es,oth a o (Ne.symm h1) g,r⟩
 refine dextend_ok (A:=A) (s:={ s with heap:=s.heap.update S (Obj.mapSeq (fun _=>(#[]:Array Value))) }) hh hd hD2 hz S .none h1 hS₂ fun s' acc' c' kp g1 g2 e1 e2=>?_
 exact hR s' acc' c' (fun b o hb e=>kp b o hb (oth b o hb e)) g1 g2 e1 e2
theorem call_list_dict {a:Addr}{vs:List (Key×Value)}{ep:Nat}{Q:Value->Shared->Prop}(hh:A.handled=none)(hd:(a==sysModules)=false)(hD:Heap.DictAt (mixKind prog w) s.heap a vs ep)(hz:vs.length<=sizeLine)
  (hQ:∀ (s':Shared) (acc:Array Value) (c':Nat),(∀ b o,s.heap.get? b=some o->s'.heap.get? b=some o)->s'.gens=s.gens->s'.os=s.os->s'.heap.get? s.heap.objs.size=some { cls:=.type "list",dict:=none,data:=.seq acc c',slots:=#[] }->ItemsOf (KeyAt vs) acc vs.length->Q (.ref s.heap.objs.size) s') :
  wpAny (model prog w) A (call (.type "list") [.ref a]) Q E s:=by
 have hlt:a<s.heap.objs.size:=by obtain ⟨o,es,g,r⟩:=hD;exact Heap.lt_size g
 refine callType_codes (Q₁:=fun obj s₁=>obj = .ref s.heap.objs.size∧s₁ = { s with heap:=s.heap.push { cls:=.type "list",data:=.seq #[] } }) F.called_list (F.typeCall_list_1 _) F.entry_list_init
  (code_list_new _ ⟨rfl,rfl⟩) fun obj s₁ h₁=>?_
 obtain ⟨rfl,rfl⟩:=h₁
 have hS:(s.heap.push { cls:=.type "list",data:=.seq #[] }).get? s.heap.objs.size=some { cls:=.type "list",data:=.seq #[] }:=Heap.get?_push_size _ rfl
 refine ⟨⟨_,hS,rfl⟩,F.args_list_init_2 _ _,init_dict (A:=A.in1) (s:={ s with heap:=s.heap.push { cls:=.type "list",data:=.seq #[] } }) hh hd (dat_push hD) hz _ (Nat.ne_of_gt hlt) hS fun s' acc' c' kp g1 g2 e1 e2=>?_⟩
 exact ⟨rfl,hQ s' acc' c' (fun b o e=>kp b o (Nat.ne_of_lt (Heap.lt_size e)) (Heap.get?_push_of_some _ e)) g1 g2 e1 e2⟩
end
end SS
namespace L2
open PySem PyProof.Rows
section
variable {X:Cx}
theorem strs_vals:∀ {us:List Value} {ls:List (List Nat)},StrsAre us (ls.map tx)->Vals (ls.map T) us
 | [],[],_=>.nil
 | u::us,l::ls,h=>by
  cases h with
  | cons x t r=>exact .cons ⟨_,rfl⟩ (strs_vals r)
theorem call_listD (hc:X.calm=true):CallR X (.type "list") (fun xs H Q=>∃ (p:Addr) (ls:List (List Nat)) (kvs:List (Key×V)),xs=[.ref p]∧H p=some (.dK kvs)∧kvs.map (·.1)=ls.map (fun t=>Sum.inr (tx t))∧∀ (D:Addr),H D=none->Q (.ref D) (upd H D (.lst (ls.map T)))):=by
 intro pins s σ H xs us Q I r h
 obtain ⟨p,ls,kvs,rfl,hq,hk,q⟩:=h
 obtain ⟨u,rfl,ru⟩:=vals1 r
 cases ru
 obtain ⟨z,hd,vs,rel,dd⟩:=dk_of I.hok hq
 obtain ⟨o,es,ep,rest⟩:=dd
 have hl:ls.length=kvs.length:=by have:=congrArg List.length hk;simpa using this.symm
 refine SS.call_list_dict (vs:=vs) (ep:=ep) (I.ok.hd hc) hd ⟨o,es,rest⟩ (by rw [<- rel.length];exact z) fun s' acc c' kp g1 g2 e1 e2=>?_
 have hv:=strs_vals (keys_strs hk rel e2)
 have hg:AllBare s'.gens:=by rw [g1];exact I.bare
 have hf:H s.heap.objs.size=none:=I.hok.fresh (Nat.le_refl _)
 have new:ObjOk X.prog X.w (upd H s.heap.objs.size (.lst (ls.map T))) s'.heap s.heap.objs.size (.lst (ls.map T)):=⟨by rw [List.length_map,hl];exact z,acc.toList,c',hv,by simpa using e1⟩
 exact ⟨.ref s.heap.objs.size,_,I.call' (ch:=[]) g2 (Un.laid kp (Nat.le_refl _) hf) (I.hok.laid kp (Nat.le_refl _) new) hg (fun _ z=>nomatch z),rfl,q _ hf⟩
end
end L2
namespace L2
open PySem PyProof.Rows
end L2
namespace L2
open PySem PyProof.Rows
section
variable {X:Cx}{pins:List (Addr×Obj)}{σ:List (Option V)}{H H':Hp}{s:Shared}
theorem Inv.reH (I:Inv X pins σ H s)(free:∀ b,H b=none->H' b=none)(tups:∀ b xs,X.H₀ b=some (.tup xs)->H' b=some (.tup xs))(frzs:∀ b o u,X.H₀ b=some (.frz o u)->H' b=some (.frz o u))(tbls:∀ b ps,X.H₀ b=some (.tbl ps)->∃ more,H' b=some (.tbl (ps++more)))
  (hok:HOk X.prog X.w H' s.heap):Inv X pins σ H' s :=
 ⟨I.ok,I.os,I.bare,⟨I.base.keep,I.base.slot,fun b o e n hx=>free b (I.base.free b o e n hx),I.base.there,tups,frzs,tbls⟩,I.loc,I.cell,free _ I.free,fun x c e=>free _ (I.freeC x c e),fun p hp=>⟨(I.pin p hp).1,free _ (I.pin p hp).2.1,(I.pin p hp).2.2⟩,hok,I.len⟩
theorem hok_upd {P:Program}{w:World}{h:Heap}{a:Addr}{u v:HO}(x:HOk P w H h)(ha:H a=some u)(h1:∀ y,u≠.own y)(h2:∀ xs,u≠.tup xs)(ok:ObjOk P w H h a v):HOk P w (upd H a v) h:=by
 have ho:∀ y b,H b=some (.own y)->upd H a v b=some (.own y):=fun y b e=>by
  rw [upd_ne (fun z=>by rw [z,ha] at e;exact h1 y (Option.some.inj e))];exact e
 have ht:∀ b xs,H b=some (.tup xs)->upd H a v b=some (.tup xs):=fun b xs e=>by
  rw [upd_ne (fun z=>by rw [z,ha] at e;exact h2 xs (Option.some.inj e))];exact e
 intro b o e
 by_cases c:b=a
 ·subst c
  rw [upd_same] at e
  cases e
  exact ok.stay (fun _ _ _ e=>e) (fun c=>ho b c) ht
 ·rw [upd_ne c] at e
  exact (x b o e).stay (fun _ _ _ e=>e) (fun c=>ho b c) ht
theorem Inv.freeze {a:Addr}{kvs:List (Key×V)}(I:Inv X pins σ H s)(e:H a=some (.dK kvs)):∃ o,s.heap.get? a=some o∧Inv X pins σ (upd H a (.frz o (.dK kvs))) s:=by
 have hx:ObjOk X.prog X.w H s.heap a (.dK kvs):=I.hok a _ e
 obtain ⟨o,ho⟩:∃ o,s.heap.get? a=some o:=by
  obtain ⟨_,_,_,_,o,_,_,q,_⟩:=hx
  exact ⟨o,q⟩
 have ne:∀ b u,X.H₀ b=some u->H b=some u->(∀ k,u≠.dK k)->upd H a (.frz o (.dK kvs)) b=some u:=fun b u _ q n=>by
  rw [upd_ne (fun z=>by rw [z,e] at q;exact n _ (Option.some.inj q).symm)];exact q
 refine ⟨o,ho,I.reH (fun b n=>?_) (fun b xs q=>ne b _ q (I.base.tups b xs q) (fun k z=>nomatch z)) (fun b o' u q=>ne b _ q (I.base.frzs b o' u q) (fun k z=>nomatch z)) (fun b ps q=>?_) (hok_upd I.hok e (fun y z=>nomatch z) (fun xs z=>nomatch z) ⟨ho,hx⟩)⟩
 ·rw [upd_ne (fun z=>by rw [z,e] at n;cases n)];exact n
 ·obtain ⟨m,q'⟩:=I.base.tbls b ps q
  exact ⟨m,by rw [upd_ne (fun z=>by rw [z,e] at q';cases q')];exact q'⟩
end
def Itk (a:Addr)(o:Obj)(kvs:List (Key×V)):It :=
 ⟨fun i H=>H a=some (.frz o (.dK kvs))∧i<kvs.length,fun i H x H'=>H'=H∧∃ kv,kvs[i]?=some kv∧x=kV kv.1,fun i H=>H a=some (.frz o (.dK kvs))∧kvs.length<=i⟩
theorem kv_of_is {P:Program}{w:World}{k:Key}{u:Value}(h:(mixKind P w).is k u=true):RelV (kV k) u:=by
 cases k with
 | inl i =>
  have h:Value.isInt i u=true:=h
  have:∃ t,u = .int i t:=by cases u <;> simp_all [Value.isInt]
  obtain ⟨t,rfl⟩:=this
  exact ⟨t,rfl⟩
 | inr x =>
  obtain ⟨t,rfl⟩:=Value.isStrOf_shape (show Value.isStrOf x u=true from h)
  exact ⟨t,rfl⟩
theorem turn_dict {P:Program}{w:World}{K:PySem.W.Frag}{tg:Expr}{a it:Addr}{o:Obj}{kvs:List (Key×V)}{vs:List (Key×Value)}{ep:Nat}(hK:KV kvs vs)(hd:∀ h:Heap,h.get? a=some o->h.DictAt (mixKind P w) a vs ep) :
  Turn P w K tg (Itk a o kvs) [it] it (fun i h=>h.IsKeyIter it a i vs.length ep) where
 mem:=by simp
 obj:=fun i h st b hb=>by
  have e:b=it:=by simpa using hb
  subst e
  obtain ⟨o,e,c,d⟩:=st
  exact ⟨o,e,fun v z=>by rw [d] at z;cases z⟩
 keep:=fun i h h' st k=>st.at fun o e=>k it (by simp) o e
 item:=by
  intro X hP hw hK' hc i pins s σ H E I hf st hg
  subst hP hw hK'
  obtain ⟨ha,hi⟩:=hg
  obtain ⟨ho,_⟩:ObjOk X.prog X.w H s.heap a (.frz o (.dK kvs)):=I.hok a _ ha
  have hl:=hK.length
  obtain ⟨f0,f1,f2,f3,f4,f5⟩:=hf it (by simp)
  have hvi:vs[i]?=some vs[i]:=List.getElem?_eq_getElem (by omega)
  have hki:kvs[i]?=some kvs[i]:=List.getElem?_eq_getElem hi
  have hkk:kvs[i].1=vs[i].1:=by
   have:=hK.keys
   have h1:(kvs.map (·.1))[i]?=(vs.map (·.1))[i]?:=by rw [this]
   rw [List.getElem?_map,List.getElem?_map,hki,hvi] at h1
   exact Option.some.inj h1
  refine wpAny_pyNext_dict_item (k:=vs[i].1) (v:=vs[i].2) st (hd _ ho) hvi fun key h' hkey st' sb=>?_
  have I1:Inv X pins σ H { s with heap:=h' }:=I.turned (t':=s.toks) (fun b o hb e=>(sb.2 b hb).trans e) f0 f1 f3 f4 f5
  exact ⟨key,rfl,letGo_keyiter (s':={ s with heap:=h' }) st' ⟨kV kvs[i].1,H,I1,by rw [hkk];exact kv_of_is hkey,⟨rfl,_,hki,rfl⟩,st',fun b hb=>(hf b hb).1⟩⟩
 done:=by
  intro X hP hw hK' hc i pins s σ H E I hf st hg
  subst hP hw hK'
  obtain ⟨ha,hi⟩:=hg
  obtain ⟨ho,_⟩:ObjOk X.prog X.w H s.heap a (.frz o (.dK kvs)):=I.hok a _ ha
  have hl:=hK.length
  obtain ⟨f0,f1,f2,f3,f4,f5⟩:=hf it (by simp)
  exact wpAny_pyNext_dict_end (I.ok.hd hc) st (hd _ ho) (List.getElem?_eq_none (by omega)) fun h' eb=>⟨rfl,I.turned (t':=s.toks) (fun b o hb e=>eb b o hb e) f0 f1 f3 f4 f5⟩
 self:=fun _ _ _ _ _ st h=>wpAny_pyIter_keyiter st h
def iDict (td:TE):TI:=fun σ H R=>td σ H fun x H1=>∃ a kvs,x = .ref a∧H1 a=some (.dK kvs)∧∀ o,R (Itk a o kvs) (upd H1 a (.frz o (.dK kvs)))
section
variable {X:Cx}{tg:Expr}
theorem pi_dict {l:Expr}{tl:TE}(hl:PE X l tl):PI X tg l (iDict tl):=by
 intro pins s σ H R I h
 refine thn (hl pins s σ H _ I h) fun v s1 ⟨x,H1,I1,r1,q1⟩=>?_
 obtain ⟨a,kvs,e,ha,q⟩:=q1
 subst e
 cases r1
 obtain ⟨z,hsm,vs,rel,dd⟩:=dk_of I1.hok ha
 obtain ⟨ep,dat⟩:=dd.dictAt
 obtain ⟨o,ho,I2⟩:=I1.freeze ha
 refine wpAny_pyIter_dict hsm dat ?_
 refine ⟨s1.heap.objs.size,[s1.heap.objs.size],_,_,_,rfl,I2.kept (t':=s1.toks) fun b o e=>Heap.get?_push_of_some _ e,turn_dict rel (fun h e=>dat.at' fun o' e'=>by rw [ho] at e';rw [<- e'];exact e),⟨_,Heap.get?_push_size _ rfl,rfl,rfl⟩,fun b hb=>?_,q o⟩
 have e:b=s1.heap.objs.size:=by simpa using hb
 subst e
 exact I2.fpOk (Nat.le_refl _) (I2.hok.fresh (Nat.le_refl _))
end
theorem compf_dict {a:Addr}{o:Obj}{kvs:List (Key×V)}{tc:TT}{te:TE}{σ:St}{H:Hp}{Q:VK}(p:Key->Bool)(f:Key->V)(hl:H a=some (.frz o (.dK kvs)))(hn:kvs.length<=sizeLine)
  (hc:∀ kv H',kv∈kvs->Same H H'->∀ N:Bool->Hp->Prop,(∀ H'',Same H' H''->N (p kv.1) H'')->tc (some (kV kv.1)::σ) H' N)
  (he:∀ kv H',kv∈kvs->p kv.1=true->Same H H'->∀ N:V->Hp->Prop,(∀ H'',Same H' H''->N (f kv.1) H'')->te (some (kV kv.1)::σ) H' N)
  (hq:∀ D H',H D=none->Same H H'->H' D=some (.lst (((kvs.map (·.1)).filter p).map f))->Q (.ref D) H'):compAtF tc te σ Q (Itk a o kvs) H:=by
 intro D hD
 have hDa:∀ {G:Hp},Same H G->G a=some (.frz o (.dK kvs)):=fun s=>s a _ hl
 refine ⟨fun i m ys H2=>m=kvs.length-i∧i<=kvs.length∧ys=((((kvs.take i).map (·.1)).filter p).map f)∧Same H H2∧H2 D=some (.lst ys),⟨kvs.length,rfl,Nat.zero_le _,rfl,fun b u e=>?_,upd_same⟩,?_⟩
 ·rw [upd_ne (ne_of_none e hD)]
  exact e
 ·rintro i m ys H2 ⟨rfl,hi,rfl,s2,hd⟩
  by_cases hlt:i<kvs.length
  ·have h1:kvs[i]?=some kvs[i]:=List.getElem?_eq_getElem hlt
   have hm:kvs[i]∈kvs:=List.getElem_mem hlt
   have htk:kvs.take (i+1)=kvs.take i++[kvs[i]]:=by rw [List.take_add_one,h1];rfl
   have hlen:((((kvs.take i).map (·.1)).filter p).map f).length<=i:=by
    rw [List.length_map]
    refine Nat.le_trans (List.length_filter_le _ _) ?_
    rw [List.length_map,List.length_take]
    omega
   refine .inr ⟨⟨hDa s2,hlt⟩,by omega,fun v H'=>p kvs[i].1=true∧v=f kvs[i].1∧Same H2 H',fun v H' ⟨hp,ev,hs'⟩=>⟨hs' D _ hd,kvs.length-(i+1),by omega,rfl,hlt,?app,fun b u e=>?kp,upd_same⟩,fun H'=>p kvs[i].1=false∧Same H2 H',fun H' ⟨hp,hs'⟩=>⟨kvs.length-(i+1),by omega,rfl,hlt,?no,s2.trans hs',hs' D _ hd⟩,fun y H' hy'=>?stp⟩
   case app=>rw [ev,htk,List.map_append,List.filter_append,List.map_append,List.map_singleton,List.filter_cons,hp];rfl
   case kp =>
    rw [upd_ne (ne_of_none e hD)]
    exact hs' b u (s2 b u e)
   case no=>rw [htk,List.map_append,List.filter_append,List.map_append,List.map_singleton,List.filter_cons,hp];simp
   case stp =>
    obtain ⟨rfl,kv,hkv,rfl⟩:=hy'
    obtain rfl:kvs[i]=kv:=Option.some.inj (h1.symm.trans hkv)
    refine hc _ _ hm s2 _ fun H3 s3=>?_
    cases hp:p kvs[i].1 with
    | true =>
     rw [if_pos rfl]
     exact he _ _ hm hp (s2.trans s3) _ fun H4 s4=>⟨rfl,rfl,s3.trans s4⟩
    | false =>
     rw [if_neg Bool.false_ne_true]
     exact ⟨rfl,s3⟩
  ·have e:i=kvs.length:=by omega
   subst e
   rw [List.take_of_length_le (Nat.le_refl _)] at hd
   exact .inl ⟨⟨hDa s2,Nat.le_refl _⟩,hq D H2 hD s2 hd⟩
end L2
namespace L2
open PySem PyProof.Rows
section
variable {X:Cx}{o:Expr}{td:TE}{apos cpos:Pos}
end
end L2
namespace L2
open PySem PyProof.Rows PySem.Spec
section
variable {X:Cx}
end
end L2
namespace L2
open PySem PyProof.Rows
section
variable {X:Cx}{pins:List (Addr×Obj)}{σ:St}{H:Hp}{s:Shared}
end
section
variable {X:Cx}
end
end L2
namespace L2
open PySem PySem.Spec PyProof.Rows
section
variable {M:Model}{A:Around}{E:Value->Shared->Prop}{s:Shared}
end
section
variable {X:Cx}{N':List Str}{scope:Scope}{x:Str}{px:Pos}{elt iter:Expr}{cds:List Expr}{pos:Pos}{te:TE}{tc:TT}{wi:TI}
end
end L2
namespace L2
open PySem PySem.Spec PyProof.Rows
section
variable {X:Cx}{N':List Str}{scope:Scope}{x:Str}{px:Pos}{elt iter:Expr}{cds:List Expr}{pos:Pos}{te:TE}{tc:TT}{wi:TI}
end
end L2
namespace L2
open PySem PyProof.Rows PySem.Spec
section
variable {X:Cx}
theorem eqT_lists {pins:List (Addr×Obj)}{σ:St}{H:Hp}{s:Shared}{A:Around}(I:Inv X pins σ H s)(hu:A.units<cLine){D F:Addr}{ls:List (List Nat)}(h1:SqL X.K H D (ls.map T))(h2:SqL X.K H F (ls.map T)):SeqAt.EqAt A s (.ref D) (.ref F) true:=by
 by_cases hne:D=F
 ·subst hne
  exact SeqAt.EqAt.same _
 obtain ⟨its,r,pl,_⟩:=I.list h1
 obtain ⟨its2,r2,pl2,_⟩:=I.list h2
 have l1:=r.length
 have l2:=r2.length
 have z:=SeqAt.EqAt.of_refs hne (SeqAt.RcAt.lists (A:=A) (s:=s) (e:=fun _=>true) pl.isList pl2.isList (by rw [List.size_toArray,List.size_toArray];omega) hu fun j g1 g2=>?_)
 ·rw [show (List.range its.toArray.size).all (fun _=>true)=true by simp] at z
  exact z
 ·have hj:j<ls.length:=by
   rw [List.length_map] at l1
   rw [List.size_toArray] at g1
   omega
  obtain ⟨u',e1,q1⟩:=r.get (i:=j) (x:=T ls[j]) (by rw [List.getElem?_map,List.getElem?_eq_getElem hj];rfl)
  obtain ⟨w',e2,q2⟩:=r2.get (i:=j) (x:=T ls[j]) (by rw [List.getElem?_map,List.getElem?_eq_getElem hj];rfl)
  have e:=eqAt_V (A:=A.in1) (s:=s) q1 q2 rfl rfl
  rw [show eqV (T ls[j]) (T ls[j])=true from by show (tx ls[j]==tx ls[j])=true;rw [beq_iff_eq]] at e
  have a1:its.toArray[j]=u':=by
   rw [List.getElem_toArray]
   exact (List.getElem?_eq_some_iff.mp e1).2
  have a2:its2.toArray[j]=w':=by
   rw [List.getElem_toArray]
   exact (List.getElem?_eq_some_iff.mp e2).2
  rw [a1,a2]
  exact e
end
section
variable {X:Cx}{N':List Str}{scope:Scope}{x:Str}{px:Pos}{elt iter cd:Expr}{pos:Pos}{te:TE}{tc:TT}{wi:TI}
end
theorem compFL {J:It}{vs:List V}{tc:TT}{te:TE}{σ:St}{H:Hp}{Q:VK}(p:V->Bool)(g:V->List V)(rd:Reads J H vs)(hn:vs.length<=sizeLine)
  (ht:∀ x H',x∈vs->Same H H'->∀ N:Bool->Hp->Prop,(∀ H'',Same H' H''->N (p x) H'')->tc (some x::σ) H' N)
  (he:∀ x H',x∈vs->p x=true->Same H H'->∀ N:V->Hp->Prop,(∀ c H'',Same H' H''->H' c=none->H'' c=some (.lst (g x))->N (.ref c) H'')->te (some x::σ) H' N)
  (hq:∀ D bs H',H D=none->Same H H'->H' D=some (.lst (bs.map V.ref))->Dt.R2 (fun v b=>b≠D∧H b=none∧H' b=some (.lst (g v))) (vs.filter p) bs->Q (.ref D) H'):compAtF tc te σ Q J H:=by
 intro D hD
 refine ⟨fun i m ys H2=>m=vs.length-i∧i<=vs.length∧Same H H2∧H2 D=some (.lst ys)∧∃ bs:List Addr,ys=bs.map V.ref∧Dt.R2 (fun v b=>b≠D∧H b=none∧H2 b=some (.lst (g v))) ((vs.take i).filter p) bs,⟨vs.length,rfl,Nat.zero_le _,fun b o e=>?_,upd_same,[],rfl,.nil⟩,?_⟩
 ·rw [upd_ne (ne_of_none e hD)]
  exact e
 ·rintro i m ys H2 ⟨rfl,hi,hs,hd,bs,rfl,hb⟩
  by_cases hlt:i<vs.length
  ·have hx:vs[i]?=some vs[i]:=List.getElem?_eq_getElem hlt
   have hbl:bs.length<=i:=by have:=hb.len;have:=filter_take_len p vs i;omega
   refine .inr ⟨rd.go i H2 hs hlt,by rw [List.length_map];omega,fun v H'=>p vs[i]=true∧Same H2 H'∧∃ c,v = .ref c∧c≠D∧H c=none∧H' c=some (.lst (g vs[i])),fun v H' ⟨hp,hs',c,ev,hcD,hcn,hc⟩=>⟨hs' D _ hd,vs.length-(i+1),by omega,rfl,hlt,fun b o e=>?kp,upd_same,bs++[c],?app,?la⟩,
    fun H'=>p vs[i]=false∧Same H2 H',fun H' ⟨hp,hs'⟩=>⟨vs.length-(i+1),by omega,rfl,hlt,fun b o e=>hs' b o (hs b o e),hs' D _ hd,bs,rfl,?skp⟩,fun y H' hy=>?stp⟩
   case app =>
    rw [ev,List.map_append]
    rfl
   case kp =>
    rw [upd_ne (ne_of_none e hD)]
    exact hs' b o (hs b o e)
   case la =>
    rw [take_filter p vs i _ hx,hp]
    refine Dt.R2.snoc (hb.mono fun v b _ ⟨h1,h0,h2⟩=>⟨h1,h0,by rw [upd_ne h1];exact hs' b _ h2⟩) ⟨hcD,hcn,by rw [upd_ne hcD];exact hc⟩
   case skp =>
    rw [take_filter p vs i _ hx,hp]
    rw [show (if false=true then [vs[i]] else [])=[] from rfl,List.append_nil]
    exact hb.mono fun v b _ ⟨h1,h0,h2⟩=>⟨h1,h0,hs' b _ h2⟩
   case stp =>
    obtain ⟨rfl,e2⟩:=rd.yl i H2 y H' hs hy
    have e4:y=vs[i]:=by rw [hx] at e2;exact (Option.some.inj e2).symm
    subst e4
    refine ht _ _ (List.getElem_mem hlt) hs _ fun H'' h''=>?_
    by_cases hp:p vs[i]=true
    ·rw [if_pos hp]
     refine he _ _ (List.getElem_mem hlt) hp (hs.trans h'') _ fun c H3 h3 hc1 hc2=>⟨hp,h''.trans h3,c,rfl,fun z=>?_,?_,hc2⟩
     ·rw [z,h'' D _ hd] at hc1;cases hc1
     ·cases e:H c with
      | none=>rfl
      | some o=>rw [h'' c o (hs c o e)] at hc1;cases hc1
    ·rw [if_neg hp]
     exact ⟨by simpa using hp,h''⟩
  ·have e:i=vs.length:=by omega
   subst e
   rw [List.take_length] at hb
   exact .inl ⟨rd.st H2 hs,hq D bs H2 hD hs hd hb⟩
end L2
namespace L2
open PySem PyProof.Rows
def SqA (K:PySem.W.Frag)(H:Hp)(a:Addr)(xs:List V):Prop:=SqL K H a xs∨SqT K H a xs
theorem SqA.on {K:PySem.W.Frag}{H H':Hp}{a:Addr}{xs:List V}(h:SqA K H a xs)(s:Same H H'):SqA K H' a xs:=h.elim (fun h=>.inl (s.seq h)) fun h=>.inr (tupOn s h)
def iSq (K:PySem.W.Frag)(tl:TE):TI:=fun σ H R=>tl σ H fun x H1=>∃ a xs H0,x = .ref a∧SqA K H0 a xs∧Same H0 H1∧∀ J,Reads J H0 xs->R J H1
section
variable {X:Cx}{tg:Expr}
theorem pi_seq {l:Expr}{tl:TE}(hl:PE X l tl):PI X tg l (iSq X.K tl):=by
 intro pins s σ H R I h
 refine thn (hl pins s σ H _ I h) fun v s1 ⟨x,H1,I1,r1,q1⟩=>?_
 obtain ⟨a,xs,H0,e,hq0 | hq0,s0,q0⟩:=q1
 ·have hq:=s0.seq hq0
  have q:=q0 _ (reads_list hq0)
  subst e
  cases r1
  obtain ⟨its,rv,p,hz⟩:=I1.list hq
  refine wpAny_pyIter_list p.isList ?_
  refine ⟨s1.heap.objs.size,[s1.heap.objs.size],_,_,H1,rfl,I1.kept (t':=s1.toks) fun b o e=>Heap.get?_push_of_some _ e,turn_list a _,⟨_,Heap.get?_push_size _ rfl,rfl,rfl⟩,fun b hb=>?_,q⟩
  have e:b=s1.heap.objs.size:=by simpa using hb
  subst e
  exact I1.fpOk (Nat.le_refl _) (I1.hok.fresh (Nat.le_refl _))
 ·have hq:=tupOn s0 hq0
  have q:=q0 _ (reads_tup hq0)
  subst e
  cases r1
  obtain ⟨its,rv,p,hz⟩:=I1.tuple hq
  refine wpAny_pyIter_tuple (show s1.heap.IsTuple a its.toArray from p) ?_
  refine ⟨s1.heap.objs.size,[s1.heap.objs.size],_,_,H1,rfl,I1.kept (t':=s1.toks) fun b o e=>Heap.get?_push_of_some _ e,turn_tuple a _,⟨_,Heap.get?_push_size _ rfl,rfl,rfl⟩,fun b hb=>?_,q⟩
  have e:b=s1.heap.objs.size:=by simpa using hb
  subst e
  exact I1.fpOk (Nat.le_refl _) (I1.hok.fresh (Nat.le_refl _))
theorem pi_seqK (K:PySem.W.Frag)(hK:X.K=K){l:Expr}{tl:TE}(hl:PE X l tl):PI X tg l (iSq K tl):=by
 subst hK
 exact pi_seq hl
end
theorem for_reads {J:It}{H0:Hp}{vs:List V}{g:TG}{tb:TS}{D:Ends}{σ:St}{H:Hp}(rd:Reads J H0 vs)(Pv:Nat->St->Hp->Prop)(h0:Pv 0 σ H)(hl:∀ i σ H,i<=vs.length->Pv i σ H->Same H0 H)
  (hs:∀ i x σ H,vs[i]?=some x->Pv i σ H->g x σ H fun σ2 H2=>tb { D with nx:=Pv (i+1),ct:=Pv (i+1),bk:=D.nx } σ2 H2) (hd:∀ σ H,Pv vs.length σ H->D.nx σ H) :
  ∃ W:Nat->Nat->St->Hp->Prop,(∃ m,W 0 m σ H)∧∀ i m σ H,W i m σ H ->
   (J.stop i H∧D.nx σ H)∨(J.go i H∧∃ N:St->Hp->Prop,(∀ σ' H',N σ' H'->∃ m',m'<m∧W (i+1) m' σ' H')∧∀ x H',J.yld i H x H'->g x σ H' fun σ2 H2=>tb { D with nx:=N,ct:=N,bk:=D.nx } σ2 H2):=by
 refine ⟨fun i m σ H=>m=vs.length-i∧i<=vs.length∧Pv i σ H,⟨vs.length,by simp,Nat.zero_le _,h0⟩,?_⟩
 rintro i m σ H ⟨rfl,hi,p⟩
 have hA:=hl i σ H hi p
 by_cases hlt:i<vs.length
 ·refine .inr ⟨rd.go i H hA hlt,Pv (i+1),fun σ' H' p'=>⟨vs.length-(i+1),by omega,rfl,hlt,p'⟩,fun x H' hy=>?_⟩
  obtain ⟨rfl,e⟩:=rd.yl i H x H' hA hy
  exact hs i x σ _ e p
 ·have e:i=vs.length:=by omega
  subst e
  exact .inl ⟨rd.st H hA,hd σ H p⟩
end L2
namespace L2
open PySem PyProof.Rows
theorem compAtF.un {te:TE}{σ:St}{Q:VK}{J:It}{H:Hp}(hw:compAtF (fun _ H k=>k true H) te σ Q J H):compAt te σ Q J H:=fun D hD=>by
 obtain ⟨W,h0,hW⟩:=hw D hD
 refine ⟨W,h0,fun i m ys H2 hw2=>?_⟩
 rcases hW i m ys H2 hw2 with g | ⟨g1,g2,N,g3,Nn,g4,g5⟩
 ·exact .inl g
 ·refine .inr ⟨g1,g2,N,g3,fun y H' hy=>?_⟩
  have:=g5 y H' hy
  dsimp only at this
  rw [if_pos rfl] at this
  exact this
theorem compL {J:It}{vs:List V}{te:TE}{σ:St}{H:Hp}{Q:VK}(g:V->List V)(rd:Reads J H vs)(hn:vs.length<=sizeLine)
  (he:∀ x H',x∈vs->Same H H'->∀ N:V->Hp->Prop,(∀ c H'',Same H' H''->H' c=none->H'' c=some (.lst (g x))->N (.ref c) H'')->te (some x::σ) H' N)
  (hq:∀ D bs H',H D=none->Same H H'->H' D=some (.lst (bs.map V.ref))->Dt.R2 (fun v b=>b≠D∧H b=none∧H' b=some (.lst (g v))) vs bs->Q (.ref D) H'):compAt te σ Q J H:=by
 refine compAtF.un (compFL (fun _=>true) g rd hn (fun x H' _ s N hN=>hN H' (Same.refl _)) (fun x H' hx _ s N hN=>he x H' hx s N hN) fun D bs H' h1 h2 h3 h4=>?_)
 rw [List.filter_eq_self.mpr fun _ _=>rfl] at h4
 exact hq D bs H' h1 h2 h3 h4
end L2
namespace L2
open PySem PyProof.Rows PySem.Spec
section
variable {X:Cx}
end
end L2
namespace L2
open PySem PyProof.Rows PySem.Spec
section
variable {X:Cx}
end
end L2
namespace L2
open PySem
theorem ps_false {X:Cx}{st:Stmt}:PS X st (fun _ _ _=>False):=fun _ _ _ _ _ _ h=>h.elim
end L2
namespace L2
open PySem PyProof.Rows PySem.Spec
section
variable {X:Cx}
theorem sorted_ofS {pins:List (Addr×Obj)}{σ:St}{H:Hp}{s:Shared}{v:Value}{ls:List (List Nat)}{Q:VK}(h64:ls.length<64)
  (hc:∀ (A':Around) (Q':List Value->Shared->Prop),A'.handled=X.A.handled->(∀ (vs:List Value) (ss:List Str) (s1:Shared),StrsAre vs ss->ss.Perm (ls.map tx)->Inv X pins σ H s1->Q' vs s1)->wpAny (model X.prog X.w) A' (collect v) Q' X.xe s)
  (q:∀ (ms:List (List Nat)) (D:Addr),H D=none->ms.Perm ls->ms.Pairwise (fun a b=>¬ b<a)->Q (.ref D) (upd H D (.lst (ms.map T)))) :
  wpAny (model X.prog X.w) X.A (call (.builtin "sorted") [v]) (EP X pins σ Q) X.xe s:=by
 have hz:ls.length<=sizeLine:=by rw [sizeLine_eq];omega
 refine Calls.call_function_entry kind_sorted plain_sorted entry_sorted (args_sorted1 _) ?_
 unfold Builtin.«sorted»
 refine wpAny_bind (m:=checkCount "sorted" 1 1 _) (wpAny_pure (wpAny_bind (hc _ _ (by simp) fun vs ss s1 hS hp I1=>wpAny_bind (wpAny_newList ?_ (by rw [hS.length,hp.length_eq,List.length_map];exact hz)))))
 have e2:(s1.heap.push (seqObj "list" vs.toArray 0)).get? s1.heap.objs.size=some (seqObj "list" vs.toArray 0):=Heap.get?_push_size _ rfl
 have hvl:vs.length=ls.length:=by rw [hS.length,hp.length_eq,List.length_map]
 show wpAny _ _ _ _ _ { s1 with heap:=s1.heap.push (seqObj "list" vs.toArray 0) }
 have key:∀ (out:Array Value) (ss':List Str),StrsAre out.toList ss'->ss'.Perm ss->sortedS ss'=true->EP X pins σ Q (.ref s1.heap.objs.size) { s1 with heap:=sortedHeap (s1.heap.push (seqObj "list" vs.toArray 0)) s1.heap.objs.size vs out }:=fun out ss' b1 b2 b3=>by
  obtain ⟨e,he⟩:=sortedHeap_at (out:=out) e2
  have em:(ss'.map fun x=>x.cps.toList).map tx=ss':=by
   rw [List.map_map]
   conv=>rhs;rw [<- List.map_id ss']
   exact List.map_congr_left fun x _=>tx_eta x
  have hp':(ss'.map fun x=>x.cps.toList).Perm ls:=by
   have y:=(b2.trans hp).map fun x=>x.cps.toList
   rw [List.map_map,show (fun x=>x.cps.toList)∘tx=id from funext tx_cps,List.map_id] at y
   exact y
  refine ⟨.ref _,_,I1.laid (t':=s1.toks) (fun b o eo=>?_) (Nat.le_refl _) (o:=.lst ((ss'.map fun x=>x.cps.toList).map T)) ⟨?_,out.toList,e,strs_back b1,by simpa using he⟩,rfl,q _ _ (I1.hok.fresh (Nat.le_refl _)) hp' (sorted_pw _ (by rw [em];exact b3))⟩
  ·have hlt:=Heap.lt_size eo
   rw [sortedHeap_old (Nat.ne_of_lt hlt) (by rw [size_push'];exact Nat.lt_succ_of_lt hlt)]
   exact Heap.get?_push_of_some _ eo
  ·rw [List.length_map,hp'.length_eq]
   exact hz
 refine wpAny_bind (wpAny_holding (wpAny_call_entry slot_list_sort ⟨_,e2,rfl⟩ entry_list_sort (list_sort_treeK strKind_oneLt e2 hS.keysOf (fun v1 v2 r e=>?_) (by omega) fun st' a1 a2=>⟨_,rfl,wpAny_pure ⟨_,rfl,?_⟩⟩) (args_list_sort _)))
 ·have hS2:=hS
  rw [e] at hS2
  exact keyKind_strs hS2
 ·obtain ⟨ss',b1,b2,b3⟩:=sorted_out_str hS a1 a2
  exact key _ ss' b1 b2 b3
theorem call_sortedIS (hc:X.calm=true):CallR X (.builtin "sorted") (fun xs H Q=>∃ (p:Addr) (ls:List (List Nat)),xs=[.ref p]∧H p=some (SetI X.w p ls)∧ls.length<64∧∀ (ms:List (List Nat)) (D:Addr),H D=none->ms.Perm ls->ms.Pairwise (fun a b=>¬ b<a)->Q (.ref D) (upd H D (.lst (ms.map T)))):=by
 intro pins s σ H xs us Q I r h
 obtain ⟨p,ls,rfl,hq,hz,q⟩:=h
 obtain ⟨u,rfl,ru⟩:=vals1 r
 cases ru
 have hs:sizeLine=16777216:=sizeLine_eq
 refine sorted_ofS hz (fun A' Q' hA hQ=>SS.collect_ok (by rw [hA];exact I.ok.hd hc) (setI_ok I hq) (by rw [List.length_map];omega) fun s' vs ss kp g1 g2 e1 e2=>hQ vs ss s' e1 e2 ?_) q
 have hg:AllBare s'.gens:=by rw [g1];exact I.bare
 exact I.call' (ch:=[]) g2 (Un.kept kp) (I.hok.kept kp) hg fun _ z=>nomatch z
theorem call_sortedDS (hc:X.calm=true):CallR X (.builtin "sorted") (fun xs H Q=>∃ (p:Addr) (ls:List (List Nat)) (kvs:List (Key×V)),xs=[.ref p]∧H p=some (.dK kvs)∧kvs.map (·.1)=ls.map (fun t=>Sum.inr (tx t))∧ls.length<64∧∀ (ms:List (List Nat)) (D:Addr),H D=none->ms.Perm ls->ms.Pairwise (fun a b=>¬ b<a)->Q (.ref D) (upd H D (.lst (ms.map T)))):=by
 intro pins s σ H xs us Q I r h
 obtain ⟨p,ls,kvs,rfl,hq,hk,h64,q⟩:=h
 obtain ⟨u,rfl,ru⟩:=vals1 r
 cases ru
 obtain ⟨z,hd,vs,rel,dd⟩:=dk_of I.hok hq
 obtain ⟨o,es,ep,rest⟩:=dd
 have hl:ls.length=kvs.length:=by have:=congrArg List.length hk;simpa using this.symm
 refine sorted_ofS h64 (fun A' Q' hA hQ=>SS.dcollect_ok (vs:=vs) (ep:=ep) (by rw [hA];exact I.ok.hd hc) hd ⟨o,es,rest⟩ (by rw [<- rel.length];exact z) fun s' acc kp g1 g2 e1=>hQ _ (ls.map tx) s' (keys_strs hk rel e1) (List.Perm.refl _) ?_) q
 have hg:AllBare s'.gens:=by rw [g1];exact I.bare
 exact I.call' (ch:=[]) g2 (Un.kept kp) (I.hok.kept kp) hg fun _ z=>nomatch z
end
end L2
namespace SN
open PySem PyProof.Rows SS
def keyV:Value->Int
 | .int x _=>x
 | _=>0
def El (w:World)(e:Int×Value):Prop:=e.1=hashInt (keyV e.2)∧∃ t,e.2 = .int (keyV e.2) t
def Els (w:World)(es:List (Int×Value))(ms:List Int):Prop:=(∀ e∈es,El w e)∧(es.map fun e=>keyV e.2).Perm ms
def Rs (t:SetTable):Prop:=(∀ i j,i<j->j<t.place.size->t.place.getD i 0<t.place.getD j 0)∧t.dummies = #[]
def Is (w:World)(h:Heap)(a:Addr)(ms:List Int):Prop :=
 ∃ o es ep t,h.get? a=some o∧o.ExactSet∧o.data = .set es ep t∧Els w es.toList ms∧ms.Nodup∧es.size<scanBound∧t.fits es.size=true∧(byT w=true∨t.led=true)∧Rs t
section
variable {prog:Program}{w:World}{A:Around}{E:Value->Shared->Prop}{s:Shared}
end
section
variable {prog:Program}{w:World}{A:Around}{E:Value->Shared->Prop}{s:Shared}
end
section
variable {prog:Program}{w:World}{A:Around}{E:Value->Shared->Prop}{s:Shared}
end
section
variable {prog:Program}{w:World}{A:Around}{E:Value->Shared->Prop}{s:Shared}
end
end SN
namespace L2
open PySem PySem.Spec PyProof.Rows
namespace SEN
def Of (w:World)(h:Heap)(D:Addr)(ls:List Int)(i:Nat):Prop:=∃ ms,SN.Is w h D ms∧(∀ x,x∈ms↔x∈ls.take i)∧ms.length<=i
section
variable {prog:Program}{w:World}{A:Around}{R:Result->Shared->Prop}{J:Addr}{fp wr:List Addr}{G:Array GenState->Array GenState->Prop}{n:Nat}{P:Nat->Value->Prop}{St:Nat->Shared->Prop}
variable {E:Value->Shared->Prop}{s:Shared}
end
end SEN
section
variable {X:Cx}
end
end L2
namespace L2
open PySem PySem.W PyProof.Rows
section
variable {X:Cx}
theorem call_sortedTuS:CallR X (.builtin "sorted") (fun xs H Q=>∃ (p:Addr) (ls:List (List Nat)),xs=[.ref p]∧SqT X.K H p (ls.map T)∧ls.length<64∧∀ (ms:List (List Nat)) (D:Addr),H D=none->ms.Perm ls->ms.Pairwise (fun a b=>¬ b<a)->Q (.ref D) (upd H D (.lst (ms.map T)))):=by
 intro pins s σ H xs us Q I r h
 obtain ⟨p,ls,rfl,hq,h64,q⟩:=h
 obtain ⟨u,rfl,ru⟩:=vals1 r
 cases ru
 obtain ⟨its,rv,⟨o,ho,hc,n,hd⟩,hz⟩:=I.tuple hq
 have hlen:=rv.length
 rw [List.length_map] at hlen hz
 exact sorted_ofS h64 (fun A' Q' _ hQ=>wpAny_collect_seq p (.inr rfl) ho hc hd (fun h' kp=>hQ _ _ _ (strsAre_T rv) (List.Perm.refl _) (I.kept (t':=s.toks) kp)) (by rw [List.size_toArray];omega)) q
theorem call_sortedSA:CallR X (.builtin "sorted") (fun xs H Q=>∃ (p:Addr) (ls:List (List Nat)),xs=[.ref p]∧SqA X.K H p (ls.map T)∧ls.length<64∧∀ (ms:List (List Nat)) (D:Addr),H D=none->ms.Perm ls->ms.Pairwise (fun a b=>¬ b<a)->Q (.ref D) (upd H D (.lst (ms.map T)))) :=
 fun pins s σ H xs us Q I r ⟨p,ls,e,h,k⟩=>h.elim (fun h=>call_sortedT pins s σ H xs us Q I r ⟨p,ls,e,h,k⟩) fun h=>call_sortedTuS pins s σ H xs us Q I r ⟨p,ls,e,h,k⟩
theorem call_setA (hc:X.calm=true):CallR X (.type "set") (fun xs H Q=>∃ (p:Addr) (ls:List (List Nat)),xs=[.ref p]∧SqA X.K H p (ls.map T)∧ls.length+1<4096∧∀ D,H D=none->Q (.ref D) (upd H D (SetT X.prog X.w D (uniq ls)))) :=
 fun pins s σ H xs us Q I r ⟨p,ls,e,h,k⟩=>h.elim (fun h=>call_setT hc pins s σ H xs us Q I r ⟨p,ls,e,h,k⟩) fun h=>call_setTu hc pins s σ H xs us Q I r ⟨p,ls,e,h,k⟩
theorem ix_A:IxR X (fun x y H Q=>∃ (p:Addr) (xs:List V) (i:Int) (v:V),x = .ref p∧y = .int i∧SqA X.K H p xs∧atI xs i=some v∧Q v H) :=
 fun value slice pins s σ H x y v u Q I rx ry ⟨p,xs,i,z,e1,e2,h,k⟩ hs=>h.elim (fun h=>ix_list value slice pins s σ H x y v u Q I rx ry ⟨p,xs,i,z,e1,e2,h,k⟩ hs) fun h=>ix_tup value slice pins s σ H x y v u Q I rx ry ⟨p,xs,i,z,e1,e2,h,k⟩ hs
end
end L2
namespace L2
open PySem PyProof.Rows
section
variable {X:Cx}
end
end L2
namespace L2
open PySem PyProof.Rows PySem.Spec
section
variable {X:Cx}
end
end L2
namespace L2
open PySem PyProof.Rows PySem.Spec
section
variable {X:Cx}
theorem call_allB (hc:X.calm=true):CallR X (.builtin "all") (fun xs H Q=>∃ (p:Addr) (bs:List Bool),xs=[.ref p]∧SqL X.K H p (bs.map V.bl)∧Q (.bl (bs.all id)) H):=by
 intro pins s σ H xs us Q I r h
 obtain ⟨p,bs,rfl,hq,q⟩:=h
 obtain ⟨u,rfl,ru⟩:=vals1 r
 cases ru
 obtain ⟨its,rv,pl,_⟩:=I.list hq
 have hlen:=rv.length
 rw [List.length_map] at hlen
 have hat:∀ (i:Nat) (v:Value),its.toArray[i]?=some v->v = .bool (bs.getD i false):=fun i v e=>by
  have hi:i<bs.length:=by
   have:=(Array.getElem?_eq_some_iff.mp e).1
   rw [List.size_toArray] at this
   omega
  obtain ⟨w',e1,q1⟩:=rv.get (i:=i) (x:=.bl bs[i]) (by rw [List.getElem?_map,List.getElem?_eq_getElem hi];rfl)
  rw [List.getElem?_toArray,e1] at e
  obtain rfl:=Option.some.inj e
  rw [List.getD_eq_getElem?_getD,List.getElem?_eq_getElem hi]
  exact q1
 have hall:(List.range its.toArray.size).all (fun i=>bs.getD i false)=bs.all id:=by
  rw [List.size_toArray,<- hlen,Bool.eq_iff_iff,List.all_eq_true,List.all_eq_true]
  constructor
  ·intro h b hb
   obtain ⟨i,hi⟩:=List.getElem?_of_mem hb
   have hil:=(List.getElem?_eq_some_iff.mp hi).1
   have:=h i (List.mem_range.mpr hil)
   rw [List.getD_eq_getElem?_getD,hi] at this
   exact this
  ·intro h i hi
   have hil:=List.mem_range.mp hi
   rw [List.getD_eq_getElem?_getD,List.getElem?_eq_getElem hil]
   exact h _ (List.getElem_mem hil)
 have hne:p≠s.heap.objs.size:=by
  obtain ⟨o,ho,_⟩:=id pl.isList
  exact Nat.ne_of_lt (Heap.lt_size ho)
 refine call_all_walk (wpAny_pyIter_list pl.isList ⟨s.heap.objs.size,[s.heap.objs.size,p],[s.heap.objs.size],its.toArray.size,_,_,fun i=>bs.getD i false,rfl,Walks.list (A:=X.A.in1) (show X.A.in1.handled=none from I.ok.hd hc) s.heap.objs.size p hne its.toArray,⟨⟨_,Heap.get?_push_size _ rfl,rfl,rfl⟩,pl.isList.at fun o e=>Heap.get?_push_of_some _ e⟩,?_,fun h' tk hk=>?_⟩)
 ·intro i v s' Q' E' hP hQ
  rw [hat i v hP]
  exact wpAny_truthy_bool hQ
 ·rw [hall]
  exact ⟨.bl _,H,I.kept (fun b o e=>hk b o (by simp;exact Nat.ne_of_lt (Heap.lt_size e)) (Heap.get?_push_of_some _ e)),rfl,q⟩
end
end L2
namespace L2
open PySem
section
variable {X:Cx}
end
end L2
namespace L2
open PySem PyProof.Rows
section
variable {X:Cx}
end
end L2
namespace L2
open PySem PySem.Spec PyProof.Rows
section
variable {X:Cx}
end
end L2
namespace L2
open PySem PySem.Spec PyProof.Rows
end L2
namespace LT
open PySem PyProof.Rows L2
section
variable {prog:Program}{w:World}{A:Around}{R:Result->Shared->Prop}{s:Shared}{l b:Addr}{its jts:Array Value}
end
section
variable {X:Cx}
end
end LT
namespace L2
open PySem PyProof.Rows PySem.Spec
section
variable {X:Cx}{e:Expr}{ta:TE}{f:Str}{pos:Pos}
theorem pe_fldK (K:PySem.W.Frag)(h:X.K=K)(he:PE X e ta)(hb:attributeBase e f X.env (eval e X.env)=eval e X.env):PE X (.Attribute e f pos) (tFld K ta f):=by subst h;exact pe_fld he hb
end
end L2
namespace L2
open PySem PyProof.Rows PySem.Spec
section
variable {X:Cx}
end
end L2
namespace L2
open PySem PyProof.Rows PySem.Spec
section
variable {X:Cx}
end
end L2
namespace L2
open PySem PySem.Spec PyProof.Rows
section
open Builtin Builtin.Str StrLaws
end
end L2
namespace L2
open PySem PySem.Spec PyProof.Rows
section
open Builtin Builtin.Str
end
section
variable {X:Cx}
end
end L2
namespace L2
open PySem PySem.Spec PyProof.Rows
abbrev TabD:=List (List Nat×List (List Nat))
section
variable {X:Cx}{pins:List (Addr×Obj)}{σ:St}{H:Hp}{s:Shared}{a:Addr}{D:TabD}
end
section
variable {X:Cx}
variable {o e f:Expr}{td ty tz:TE}{apos cpos:Pos}
end
end L2
namespace PySem
open Sem (wp)
end PySem
namespace L2
open PySem PyProof.Rows PySem.Spec
section
variable {X:Cx}
end
end L2
namespace L2
open PySem PyProof.Rows PySem.Spec
section
variable {X:Cx}
end
end L2
namespace L2
open PySem PyProof.Rows PySem.Spec
section
variable {X:Cx}(K:PySem.W.Frag)(hK:X.K=K)
include hK
end
end L2
namespace L2
open PySem PyProof.Rows PySem.Spec
section
variable {X:Cx}(K:PySem.W.Frag)(hK:X.K=K)
include hK
end
end L2
namespace L2
open PySem PyProof.Rows PySem.Spec
end L2
namespace L2
open PySem PyProof.Rows PySem.Spec
section
variable {X:Cx}
theorem txt_at2 {ns:List (List Nat)}{its its2:List Value}{A:Around}{s:Shared}(r:Vals (ns.map T) its)(r2:Vals (ns.map T) its2)(m:Nat)(g1:m<its.toArray.size)(g2:m<its2.toArray.size):SeqAt.EqAt A s its.toArray[m] its2.toArray[m] true:=by
 have l1:=r.length
 rw [List.length_map] at l1
 have hm:m<ns.length:=by rw [List.size_toArray] at g1;omega
 obtain ⟨u',e1,q1⟩:=r.get (i:=m) (x:=T ns[m]) (by rw [List.getElem?_map,List.getElem?_eq_getElem hm];rfl)
 obtain ⟨w',e2,q2⟩:=r2.get (i:=m) (x:=T ns[m]) (by rw [List.getElem?_map,List.getElem?_eq_getElem hm];rfl)
 have e:=eqAt_V (A:=A) (s:=s) q1 q2 rfl rfl
 rw [show eqV (T ns[m]) (T ns[m])=true from by show (tx ns[m]==tx ns[m])=true;simp] at e
 have a1:its.toArray[m]=u':=by rw [List.getElem_toArray];exact (List.getElem?_eq_some_iff.mp e1).2
 have a2:its2.toArray[m]=w':=by rw [List.getElem_toArray];exact (List.getElem?_eq_some_iff.mp e2).2
 rw [a1,a2]
 exact e
theorem eqX_tuples {pins:List (Addr×Obj)}{σ:St}{H:Hp}{s:Shared}{A:Around}{D F:Addr}{ns:List (List Nat)}(I:Inv X pins σ H s)(hu:A.units<cLine)(h1:SqT X.K H D (ns.map T))(h2:SqT X.K H F (ns.map T)):SeqAt.EqAt A s (.ref D) (.ref F) true:=by
 by_cases hne:D=F
 ·subst hne
  exact SeqAt.EqAt.same _
 obtain ⟨its,r,pl,_⟩:=I.tuple h1
 obtain ⟨its2,r2,pl2,_⟩:=I.tuple h2
 have z:=SeqAt.EqAt.of_refs hne (SeqAt.RcAt.tuples (A:=A) (s:=s) (e:=fun _=>true) pl pl2 hu fun j g1 g2=>txt_at2 r r2 j g1 g2)
 rw [sz_all (r.length.symm.trans r2.length)] at z
 exact z
def AlikeX (K:PySem.W.Frag)(H:Hp)(p b:Addr):Prop:=∃ (ps bs:List Addr),SqL K H p (ps.map V.ref)∧SqL K H b (bs.map V.ref)∧ps.length=bs.length∧∀ (i:Nat) (h1:i<ps.length) (h2:i<bs.length),∃ ns:List (List Nat),SqT K H ps[i] (ns.map T)∧SqT K H bs[i] (ns.map T)
end
end L2
namespace L2
open PySem PyProof.Rows PySem.Spec
namespace SE
open PySem
section
variable {prog:Program}{w:World}{A:Around}{E:Value->Shared->Prop}{s:Shared}
end
end SE
section
variable {X:Cx}
end
end L2
namespace L2
open PySem PyProof.Rows PySem.Spec
theorem hu2_of {k:Nat}{A:Around}(hr:Room k A):A.units+2<cLine:=by have:=hr.un;omega
section
variable {X:Cx}
theorem eqX_lists {pins:List (Addr×Obj)}{σ:St}{H:Hp}{s:Shared}{A:Around}{p b:Addr}(I:Inv X pins σ H s)(hu:A.units+1<cLine)(h:AlikeX X.K H p b):SeqAt.EqAt A s (.ref p) (.ref b) true:=by
 by_cases hne:p=b
 ·subst hne
  exact SeqAt.EqAt.same _
 obtain ⟨ps,bs,g1,g2,hl,hq⟩:=h
 obtain ⟨its,r,pl,_⟩:=I.list g1
 obtain ⟨its2,r2,pl2,_⟩:=I.list g2
 obtain rfl:=vals_refs r
 obtain rfl:=vals_refs r2
 have z:=SeqAt.EqAt.of_refs hne (SeqAt.RcAt.lists (A:=A) (s:=s) (e:=fun _=>true) pl.isList pl2.isList (by rw [List.size_toArray,List.size_toArray,List.length_map,List.length_map];exact hl) (Nat.lt_of_succ_lt hu) fun j h1 h2=>?_)
 ·rw [show ∀ n,(List.range n).all (fun _=>true)=true from fun n=>by simp] at z
  exact z
 ·rw [List.size_toArray,List.length_map] at h1 h2
  obtain ⟨ns,e1,e2⟩:=hq j h1 h2
  rw [List.getElem_toArray,List.getElem_toArray,List.getElem_map,List.getElem_map]
  exact eqX_tuples I hu e1 e2
def AlikeP (K:PySem.W.Frag)(H:Hp)(p b:Addr):Prop:=∃ (a1 a2 c1 c2:Addr) (ls:List (List Nat)),SqT K H p [.ref a1,.ref c1]∧SqT K H b [.ref a2,.ref c2]∧SqL K H a1 (ls.map T)∧SqL K H a2 (ls.map T)∧AlikeX K H c1 c2
theorem AlikeP.at {pins:List (Addr×Obj)}{σ:St}{H:Hp}{s:Shared}{p b:Addr}(I:Inv X pins σ H s)(hu:X.A.units+2<cLine)(h:AlikeP X.K H p b):∃ its its2:List Value,s.heap.IsTuple p its.toArray∧s.heap.IsTuple b its2.toArray∧its.length=2∧its2.length=2∧∀ j (h1:j<its.toArray.size) (h2:j<its2.toArray.size),SeqAt.EqAt X.A.in1 s its.toArray[j] its2.toArray[j] true:=by
 obtain ⟨a1,a2,c1,c2,ls,h1,h2,h3,h4,h5⟩:=h
 obtain ⟨its,r,pl,_⟩:=I.tuple h1
 obtain ⟨its2,r2,pl2,_⟩:=I.tuple h2
 have l1:=r.length
 have l2:=r2.length
 refine ⟨its,its2,pl,pl2,l1.symm,l2.symm,?_⟩
 rcases r with _ | ⟨k0,r⟩
 rcases r with _ | ⟨k1,r⟩
 cases r
 rcases r2 with _ | ⟨m0,r2⟩
 rcases r2 with _ | ⟨m1,r2⟩
 cases r2
 cases k0
 cases k1
 cases m0
 cases m1
 intro j g1 g2
 match j,g1 with
 | 0,_=>exact eqT_lists I (by show X.A.units+1<cLine;omega) h3 h4
 | 1,_=>exact eqX_lists I (by show X.A.units+1+1<cLine;omega) h5
 | j+2,g=>exact absurd g (by simp)
theorem op_eq_PO (hu:X.A.units+2<cLine):OpR X (compareOp .Eq) (fun x y H Q=>∃ p b:Addr,x = .ref p∧y = .ref b∧AlikeP X.K H p b∧Q (.bl true) H):=by
 intro pins s σ H x y v u Q I rx ry h
 obtain ⟨p,b,rfl,rfl,h1,q⟩:=h
 cases rx
 cases ry
 obtain ⟨its,its2,pl,pl2,l1,l2,he⟩:=h1.at I hu
 have z:=SeqAt.RcAt.tuples (A:=X.A) (s:=s) (e:=fun _=>true) pl pl2 (by omega) he
 rw [sz_all (l1.trans l2.symm)] at z
 exact z _ _ _ _ ⟨.bl true,H,I,rfl,q⟩
theorem op_ne_PO (hu:X.A.units+2<cLine):OpR X (compareOp .NotEq) (fun x y H Q=>∃ p b:Addr,x = .ref p∧y = .ref b∧AlikeP X.K H p b∧Q (.bl false) H):=by
 intro pins s σ H x y v u Q I rx ry h
 obtain ⟨p,b,rfl,rfl,h1,q⟩:=h
 cases rx
 cases ry
 obtain ⟨its,its2,pl,pl2,l1,l2,he⟩:=h1.at I hu
 refine SeqAt.RcNeAt.tuples (e:=fun _=>true) pl pl2 (by omega) he _ _ _ _ ?_
 rw [sz_all (l1.trans l2.symm)]
 exact ⟨.bl false,H,I,rfl,q⟩
theorem call_sortedTK (K:PySem.W.Frag)(hK:X.K=K):CallR X (.builtin "sorted") (fun xs H Q=>∃ (p:Addr) (ls:List (List Nat)),xs=[.ref p]∧SqL K H p (ls.map T)∧ls.length<64∧∀ (ms:List (List Nat)) (D:Addr),H D=none->ms.Perm ls->ms.Pairwise (fun a b=>¬ b<a)->Q (.ref D) (upd H D (.lst (ms.map T)))):=by
 subst hK
 exact call_sortedT
theorem op_eq_LTK (K:PySem.W.Frag)(hK:X.K=K)(hu:X.A.units<cLine):OpR X (compareOp .Eq) (fun x y H Q=>∃ (p b:Addr) (ls ms:List (List Nat)),x = .ref p∧y = .ref b∧SqL K H p (ls.map T)∧SqL K H b (ms.map T)∧Q (.bl (decide (ls=ms))) H):=by
 subst hK
 exact op_eq_LT hu
end
end L2
namespace K42
open PySem L2
seal L2.PSs L2.PS L2.PE L2.PA L2.PT L2.PW L2.PI L2.PG L2.PGs L2.PO L2.PTy L2.PH L2.OpR L2.CallR L2.IxR L2.SlR L2.UnR L2.PSet
def top (i:Nat):Stmt:=PySem.Challenge.pw_onceround_k42_whole_parts_there_and_back.main.body.getD i (.Pass ⟨0,0,0,0⟩)
abbrev s_looked_kinds:Stmt:=top 11
abbrev s_looked_length:Stmt:=top 12
abbrev s_letters:Stmt:=top 13
abbrev s_looked:Stmt:=top 14
abbrev s_row_windows:Stmt:=top 15
abbrev s_ring_windows:Stmt:=top 16
abbrev s_windows:Stmt:=top 17
abbrev s_looked_web:Stmt:=top 21
abbrev s_Web_init:Stmt:=inClass (top 22) 0
abbrev s_begin_of:Stmt:=top 23
abbrev s_end_of:Stmt:=top 24
abbrev s_pieces:Stmt:=top 25
abbrev s_outs:Stmt:=top 26
abbrev s_excess:Stmt:=top 27
abbrev s_hanging_by:Stmt:=top 28
abbrev s_hanging:Stmt:=top 29
abbrev s_why_apart:Stmt:=top 31
abbrev s_why_no_ring:Stmt:=top 32
abbrev s_is_turned_ring:Stmt:=top 34
abbrev s_is_ring:Stmt:=top 35
abbrev s_by_begin:Stmt:=top 41
abbrev s_ways_toward:Stmt:=top 37
abbrev s_coming_to:Stmt:=top 38
abbrev s_is_tree:Stmt:=top 39
abbrev s_parts_of:Stmt:=top 43
abbrev s_whole_orders:Stmt:=top 44
abbrev s_are_parts:Stmt:=top 45
abbrev s_gone_round:Stmt:=top 46
abbrev s_ring_of:Stmt:=top 47
abbrev s__law_cell_at:Stmt:=top 49
abbrev s__law_walk:Stmt:=top 50
abbrev s__law_ring_words:Stmt:=top 51
abbrev s__law_around:Stmt:=top 52
abbrev s__law_due:Stmt:=top 53
abbrev s__law_told:Stmt:=top 54
abbrev s_law:Stmt:=top 55
theorem sc_looked_kinds:FnScope ["kinds"] ["kinds"] (defScope s_looked_kinds):=⟨rfl,rfl,rfl,by decide +kernel,rfl,by decide +kernel,by decide +kernel⟩
theorem sc_looked_length:FnScope ["length", "kinds"] ["length", "kinds"] (defScope s_looked_length):=⟨rfl,rfl,rfl,by decide +kernel,rfl,by decide +kernel,by decide +kernel⟩
theorem sc_letters:FnScope ["kinds"] ["kinds"] (defScope s_letters):=⟨rfl,rfl,rfl,by decide +kernel,rfl,by decide +kernel,by decide +kernel⟩
theorem sc_looked:FnScope ["word", "kinds", "known", "sign"] ["word", "kinds"] (defScope s_looked):=⟨rfl,rfl,rfl,by decide +kernel,rfl,by decide +kernel,by decide +kernel⟩
theorem sc_row_windows:FnScope ["text", "length"] ["text", "length"] (defScope s_row_windows):=⟨rfl,rfl,rfl,by decide +kernel,rfl,by decide +kernel,by decide +kernel⟩
def csc_row_windows_0:Scope:={ kind:=PySem.ScopeKind.function,names:=[ (PySem.Str.ofString ".0",PySem.NameKind.local),(PySem.Str.ofString "place",PySem.NameKind.local),(PySem.Str.ofString "length",PySem.NameKind.free),(PySem.Str.ofString "text",PySem.NameKind.free)],isGenerator:=false,isCoroutine:=false,more:=[]:PySem.Scope }
theorem cs_row_windows_0:CompSc ["text", "length"] ["place", "text", "length"] (defScope s_row_windows) csc_row_windows_0 "place" := ⟨rfl,by decide +kernel,by decide +kernel,rfl,by decide +kernel,rfl,rfl,by decide +kernel,rfl,by decide +kernel,by decide +kernel⟩
theorem sc_ring_windows:FnScope ["text", "length", "size", "around"] ["text", "length"] (defScope s_ring_windows):=⟨rfl,rfl,rfl,by decide +kernel,rfl,by decide +kernel,by decide +kernel⟩
def csc_ring_windows_0:Scope:={ kind:=PySem.ScopeKind.function,names:=[ (PySem.Str.ofString ".0",PySem.NameKind.local),(PySem.Str.ofString "place",PySem.NameKind.local),(PySem.Str.ofString "around",PySem.NameKind.free),(PySem.Str.ofString "length",PySem.NameKind.free)],isGenerator:=false,isCoroutine:=false,more:=[]:PySem.Scope }
theorem cs_ring_windows_0:CompSc ["text", "length", "size", "around"] ["place", "text", "length", "size", "around"] (defScope s_ring_windows) csc_ring_windows_0 "place" := ⟨rfl,by decide +kernel,by decide +kernel,rfl,by decide +kernel,rfl,rfl,by decide +kernel,rfl,by decide +kernel,by decide +kernel⟩
theorem sc_windows:FnScope ["text", "length", "ring"] ["text", "length", "ring"] (defScope s_windows):=⟨rfl,rfl,rfl,by decide +kernel,rfl,by decide +kernel,by decide +kernel⟩
theorem sc_looked_web:FnScope ["words", "word"] ["words"] (defScope s_looked_web):=⟨rfl,rfl,rfl,by decide +kernel,rfl,by decide +kernel,by decide +kernel⟩
theorem sc_Web_init:FnScope ["self", "words"] ["self", "words"] (defScope s_Web_init):=⟨rfl,rfl,rfl,by decide +kernel,rfl,by decide +kernel,by decide +kernel⟩
theorem sc_begin_of:FnScope ["word"] ["word"] (defScope s_begin_of):=⟨rfl,rfl,rfl,by decide +kernel,rfl,by decide +kernel,by decide +kernel⟩
theorem sc_end_of:FnScope ["word"] ["word"] (defScope s_end_of):=⟨rfl,rfl,rfl,by decide +kernel,rfl,by decide +kernel,by decide +kernel⟩
theorem sc_pieces:FnScope ["web"] ["web"] (defScope s_pieces):=⟨rfl,rfl,rfl,by decide +kernel,rfl,by decide +kernel,by decide +kernel⟩
def csc_pieces_0:Scope:={ kind:=PySem.ScopeKind.function,names:=[ (PySem.Str.ofString ".0",PySem.NameKind.local),(PySem.Str.ofString "word",PySem.NameKind.local),(PySem.Str.ofString "begin_of",PySem.NameKind.globalImplicit)],isGenerator:=false,isCoroutine:=false,more:=[]:PySem.Scope }
theorem cs_pieces_0:CompSc ["web"] ["word", "web"] (defScope s_pieces) csc_pieces_0 "word" := ⟨rfl,by decide +kernel,by decide +kernel,rfl,by decide +kernel,rfl,rfl,by decide +kernel,rfl,by decide +kernel,by decide +kernel⟩
def csc_pieces_1:Scope:={ kind:=PySem.ScopeKind.function,names:=[ (PySem.Str.ofString ".0",PySem.NameKind.local),(PySem.Str.ofString "word",PySem.NameKind.local),(PySem.Str.ofString "end_of",PySem.NameKind.globalImplicit)],isGenerator:=false,isCoroutine:=false,more:=[]:PySem.Scope }
theorem cs_pieces_1:CompSc ["web"] ["word", "web"] (defScope s_pieces) csc_pieces_1 "word" := ⟨rfl,by decide +kernel,by decide +kernel,rfl,by decide +kernel,rfl,rfl,by decide +kernel,rfl,by decide +kernel,by decide +kernel⟩
theorem sc_outs:FnScope ["web", "piece"] ["web", "piece"] (defScope s_outs):=⟨rfl,rfl,rfl,by decide +kernel,rfl,by decide +kernel,by decide +kernel⟩
def csc_outs_0:Scope:={ kind:=PySem.ScopeKind.function,names:=[ (PySem.Str.ofString ".0",PySem.NameKind.local),(PySem.Str.ofString "word",PySem.NameKind.local),(PySem.Str.ofString "begin_of",PySem.NameKind.globalImplicit),(PySem.Str.ofString "piece",PySem.NameKind.free)],isGenerator:=false,isCoroutine:=false,more:=[]:PySem.Scope }
theorem cs_outs_0:CompSc ["web", "piece"] ["word", "web", "piece"] (defScope s_outs) csc_outs_0 "word" := ⟨rfl,by decide +kernel,by decide +kernel,rfl,by decide +kernel,rfl,rfl,by decide +kernel,rfl,by decide +kernel,by decide +kernel⟩
theorem sc_excess:FnScope ["web", "some", "going", "coming"] ["web", "some"] (defScope s_excess):=⟨rfl,rfl,rfl,by decide +kernel,rfl,by decide +kernel,by decide +kernel⟩
def csc_excess_0:Scope:={ kind:=PySem.ScopeKind.function,names:=[ (PySem.Str.ofString ".0",PySem.NameKind.local),(PySem.Str.ofString "word",PySem.NameKind.local),(PySem.Str.ofString "begin_of",PySem.NameKind.globalImplicit),(PySem.Str.ofString "some",PySem.NameKind.free)],isGenerator:=false,isCoroutine:=false,more:=[]:PySem.Scope }
theorem cs_excess_0:CompSc ["web", "some", "going", "coming"] ["word", "web", "some", "going", "coming"] (defScope s_excess) csc_excess_0 "word" := ⟨rfl,by decide +kernel,by decide +kernel,rfl,by decide +kernel,rfl,rfl,by decide +kernel,rfl,by decide +kernel,by decide +kernel⟩
def csc_excess_1:Scope:={ kind:=PySem.ScopeKind.function,names:=[ (PySem.Str.ofString ".0",PySem.NameKind.local),(PySem.Str.ofString "word",PySem.NameKind.local),(PySem.Str.ofString "end_of",PySem.NameKind.globalImplicit),(PySem.Str.ofString "some",PySem.NameKind.free)],isGenerator:=false,isCoroutine:=false,more:=[]:PySem.Scope }
theorem cs_excess_1:CompSc ["web", "some", "going", "coming"] ["word", "web", "some", "going", "coming"] (defScope s_excess) csc_excess_1 "word" := ⟨rfl,by decide +kernel,by decide +kernel,rfl,by decide +kernel,rfl,rfl,by decide +kernel,rfl,by decide +kernel,by decide +kernel⟩
theorem sc_hanging_by:FnScope ["words", "piece", "found", "known", "word"] ["words", "piece"] (defScope s_hanging_by):=⟨rfl,rfl,rfl,by decide +kernel,rfl,by decide +kernel,by decide +kernel⟩
theorem sc_hanging:FnScope ["web", "piece"] ["web", "piece"] (defScope s_hanging):=⟨rfl,rfl,rfl,by decide +kernel,rfl,by decide +kernel,by decide +kernel⟩
theorem sc_why_apart:FnScope ["web", "every", "together"] ["web"] (defScope s_why_apart):=⟨rfl,rfl,rfl,by decide +kernel,rfl,by decide +kernel,by decide +kernel⟩
theorem sc_why_no_ring:FnScope ["web", "piece"] ["web"] (defScope s_why_no_ring):=⟨rfl,rfl,rfl,by decide +kernel,rfl,by decide +kernel,by decide +kernel⟩
theorem sc_is_turned_ring:FnScope ["web", "text"] ["web", "text"] (defScope s_is_turned_ring):=⟨rfl,rfl,rfl,by decide +kernel,rfl,by decide +kernel,by decide +kernel⟩
theorem sc_is_ring:FnScope ["web", "text"] ["web", "text"] (defScope s_is_ring):=⟨rfl,rfl,rfl,by decide +kernel,rfl,by decide +kernel,by decide +kernel⟩
theorem sc_by_begin:FnScope ["words", "ways", "word"] ["words"] (defScope s_by_begin):=⟨rfl,rfl,rfl,by decide +kernel,rfl,by decide +kernel,by decide +kernel⟩
theorem sc_ways_toward:FnScope ["web", "piece", "every", "ways", "other"] ["web", "piece"] (defScope s_ways_toward):=⟨rfl,rfl,rfl,by decide +kernel,rfl,by decide +kernel,by decide +kernel⟩
theorem sc_coming_to:FnScope ["words", "piece", "begins", "word", "found", "waiting", "at", "begin"] ["words", "piece"] (defScope s_coming_to):=⟨rfl,rfl,rfl,by decide +kernel,rfl,by decide +kernel,by decide +kernel⟩
theorem sc_is_tree:FnScope ["web", "piece", "tree", "ways", "known"] ["web", "piece", "tree"] (defScope s_is_tree):=⟨rfl,rfl,rfl,by decide +kernel,rfl,by decide +kernel,by decide +kernel⟩
def csc_is_tree_0:Scope:={ kind:=PySem.ScopeKind.function,names:=[ (PySem.Str.ofString ".0",PySem.NameKind.local),(PySem.Str.ofString "word",PySem.NameKind.local),(PySem.Str.ofString "begin_of",PySem.NameKind.globalImplicit)],isGenerator:=false,isCoroutine:=false,more:=[]:PySem.Scope }
theorem cs_is_tree_0:CompSc ["web", "piece", "tree", "ways", "known"] ["word", "web", "piece", "tree", "ways", "known"] (defScope s_is_tree) csc_is_tree_0 "word" := ⟨rfl,by decide +kernel,by decide +kernel,rfl,by decide +kernel,rfl,rfl,by decide +kernel,rfl,by decide +kernel,by decide +kernel⟩
def csc_is_tree_1:Scope:={ kind:=PySem.ScopeKind.function,names:=[ (PySem.Str.ofString ".0",PySem.NameKind.local),(PySem.Str.ofString "word",PySem.NameKind.local),(PySem.Str.ofString "web",PySem.NameKind.free)],isGenerator:=false,isCoroutine:=false,more:=[]:PySem.Scope }
theorem cs_is_tree_1:CompSc ["web", "piece", "tree", "ways", "known"] ["word", "web", "piece", "tree", "ways", "known"] (defScope s_is_tree) csc_is_tree_1 "word" := ⟨rfl,by decide +kernel,by decide +kernel,rfl,by decide +kernel,rfl,rfl,by decide +kernel,rfl,by decide +kernel,by decide +kernel⟩
theorem sc_parts_of:FnScope ["web", "ring", "gone", "home", "tree", "orders", "piece"] ["web", "ring"] (defScope s_parts_of):=⟨rfl,rfl,rfl,by decide +kernel,rfl,by decide +kernel,by decide +kernel⟩
theorem sc_whole_orders:FnScope ["web", "tree", "orders", "lasts", "whole", "piece", "order", "least"] ["web", "tree", "orders"] (defScope s_whole_orders):=⟨rfl,rfl,rfl,by decide +kernel,rfl,by decide +kernel,by decide +kernel⟩
theorem sc_are_parts:FnScope ["web", "tree", "orders", "whole"] ["web", "tree", "orders"] (defScope s_are_parts):=⟨rfl,rfl,rfl,by decide +kernel,rfl,by decide +kernel,by decide +kernel⟩
def csc_are_parts_0:Scope:={ kind:=PySem.ScopeKind.function,names:=[ (PySem.Str.ofString ".0",PySem.NameKind.local),(PySem.Str.ofString "piece",PySem.NameKind.local),(PySem.Str.ofString "sorted",PySem.NameKind.globalImplicit),(PySem.Str.ofString "outs",PySem.NameKind.globalImplicit),(PySem.Str.ofString "web",PySem.NameKind.free),(PySem.Str.ofString "whole",PySem.NameKind.free)],isGenerator:=false,isCoroutine:=false,more:=[]:PySem.Scope }
theorem cs_are_parts_0:CompSc ["web", "tree", "orders", "whole"] ["piece", "web", "tree", "orders", "whole"] (defScope s_are_parts) csc_are_parts_0 "piece" := ⟨rfl,by decide +kernel,by decide +kernel,rfl,by decide +kernel,rfl,rfl,by decide +kernel,rfl,by decide +kernel,by decide +kernel⟩
theorem sc_gone_round:FnScope ["web", "whole", "text", "at", "step", "word"] ["web", "whole"] (defScope s_gone_round):=⟨rfl,rfl,rfl,by decide +kernel,rfl,by decide +kernel,by decide +kernel⟩
theorem sc_ring_of:FnScope ["web", "tree", "orders", "paper"] ["web", "tree", "orders"] (defScope s_ring_of):=⟨rfl,rfl,rfl,by decide +kernel,rfl,by decide +kernel,by decide +kernel⟩
theorem sc__law_cell_at:FnScope ["script", "k"] ["script", "k"] (defScope s__law_cell_at):=⟨rfl,rfl,rfl,by decide +kernel,rfl,by decide +kernel,by decide +kernel⟩
theorem sc__law_walk:FnScope ["cells", "kinds", "first", "words", "here", "cell", "free", "word"] ["cells", "kinds", "first"] (defScope s__law_walk):=⟨rfl,rfl,rfl,by decide +kernel,rfl,by decide +kernel,by decide +kernel⟩
def csc__law_walk_0:Scope:={ kind:=PySem.ScopeKind.function,names:=[ (PySem.Str.ofString ".0",PySem.NameKind.local),(PySem.Str.ofString "sign",PySem.NameKind.local),(PySem.Str.ofString "here",PySem.NameKind.free),(PySem.Str.ofString "words",PySem.NameKind.free)],isGenerator:=false,isCoroutine:=false,more:=[]:PySem.Scope }
theorem cs__law_walk_0:CompSc ["cells", "kinds", "first", "words", "here", "cell", "free", "word"] ["sign", "cells", "kinds", "first", "words", "here", "cell", "free", "word"] (defScope s__law_walk) csc__law_walk_0 "sign" := ⟨rfl,by decide +kernel,by decide +kernel,rfl,by decide +kernel,rfl,rfl,by decide +kernel,rfl,by decide +kernel,by decide +kernel⟩
theorem sc__law_ring_words:FnScope ["script", "at", "most", "length", "kinds", "drawn", "first", "k", "words"] ["script", "at", "most"] (defScope s__law_ring_words):=⟨rfl,rfl,rfl,by decide +kernel,rfl,by decide +kernel,by decide +kernel⟩
theorem sc__law_around:FnScope ["text", "length", "found", "k", "word", "j"] ["text", "length"] (defScope s__law_around):=⟨rfl,rfl,rfl,by decide +kernel,rfl,by decide +kernel,by decide +kernel⟩
theorem sc__law_due:FnScope ["order", "first", "gone", "word", "tree", "orders", "piece"] ["order"] (defScope s__law_due):=⟨rfl,rfl,rfl,by decide +kernel,rfl,by decide +kernel,by decide +kernel⟩
theorem sc__law_told:FnScope ["web", "ring", "due", "found", "order"] ["web", "ring", "due"] (defScope s__law_told):=⟨rfl,rfl,rfl,by decide +kernel,rfl,by decide +kernel,by decide +kernel⟩
theorem sc_law:FnScope ["script", "words", "web", "at", "order", "ring", "due", "lists", "orders", "k", "one", "by", "other"] ["script"] (defScope s_law):=⟨rfl,rfl,rfl,by decide +kernel,rfl,by decide +kernel,by decide +kernel⟩
def csc_law_0:Scope:={ kind:=PySem.ScopeKind.function,names:=[(PySem.Str.ofString ".0",PySem.NameKind.local),(PySem.Str.ofString "word",PySem.NameKind.local)],isGenerator:=false,isCoroutine:=false,more:=[]:PySem.Scope }
theorem cs_law_0:CompSc ["script", "words", "web", "at", "order", "ring", "due", "lists", "orders", "k", "one", "by", "other"] ["word", "script", "words", "web", "at", "order", "ring", "due", "lists", "orders", "k", "one", "by", "other"] (defScope s_law) csc_law_0 "word" := ⟨rfl,by decide +kernel,by decide +kernel,rfl,by decide +kernel,rfl,rfl,by decide +kernel,rfl,by decide +kernel,by decide +kernel⟩
def csc_law_1:Scope:={ kind:=PySem.ScopeKind.function,names:=[ (PySem.Str.ofString ".0",PySem.NameKind.local),(PySem.Str.ofString "one",PySem.NameKind.local),(PySem.Str.ofString "list",PySem.NameKind.globalImplicit)],isGenerator:=false,isCoroutine:=false,more:=[]:PySem.Scope }
theorem cs_law_1:CompSc ["script", "words", "web", "at", "order", "ring", "due", "lists", "orders", "k", "one", "by", "other"] ["one", "script", "words", "web", "at", "order", "ring", "due", "lists", "orders", "k", "", "by", "other"] (defScope s_law) csc_law_1 "one" := ⟨rfl,by decide +kernel,by decide +kernel,rfl,by decide +kernel,rfl,rfl,by decide +kernel,rfl,by decide +kernel,by decide +kernel⟩
set_option genInjectivity false in
structure Adr where
 BadKinds:Addr
 BadWord:Addr
 TooMany:Addr
 NoSuch:Addr
 NotOne:Addr
 NoRing:Addr
 Web:Addr
 u_LETTERS:Value
 u_LONGEST:Value
 u_MOST_OF_A_WEB:Value
 u_LONGEST_OF_A_WEB:Value
set_option genInjectivity false in
structure Txt (K:PySem.W.Frag)(mg:Str->Option Value)(ad:Adr):Prop where
 b_all:mg "all" = none
 b_isinstance:mg "isinstance" = none
 b_len:mg "len" = none
 b_list:mg "list" = none
 b_max:mg "max" = none
 b_min:mg "min" = none
 b_range:mg "range" = none
 b_reversed:mg "reversed" = none
 b_set:mg "set" = none
 b_sorted:mg "sorted" = none
 b_str:mg "str" = none
 b_tuple:mg "tuple" = none
 b_zip:mg "zip" = none
 m_BadKinds:mg "BadKinds" = some (.ref ad.BadKinds)
 m_BadWord:mg "BadWord" = some (.ref ad.BadWord)
 m_TooMany:mg "TooMany" = some (.ref ad.TooMany)
 m_NoSuch:mg "NoSuch" = some (.ref ad.NoSuch)
 m_NotOne:mg "NotOne" = some (.ref ad.NotOne)
 m_NoRing:mg "NoRing" = some (.ref ad.NoRing)
 m_Web:mg "Web" = some (.ref ad.Web)
 x_BadKinds:Exc K mg "BadKinds" ad.BadKinds
 x_BadWord:Exc K mg "BadWord" ad.BadWord
 x_TooMany:Exc K mg "TooMany" ad.TooMany
 x_NoSuch:Exc K mg "NoSuch" ad.NoSuch
 g_LETTERS:mg "LETTERS" = some ad.u_LETTERS
 r_LETTERS:RelV (T [97,98,99,100,101,102]) ad.u_LETTERS
 g_LONGEST:mg "LONGEST" = some ad.u_LONGEST
 r_LONGEST:RelV (.int 24) ad.u_LONGEST
 g_MOST_OF_A_WEB:mg "MOST_OF_A_WEB" = some ad.u_MOST_OF_A_WEB
 r_MOST_OF_A_WEB:RelV (.int 64) ad.u_MOST_OF_A_WEB
 g_LONGEST_OF_A_WEB:mg "LONGEST_OF_A_WEB" = some ad.u_LONGEST_OF_A_WEB
 r_LONGEST_OF_A_WEB:RelV (.int 8) ad.u_LONGEST_OF_A_WEB
 cl_Web:Cls K ad.Web
 na_Web_words:NoAttr K ad.Web "words"
 na_Web_length:NoAttr K ad.Web "length"
theorem cxK2 {CX:CXT}{P:Program}{w:World}{K:PySem.W.Frag}{mg:Str->Option Value}{base:Heap}{N:List Str}{q:Str}{sc:Scope}{f:Addr}{cdv:Value}{A:Around}{outer:List Env}{s:Shared}{H:Hp}{E:XK}:(cxOf CX P w K mg base N q sc f cdv A outer s H E).nox.K=K:=rfl
section
variable {P:Program}{w:World}{K:PySem.W.Frag}{mg:Str->Option Value}{base:Heap}{ad:Adr}
theorem abc6 {m:Nat}(h:m<6):([97,98,99,100,101,102]:List Nat)[m]?=some (97+m):=by
 have key:∀ m:Nat,m<6->([97,98,99,100,101,102]:List Nat)[m]?=some (97+m):=by decide
 exact key m h
theorem abc_mem {k c:Nat}(hk:k<=6):c∈([97,98,99,100,101,102]:List Nat).take k↔97<=c∧c<97+k:=by
 have key:∀ k:Nat,k<7->([97,98,99,100,101,102]:List Nat).take k=(List.range k).map (97 + ·):=by decide
 rw [key k (Nat.lt_succ_of_le hk),List.mem_map]
 exact ⟨fun ⟨i,h,e⟩=>e▸⟨Nat.le_add_right _ _,Nat.add_lt_add_left (List.mem_range.mp h) _⟩,fun ⟨h1,h2⟩=>⟨c-97,List.mem_range.mpr (Nat.sub_lt_left_of_lt_add h1 h2),Nat.add_sub_cancel' h1⟩⟩
def spKindsX (ad:Adr):Sp:=fun vs H Q E=>∃ k:Int,vs=[.int k]∧((1<=k∧k<=6)->Q .non H)∧(¬ (1<=k∧k<=6)->E (.ref ad.BadKinds) none H)
theorem ok_looked_kinds {f:Addr}{fd:FuncData}(F:Fun K "looked_kinds" "looked_kinds" s_looked_kinds f fd)(tt:Txt K mg ad):FnOk P w K mg base (CX1 P w) 1 f fd ["kinds"] (spKindsX ad):=by
 refine F.okX sc_looked_kinds (fun vs H Q E h=>?_) (fun cdv A outer s H vs Q E hr h=>?_)
 ·obtain ⟨k,rfl,_⟩:=h
  rfl
 ·obtain ⟨k,rfl,q,x⟩:=h
  have hs:sizeLine=16777216:=sizeLine_eq
  refine ⟨_,(pss_one (ps_if (PW.pt (pw_or (pt_cmpR op_lt (pv 0) pe_int (nomark _)) (pw_or1 (pt_cmpR op_gt (pv 0) (pe_callB call_len_T (by rfl) tt.b_len PySem.boot_len (pa_cons (pe_glob (by rfl) tt.g_LETTERS tt.r_LETTERS) pa_nil)) (nomark _))))) (pss_one (ps_raise (E:=fun cls H'=>E cls none H') tt.x_BadKinds rfl (fun _ _ _ _ _ _ _ I hx q=>raiseX I hx q) (pa_cons pe_str pa_nil))) pss_nil)),?_⟩
  (try rw [cxK2]);(try rw [cxK1])
  refine ⟨_,rfl,_,_,rfl,rfl,_,rfl,?_⟩
  refine ite2 (fun h0=>iteT ?_) (fun h0=>?_)
  ·have h1:k<1:=of_decide_eq_true h0
   exact ⟨(by show 1<=sizeLine;omega),x fun z=>by omega⟩
  ·have h1:¬ k<1:=fun z=>h0 (decide_eq_true z)
   refine ⟨_,rfl,_,rfl,(by show 6<=sizeLine;omega),_,_,rfl,rfl,_,rfl,?_⟩
   refine ite2 (fun h2=>?_) (fun h2=>?_)
   ·have h3:(6:Int)<k:=of_decide_eq_true h2
    exact ⟨(by show 1<=sizeLine;omega),x fun z=>by omega⟩
   ·have h3:¬ (6:Int)<k:=fun z=>h2 (decide_eq_true z)
    exact q ⟨by omega,by omega⟩
def spLenX (ad:Adr):Sp:=fun vs H Q E=>∃ n k:Int,vs=[.int n,.int k]∧((1<=k∧k<=6)->(1<=n∧n<=24)->Q .non H)∧(¬ (1<=k∧k<=6)->E (.ref ad.BadKinds) none H)∧((1<=k∧k<=6)->¬ (1<=n∧n<=24)->E (.ref ad.BadWord) none H)
theorem ok_looked_length {f:Addr}{fd:FuncData}(F:Fun K "looked_length" "looked_length" s_looked_length f fd)(tt:Txt K mg ad)(C_looked_kinds:Cal P w K mg base (CX1 P w) "looked_kinds" 1 ["kinds"] (spKindsX ad)) :
  FnOk P w K mg base (CX1 P w) 2 f fd ["length", "kinds"] (spLenX ad):=by
 refine F.okX sc_looked_length (fun vs H Q E h=>?_) (fun cdv A outer s H vs Q E hr h=>?_)
 ·obtain ⟨n,k,rfl,_⟩:=h
  rfl
 ·obtain ⟨n,k,rfl,q,x1,x2⟩:=h
  have hs:sizeLine=16777216:=sizeLine_eq
  refine ⟨_,(pss_cons (ps_expr (pe_cal C_looked_kinds hr passX (pa_cons (pv 1) pa_nil)))
   (pss_one (ps_if (PW.pt (pw_or (pt_cmpR op_lt (pv 0) pe_int (nomark _)) (pw_or1 (pt_cmpR op_gt (pv 0) (pe_glob (by rfl) tt.g_LONGEST tt.r_LONGEST) (nomark _))))) (pss_one (ps_raise (E:=fun cls H'=>E cls none H') tt.x_BadWord rfl (fun _ _ _ _ _ _ _ I hx q=>raiseX I hx q) (pa_cons pe_str pa_nil))) pss_nil))),?_⟩
  (try rw [cxK2]);(try rw [cxK1])
  refine ⟨_,rfl,k,rfl,fun hk=>?_,x1⟩
  refine ⟨_,rfl,_,_,rfl,rfl,_,rfl,?_⟩
  refine ite2 (fun h0=>iteT ?_) (fun h0=>?_)
  ·have h1:n<1:=of_decide_eq_true h0
   exact ⟨(by show 1<=sizeLine;omega),x2 hk fun z=>by omega⟩
  ·have h1:¬ n<1:=fun z=>h0 (decide_eq_true z)
   refine ⟨_,rfl,_,_,rfl,rfl,_,rfl,?_⟩
   refine ite2 (fun h2=>?_) (fun h2=>?_)
   ·have h3:(24:Int)<n:=of_decide_eq_true h2
    exact ⟨(by show 1<=sizeLine;omega),x2 hk fun z=>by omega⟩
   ·have h3:¬ (24:Int)<n:=fun z=>h2 (decide_eq_true z)
    exact q hk ⟨by omega,by omega⟩
def spLettersX (ad:Adr):Sp:=fun vs H Q E=>∃ k:Int,vs=[.int k]∧(∀ kn:Nat,k=(kn:Nat)->(1<=kn∧kn<=6)->Q (T (([97,98,99,100,101,102]:List Nat).take kn)) H)∧(¬ (1<=k∧k<=6)->E (.ref ad.BadKinds) none H)
theorem ok_letters {f:Addr}{fd:FuncData}(F:Fun K "letters" "letters" s_letters f fd)(tt:Txt K mg ad)(C_looked_kinds:Cal P w K mg base (CX1 P w) "looked_kinds" 1 ["kinds"] (spKindsX ad)):FnOk P w K mg base (CX1 P w) 2 f fd ["kinds"] (spLettersX ad):=by
 refine F.okX sc_letters (fun vs H Q E h=>?_) (fun cdv A outer s H vs Q E hr h=>?_)
 ·obtain ⟨k,rfl,_⟩:=h
  rfl
 ·obtain ⟨k,rfl,q,x⟩:=h
  have hs:sizeLine=16777216:=sizeLine_eq
  refine ⟨_,(pss_cons (ps_expr (pe_cal C_looked_kinds hr passX (pa_cons (pv 0) pa_nil)))
   (pss_one (ps_ret (pe_slice sl_T (pe_glob (by rfl) tt.g_LETTERS tt.r_LETTERS) po_none (po_some (pv 0)))))),?_⟩
  (try rw [cxK2]);(try rw [cxK1])
  refine ⟨_,rfl,k,rfl,fun hk=>?_,x⟩
  obtain ⟨kn,rfl⟩:∃ kn:Nat,k=(kn:Nat):=⟨k.toNat,by omega⟩
  refine ⟨_,rfl,_,rfl,_,rfl,(by show 6<=sizeLine;omega),?_⟩
  rw [cutL_to (by show kn<=6;omega)]
  exact q kn rfl ⟨by omega,by omega⟩
def Good (w:List Nat)(kn:Nat):Prop:=(1<=w.length∧w.length<=24)∧∀ c∈w,97<=c∧c<97+kn
def spLookedX (ad:Adr):Sp:=fun vs H Q E=>∃ (w:List Nat) (k:Int),vs=[T w,.int k]∧w.length<=100000∧(¬ (1<=k∧k<=6)->E (.ref ad.BadKinds) none H) ∧
 ∀ kn:Nat,k=(kn:Nat)->(1<=kn∧kn<=6)->(Good w kn->Q .non H)∧(¬ Good w kn->E (.ref ad.BadWord) none H)
theorem ok_looked {f:Addr}{fd:FuncData}(F:Fun K "looked" "looked" s_looked f fd)(tt:Txt K mg ad)(C_looked_length:Cal P w K mg base (CX1 P w) "looked_length" 2 ["length", "kinds"] (spLenX ad))
  (C_letters:Cal P w K mg base (CX1 P w) "letters" 2 ["kinds"] (spLettersX ad)):FnOk P w K mg base (CX1 P w) 3 f fd ["word", "kinds"] (spLookedX ad):=by
 refine F.okX sc_looked (fun vs H Q E h=>?_) (fun cdv A outer s H vs Q E hr h=>?_)
 ·obtain ⟨w,k,rfl,_⟩:=h
  rfl
 ·obtain ⟨w,k,rfl,hw,x1,q⟩:=h
  have hs:sizeLine=16777216:=sizeLine_eq
  refine ⟨_,(pss_cons (ps_expr (pe_cal C_looked_length hr passX (pa_cons (pe_callB call_len_T (by rfl) tt.b_len PySem.boot_len (pa_cons (pv 0) pa_nil)) (pa_cons (pv 1) pa_nil))))
   (pss_cons (ps_set (i:=2) sc_looked.nd rfl (Or.inl rfl) (pe_cal C_letters hr passX (pa_cons (pv 1) pa_nil)))
   (pss_one (ps_for PassesOwn.leaving rfl (pi_str (pv 0)) (pg_name (i:=3) sc_looked.nd rfl (Or.inl rfl)) (pss_one (ps_if (pt_cmpR op_notin_sT (pv 3) (pv 2) (by with_unfolding_all rfl)) (pss_one (ps_raise (E:=fun cls H'=>E cls none H') tt.x_BadWord rfl (fun _ _ _ _ _ _ _ I hx q=>raiseX I hx q) (pa_cons pe_str pa_nil))) pss_nil)))))),?_⟩
  (try rw [cxK2]);(try rw [cxK1])
  refine ⟨_,rfl,_,rfl,(by omega),_,rfl,_,k,rfl,fun hk hn=>?_,x1,fun hk hn=>?_⟩
  rotate_left
  ·obtain ⟨kn,rfl⟩:∃ kn:Nat,k=(kn:Nat):=⟨k.toNat,by omega⟩
   exact (q kn rfl ⟨by omega,by omega⟩).2 fun z=>hn ⟨by have:=z.1;omega,by have:=z.1;omega⟩
  obtain ⟨kn,rfl⟩:∃ kn:Nat,k=(kn:Nat):=⟨k.toNat,by omega⟩
  obtain ⟨q1,q2⟩:=q kn rfl ⟨by omega,by omega⟩
  refine ⟨_,rfl,_,rfl,fun kn' ek hk'=>?_,fun z=>absurd hk z⟩
  obtain rfl:kn=kn':=by omega
  refine ⟨_,rfl,_,rfl,?_⟩
  refine for_text (l:=w) (fun i σ H2=>H=H2∧(∀ c∈w.take i,97<=c∧c<97+kn)∧∃ v,σ=[some (T w),some (.int (kn:Nat)),some (T (([97,98,99,100,101,102]:List Nat).take kn)),v]) ⟨rfl,fun c hc=>(by simp at hc),none,rfl⟩ ?_ ?_
  ·rintro i c σ H2 hi ⟨rfl,hall,v,rfl⟩
   refine ⟨_,rfl,_,rfl,_,rfl,_,rfl,_,rfl,?_⟩
   refine ite2 (fun h0=>?_) (fun h0=>?_)
   ·have h1:¬ c∈([97,98,99,100,101,102]:List Nat).take kn:=fun z=>by
     rw [decide_eq_true z] at h0
     cases h0
    refine ⟨(by show 1<=sizeLine;omega),q2 fun z=>h1 ?_⟩
    exact (abc_mem (by omega)).mpr (z.2 c (List.mem_of_getElem? hi))
   ·have h1:c∈([97,98,99,100,101,102]:List Nat).take kn:=by
     apply Classical.byContradiction
     intro z
     rw [decide_eq_false z] at h0
     exact h0 rfl
    refine ⟨rfl,fun d hd=>?_,_,rfl⟩
    have hil:=(List.getElem?_eq_some_iff.mp hi).1
    rw [List.take_add_one,hi] at hd
    rcases List.mem_append.mp hd with z | z
    ·exact hall d z
    ·have:d=c:=by simpa using z
     subst this
     exact (abc_mem (by omega)).mp h1
  ·rintro σ H2 ⟨rfl,hall,v,rfl⟩
   rw [List.take_length] at hall
   exact q1 ⟨⟨by omega,by omega⟩,hall⟩
def spRowW:Sp:=fun vs H Q _=>∃ (t:List Nat) (n:Nat),vs=[T t,.int (n:Nat)]∧(t.length<=5000∧1<=n∧n<=5000)∧∀ D H',H D=none->Same H H'->H' D=some (.lst ((Wd.rowW t n).map T))->Q (.ref D) H'
theorem ok_row_windows {f:Addr}{fd:FuncData}(F:Fun K "row_windows" "row_windows" s_row_windows f fd)(tt:Txt K mg ad):FnOk P w K mg base (CX1 P w) 1 f fd ["text", "length"] spRowW:=by
 refine F.okN sc_row_windows (fun vs H Q E h=>?_) (fun cdv A outer s H vs Q E hr h=>?_)
 ·obtain ⟨t,n,rfl,_⟩:=h
  rfl
 ·obtain ⟨t,n,rfl,hn,q⟩:=h
  have hs:sizeLine=16777216:=sizeLine_eq
  refine ⟨_,(pss_one (ps_ret (pe_comp cs_row_windows_0 rfl (pi_range1 (by rfl) tt.b_range (pa_cons (pe_op op_add (pe_op op_sub (pe_callB call_len_T (by rfl) tt.b_len PySem.boot_len (pa_cons (pv 0) pa_nil)) (pv 1)) pe_int) pa_nil)) (fun cl C s' H' fp=>(pe_slice sl_T (pv 1) (po_some (pv 0)) (po_some (pe_op op_add (pv 0) (pv 2)))))))),?_⟩
  (try rw [cxK2]);(try rw [cxK1])
  refine ⟨_,rfl,_,rfl,(by omega),_,rfl,_,_,rfl,rfl,_,_,rfl,rfl,_,rfl,by omega,by omega,?_⟩
  have en:(((t.length:Nat):Int)-((n:Nat):Int)+1).toNat=t.length+1-n:=by omega
  rw [en]
  refine comp_range (lo:=0) (n:=t.length+1-n) (fun i=>T (Wd.ringAt t n i)) (by omega) (fun i H4 hi s4 N hN=>?_) fun D H4 hD s4 hd4=>?_
  ·refine ⟨_,rfl,_,rfl,_,rfl,_,rfl,_,rfl,_,_,rfl,rfl,_,rfl,_,rfl,by omega,?_⟩
   have e:cutL t (some (0+(i:Int))) (some (0+(i:Int)+((n:Nat):Int)))=Wd.ringAt t n i:=by
    rw [Int.zero_add,<- Int.natCast_add,cutL_mid (by omega) (by omega),Nat.add_sub_cancel_left]
    exact Wd.row_at (by omega)
   rw [e]
   exact hN H4 (Same.refl _)
  ·exact q D H4 hD s4 (by rw [hd4,Wd.rowW,List.map_map];rfl)
def spRingW:Sp:=fun vs H Q _=>∃ (t:List Nat) (n:Nat),vs=[T t,.int (n:Nat)]∧(t.length<=5000∧1<=n∧n<=5000)∧∀ D H',H D=none->Same H H'->H' D=some (.lst ((Wd.ringW t n).map T))->Q (.ref D) H'
theorem ok_ring_windows {f:Addr}{fd:FuncData}(F:Fun K "ring_windows" "ring_windows" s_ring_windows f fd)(tt:Txt K mg ad):FnOk P w K mg base (CX1 P w) 1 f fd ["text", "length"] spRingW:=by
 refine F.okN sc_ring_windows (fun vs H Q E h=>?_) (fun cdv A outer s H vs Q E hr h=>?_)
 ·obtain ⟨t,n,rfl,_⟩:=h
  rfl
 ·obtain ⟨t,n,rfl,hn,q⟩:=h
  have hs:sizeLine=16777216:=sizeLine_eq
  refine ⟨_,(pss_cons (ps_if (pt_cmpR op_eq_T (pv 0) (pe_strT [] (by decide +kernel)) (nomark _)) (pss_one (ps_ret (pe_lst pa_nil))) pss_nil)
   (pss_cons (ps_set (i:=2) sc_ring_windows.nd rfl (Or.inl rfl) (pe_callB call_len_T (by rfl) tt.b_len PySem.boot_len (pa_cons (pv 0) pa_nil)))
   (pss_cons (ps_set (i:=3) sc_ring_windows.nd rfl (Or.inr rfl) (pe_op op_mul_T (pv 0) (pe_op op_add (pe_op op_fdiv (pv 1) (pv 2)) pe_int)))
   (pss_one (ps_ret (pe_comp cs_ring_windows_0 rfl (pi_range1 (by rfl) tt.b_range (pa_cons (pv 2) pa_nil)) (fun cl C s' H' fp=>(pe_slice sl_T (pv 4) (po_some (pv 0)) (po_some (pe_op op_add (pv 0) (pv 2))))))))))),?_⟩
  (try rw [cxK2]);(try rw [cxK1])
  refine ⟨_,rfl,_,rfl,_,rfl,_,rfl,?_⟩
  refine ite2 (fun h0=>?_) (fun h0=>?_)
  ·have e:t=[]:=of_decide_eq_true h0
   subst e
   exact ⟨(by show 0<=sizeLine;omega),fun D hD=>q D _ hD (fun b o e=>by rw [upd_ne (ne_of_none e hD)];exact e) upd_same⟩
  ·have hne:t≠[]:=fun z=>h0 (decide_eq_true z)
   have hp:0<t.length:=List.length_pos_iff.mpr hne
   have hdv:((n:Nat):Int)/((t.length:Nat):Int)+2=((n/t.length+2:Nat):Int):=by rw [<- Int.natCast_ediv];rfl
   have hdm:n/t.length*t.length+n % t.length=n:=by rw [Nat.mul_comm];exact Nat.div_add_mod n t.length
   have hml:=Nat.mod_lt n hp
   have hdl:n/t.length<=n:=Nat.div_le_self _ _
   have hcl:(n/t.length+2)*t.length=n/t.length*t.length+2*t.length:=by rw [Nat.add_mul]
   refine ⟨_,rfl,_,rfl,(by omega),?_⟩
   refine ⟨_,rfl,_,rfl,_,rfl,_,_,rfl,rfl,⟨by omega,by omega⟩,_,_,rfl,rfl,_,rfl,n/t.length+2,congrArg V.int hdv,⟨by omega,by omega⟩,?_⟩
   refine ⟨_,rfl,_,rfl,by omega,by omega,?_⟩
   rw [Int.toNat_natCast]
   refine comp_range (lo:=0) (n:=t.length) (fun i=>T (Wd.ringAt t n i)) (by omega) (fun i H4 hi s4 N hN=>?_) fun D H4 hD s4 hd4=>?_
   ·refine ⟨_,rfl,_,rfl,_,rfl,_,rfl,_,rfl,_,_,rfl,rfl,_,rfl,_,rfl,(by rw [Wd.rep_len];omega),?_⟩
    have e:cutL (Wd.rep (n/t.length+2) t) (some (0+(i:Int))) (some (0+(i:Int)+((n:Nat):Int)))=Wd.ringAt t n i:=by
     rw [show 0+(i:Int)+((n:Nat):Int)=((i+n:Nat):Int) by omega,Int.zero_add,cutL_mid (by rw [Wd.rep_len];omega) (by omega),show i+n-i=n by omega]
     exact Wd.ring_at (by omega) hp
    rw [e]
    exact hN H4 (Same.refl _)
   ·exact q D H4 hD s4 (by rw [hd4,Wd.ringW,List.map_map];rfl)
def spWin:Sp:=fun vs H Q _=>∃ (t:List Nat) (n:Nat) (b:Bool),vs=[T t,.int (n:Nat),.bl b]∧(t.length<=5000∧1<=n∧n<=5000)∧∀ D H',H D=none->Same H H'->H' D=some (.lst ((Wd.win t n b).map T))->Q (.ref D) H'
theorem ok_windows {f:Addr}{fd:FuncData}(F:Fun K "windows" "windows" s_windows f fd)(tt:Txt K mg ad)(C_row_windows:Cal P w K mg base (CX1 P w) "row_windows" 1 ["text", "length"] spRowW)(C_ring_windows:Cal P w K mg base (CX1 P w) "ring_windows" 1 ["text", "length"] spRingW) :
  FnOk P w K mg base (CX1 P w) 2 f fd ["text", "length", "ring"] spWin:=by
 refine F.okN sc_windows (fun vs H Q E h=>?_) (fun cdv A outer s H vs Q E hr h=>?_)
 ·obtain ⟨t,n,b,rfl,_⟩:=h
  rfl
 ·obtain ⟨t,n,b,rfl,hn,q⟩:=h
  refine ⟨_,(pss_cons (ps_if (pt_val (pv 2)) (pss_one (ps_ret (pe_cal C_ring_windows hr pass1 (pa_cons (pv 0) (pa_cons (pv 1) pa_nil))))) pss_nil)
   (pss_one (ps_ret (pe_cal C_row_windows hr pass1 (pa_cons (pv 0) (pa_cons (pv 1) pa_nil)))))),?_⟩
  (try rw [cxK2]);(try rw [cxK1])
  refine ⟨_,rfl,_,rfl,?_⟩
  refine ite2 (fun h0=>?_) (fun h0=>?_)
  ·rw [Wd.win,if_pos h0] at q
   exact ⟨_,rfl,_,rfl,t,n,rfl,hn,q⟩
  ·rw [Wd.win,if_neg h0] at q
   exact ⟨_,rfl,_,rfl,t,n,rfl,hn,q⟩
def FewN (k:Nat)(ls:List (List Nat)):Prop:=∃ ps:List (List Nat),ps.length<=k∧∀ w∈ls,w.take (w.length-1)∈ps∧w.drop 1∈ps
def Few (ls:List (List Nat)):Prop:=FewN 61 ls
theorem FewN.sub {k:Nat}{ls ms:List (List Nat)}(h:FewN k ls)(s:∀ w∈ms,w∈ls):FewN k ms:=h.elim fun ps g=>⟨ps,g.1,fun w hw=>g.2 w (s w hw)⟩
theorem FewN.mono {k j:Nat}{ls:List (List Nat)}(h:FewN k ls)(hj:k<=j):FewN j ls:=h.elim fun ps g=>⟨ps,Nat.le_trans g.1 hj,g.2⟩
theorem uniq_len {ls:List (List Nat)}(h:ls.Nodup):(uniq ls).length=ls.length:=((List.perm_ext_iff_of_nodup (uniq_nodup ls) h).mpr fun x=>uniq_mem ls x).length_eq
theorem sa_put {H:Hp}{p x C dx:Addr}{fs:List (Str×V)}{xs:List V}{o:HO}(h:SqA K H p xs)(hx:H x=some (.ins C dx fs)):SqA K (upd H x o) p xs:=by
 have k:∀ {o'},H p=some o'->(∀ C d f,o'≠.ins C d f)->upd H x o p=some o':=fun {o'} e n=>by rw [upd_ne (fun z=>by rw [z,hx] at e;exact n _ _ _ (Option.some.inj e).symm)];exact e
 rcases h with ((h | ⟨q,h⟩) | h) | ((h | ⟨q,h⟩) | h)
 ·exact .inl (.inl (.inl (k h (fun _ _ _ z=>by cases z))))
 ·exact .inl (.inl (.inr ⟨q,k h (fun _ _ _ z=>by cases z)⟩))
 ·exact .inl (.inr h)
 ·exact .inr (.inl (.inl (k h (fun _ _ _ z=>by cases z))))
 ·exact .inr (.inl (.inr ⟨q,k h (fun _ _ _ z=>by cases z)⟩))
 ·exact .inr (.inr h)
def WebOk (ls:List (List Nat))(n:Nat):Prop:=ls≠[]∧ls.length<=60∧((1<=n∧n<=8)∧Few ls)∧(∀ x∈ls,x.length=n∧∀ c∈x,97<=c∧c<103)∧ls.Nodup
def spWebL (K:PySem.W.Frag):Sp:=fun vs H Q _=>∃ (p:Addr) (ls:List (List Nat)) (n:Nat),vs=[.ref p]∧SqA K H p (ls.map T)∧WebOk ls n∧∀ H',Same H H'->Q .non H'
theorem ok_looked_web {f:Addr}{fd:FuncData}(F:Fun K "looked_web" "looked_web" s_looked_web f fd)(tt:Txt K mg ad)(C_looked:Cal P w K mg base (CX1 P w) "looked" 3 ["word", "kinds"] (spLookedX ad)) :
  FnOk P w K mg base (CX1 P w) 4 f fd ["words"] (spWebL K):=by
 refine F.okX sc_looked_web (fun vs H Q E h=>?_) (fun cdv A outer s H vs Q E hr h=>?_)
 ·obtain ⟨p,ls,n,rfl,_⟩:=h
  rfl
 ·obtain ⟨p,ls,n,rfl,hS,⟨hne,h64,hn,hx,hnd⟩,q⟩:=h
  have hs:sizeLine=16777216:=sizeLine_eq
  have hl0:0<ls.length:=List.length_pos_iff.mpr hne
  obtain ⟨x0,hx0⟩:∃ x0,ls[0]?=some x0:=⟨_,List.getElem?_eq_getElem hl0⟩
  have hx0l:=(hx x0 (List.mem_of_getElem? hx0)).1
  refine ⟨_,(pss_cons (ps_if (pt_cmpR op_gt (pe_callB call_len_seq (by rfl) tt.b_len PySem.boot_len (pa_cons (pv 0) pa_nil)) (pe_glob (by rfl) tt.g_MOST_OF_A_WEB tt.r_MOST_OF_A_WEB) (nomark _)) (pss_one (ps_raise (E:=fun cls H'=>E cls none H') tt.x_TooMany rfl (fun _ _ _ _ _ _ _ I hx q=>raiseX I hx q) (pa_cons pe_str pa_nil))) pss_nil)
   (pss_cons (ps_if (pt_cmpR op_eq_I (pe_callB call_len_seq (by rfl) tt.b_len PySem.boot_len (pa_cons (pv 0) pa_nil)) pe_int (nomark _)) (pss_one (ps_raise (E:=fun cls H'=>E cls none H') tt.x_BadWord rfl (fun _ _ _ _ _ _ _ I hx q=>raiseX I hx q) (pa_cons pe_str pa_nil))) pss_nil)
   (pss_cons (ps_for PassesOwn.leaving rfl (pi_seqK K rfl (pv 0)) (pg_name (i:=1) sc_looked_web.nd rfl (Or.inl rfl)) (pss_cons (ps_expr (pe_cal C_looked hr passX (pa_cons (pv 1) (pa_cons (pe_callB call_len_T (by rfl) tt.b_len PySem.boot_len (pa_cons (pe_glob (by rfl) tt.g_LETTERS tt.r_LETTERS) pa_nil)) pa_nil))))
   (pss_cons (ps_if (pt_cmpR op_gt (pe_callB call_len_T (by rfl) tt.b_len PySem.boot_len (pa_cons (pv 1) pa_nil)) (pe_glob (by rfl) tt.g_LONGEST_OF_A_WEB tt.r_LONGEST_OF_A_WEB) (nomark _)) (pss_one (ps_raise (E:=fun cls H'=>E cls none H') tt.x_BadWord rfl (fun _ _ _ _ _ _ _ I hx q=>raiseX I hx q) (pa_cons pe_str pa_nil))) pss_nil)
   (pss_one (ps_if (pt_cmpR op_ne_I (pe_callB call_len_T (by rfl) tt.b_len PySem.boot_len (pa_cons (pv 1) pa_nil)) (pe_callB call_len_T (by rfl) tt.b_len PySem.boot_len (pa_cons (pe_ix ix_A (pv 0) pe_int (fun _ _=>rfl)) pa_nil)) (nomark _)) (pss_one (ps_raise (E:=fun cls H'=>E cls none H') tt.x_BadWord rfl (fun _ _ _ _ _ _ _ I hx q=>raiseX I hx q) (pa_cons pe_str pa_nil))) pss_nil)))))
   (pss_one (ps_if (pt_cmpR op_ne_I (pe_callB call_lenS (by rfl) tt.b_len PySem.boot_len (pa_cons (pe_callTy (call_setA rfl) (by rfl) tt.b_set (by decide +kernel) (pa_cons (pv 0) pa_nil)) pa_nil)) (pe_callB call_len_seq (by rfl) tt.b_len PySem.boot_len (pa_cons (pv 0) pa_nil)) (nomark _)) (pss_one (ps_raise (E:=fun cls H'=>E cls none H') tt.x_BadWord rfl (fun _ _ _ _ _ _ _ I hx q=>raiseX I hx q) (pa_cons pe_str pa_nil))) pss_nil))))),?_⟩
  (try rw [cxK2]);(try rw [cxK1])
  refine ⟨_,rfl,p,_,rfl,hS,_,_,rfl,rfl,_,rfl,?_⟩
  rw [List.length_map]
  refine ite2 (fun h0=>absurd (of_decide_eq_true h0) (by omega)) (fun _=>?_)
  refine ⟨_,rfl,p,_,rfl,hS,_,rfl,_,rfl,_,rfl,?_⟩
  rw [List.length_map]
  refine ite2 (fun h0=>absurd (of_decide_eq_true h0) (by omega)) (fun _=>?_)
  refine ⟨_,rfl,p,ls.map T,_,rfl,hS,Same.refl _,fun J rd=>?_⟩
  refine for_reads rd (fun i σ H2=>H2=H∧∃ v,σ=[some (.ref p),v]) ⟨rfl,none,rfl⟩ (fun i σ H2 _ h=>by rw [h.1];exact Same.refl _) ?_ ?_
  ·rintro i y σ H2 hi ⟨rfl,v,rfl⟩
   obtain ⟨x,hxi,rfl⟩:∃ x,ls[i]?=some x∧y=T x:=by
    rw [List.getElem?_map] at hi
    obtain ⟨x,h1,h2⟩:=Option.map_eq_some_iff.mp hi
    exact ⟨x,h1,h2.symm⟩
   obtain ⟨hxl,hxc⟩:=hx x (List.mem_of_getElem? hxi)
   have hg:∀ kn:Nat,(6:Int)=(kn:Nat)->Good x kn:=fun kn e=>⟨⟨by omega,by omega⟩,fun c hc=>by have:=hxc c hc;omega⟩
   refine ⟨_,rfl,_,rfl,(by show 6<=sizeLine;omega),x,6,rfl,(by omega),fun z=>absurd ⟨by decide,by decide⟩ z,fun kn ek hk=>⟨fun _=>?_,fun z=>absurd (hg kn ek) z⟩⟩
   refine ⟨_,rfl,_,rfl,(by omega),_,_,rfl,rfl,_,rfl,?_⟩
   refine ite2 (fun h0=>absurd (of_decide_eq_true h0) (by omega)) (fun _=>?_)
   refine ⟨_,rfl,_,rfl,(by omega),_,rfl,p,_,_,_,rfl,rfl,hS,atI_nat (j:=0) (by rw [List.getElem?_map,hx0];rfl),_,rfl,(by omega),_,rfl,_,rfl,_,rfl,?_⟩
   refine iteNS (by rw [hxl,hx0l]) ?_
   exact ⟨rfl,_,rfl⟩
  ·rintro σ H2 ⟨rfl,v,rfl⟩
   refine ⟨_,rfl,p,ls,rfl,hS,(by omega),fun D hD=>?_⟩
   have sD:Same H2 (upd H2 D (SetT P w D (uniq ls))):=fun b o e=>by rw [upd_ne (ne_of_none e hD)];exact e
   refine ⟨D,_,rfl,upd_same,_,rfl,p,_,rfl,hS.on sD,_,rfl,_,rfl,_,rfl,?_⟩
   refine iteNS (by rw [List.length_map,uniq_len hnd]) ?_
   exact q _ sD
def flds (tp:Addr)(n:Int):List (Str×V):=putF "length" (.int n) (putF "words" (.ref tp) [])
theorem flds_w (tp:Addr)(n:Int):(flds tp n).lookup ("words" : Str)=some (.ref tp):=by
 unfold flds
 rw [lookup_putF,if_neg (by decide +kernel),lookup_putF,if_pos rfl]
theorem flds_l (tp:Addr)(n:Int):(flds tp n).lookup ("length" : Str)=some (.int n):=by
 unfold flds
 rw [lookup_putF,if_pos rfl]
def spWebI (K:PySem.W.Frag)(C:Addr):Sp:=fun vs H Q _=>∃ (x dx p:Addr) (ls:List (List Nat)) (n:Nat),vs=[.ref x,.ref p]∧H x=some (.ins C dx [])∧SqA K H p (ls.map T)∧WebOk ls n ∧
 ∀ (tp:Addr) (ms:List (List Nat)) (H':Hp),ms.Perm ls->ms.Pairwise (fun a b=>¬ b<a)->(∀ b o,H b=some o->b≠x->H' b=some o)->H' x=some (.ins C dx (flds tp (n:Nat)))->H' tp=some (.tup (ms.map T))->Q .non H'
theorem ok_Web_init {f:Addr}{fd:FuncData}(F:Fun K "__init__" "Web.__init__" s_Web_init f fd)(tt:Txt K mg ad)(C_looked_web:Cal P w K mg base (CX1 P w) "looked_web" 4 ["words"] (spWebL K)) :
  FnOk P w K mg base (CX1 P w) 5 f fd ["self", "words"] (spWebI K ad.Web):=by
 refine F.okX sc_Web_init (fun vs H Q E h=>?_) (fun cdv A outer s H vs Q E hr h=>?_)
 ·obtain ⟨x,dx,p,ls,n,rfl,_⟩:=h
  rfl
 ·obtain ⟨x,dx,p,ls,n,rfl,hx,hS,hok,q⟩:=h
  have hs:sizeLine=16777216:=sizeLine_eq
  obtain ⟨hne,h64,hn,hxs,hnd⟩:=id hok
  have hl0:0<ls.length:=List.length_pos_iff.mpr hne
  obtain ⟨x0,hx0⟩:∃ x0,ls[0]?=some x0:=⟨_,List.getElem?_eq_getElem hl0⟩
  have hx0l:=(hxs x0 (List.mem_of_getElem? hx0)).1
  refine ⟨_,(pss_cons (ps_expr (pe_cal C_looked_web hr passX (pa_cons (pv 1) pa_nil)))
   (pss_cons (ps_fld (pv 0) (pe_callTy call_tuple_of (by rfl) tt.b_tuple (by decide +kernel) (pa_cons (pe_callB call_sortedSA (by rfl) tt.b_sorted PyProof.Rows.boot_sorted (pa_cons (pv 1) pa_nil)) pa_nil)) rfl)
   (pss_one (ps_fld (pv 0) (pe_callB call_len_T (by rfl) tt.b_len PySem.boot_len (pa_cons (pe_ix ix_A (pv 1) pe_int (fun _ _=>rfl)) pa_nil)) rfl)))),?_⟩
  (try rw [cxK2]);(try rw [cxK1])
  refine ⟨_,rfl,p,ls,n,rfl,hS,hok,fun H1 s1=>?_⟩
  refine ⟨_,rfl,p,ls,rfl,hS.on s1,(by omega),fun ms D hD hperm hpw=>?_⟩
  have s2:Same H1 (upd H1 D (.lst (ms.map T))):=fun b o e=>by rw [upd_ne (ne_of_none e hD)];exact e
  refine ⟨D,_,rfl,.inl ⟨SqL.of upd_same,fun tp htp=>?_⟩⟩
  have s3:Same (upd H1 D (.lst (ms.map T))) (upd (upd H1 D (.lst (ms.map T))) tp (.tup (ms.map T))):=fun b o e=>by rw [upd_ne (ne_of_none e htp)];exact e
  generalize hH3:upd (upd H1 D (.lst (ms.map T))) tp (.tup (ms.map T))=H3 at s3
  have htp3:H3 tp=some (.tup (ms.map T)):=by rw [<- hH3];exact upd_same
  have s13:Same H H3:=s1.trans (s2.trans s3)
  have hx3:=s13 x _ hx
  have hxt:tp≠x:=fun z=>by subst z;rw [htp3] at hx3;cases hx3
  refine ⟨_,rfl,x,ad.Web,dx,[],rfl,hx3,tt.cl_Web,tt.na_Web_words,(by show 0<1000;decide),?_⟩
  have hS4:SqA K (upd H3 x (.ins ad.Web dx (putF "words" (.ref tp) []))) p (ls.map T):=sa_put (hS.on s13) hx3
  refine ⟨_,rfl,p,_,_,_,rfl,rfl,hS4,atI_nat (j:=0) (by rw [List.getElem?_map,hx0];rfl),_,rfl,(by omega),_,rfl,x,ad.Web,dx,_,rfl,upd_same,tt.cl_Web,tt.na_Web_length,(by show 1<1000;decide),?_⟩
  refine q tp ms _ hperm hpw (fun b o e hb=>?_) ?_ ?_
  ·rw [upd_ne hb,upd_ne hb]
   exact s13 b o e
  ·rw [upd_same,hx0l]
   rfl
  ·rw [upd_ne hxt,upd_ne hxt]
   exact htp3
def WebAt (C:Addr)(H:Hp)(x tp:Addr)(n:Nat)(ms:List (List Nat)):Prop:=(∃ dx,H x=some (.ins C dx (flds tp (n:Nat))))∧H tp=some (.tup (ms.map T))
theorem WebAt.on {C:Addr}{H H':Hp}{x tp:Addr}{n:Nat}{ms:List (List Nat)}(h:WebAt C H x tp n ms)(s:Same H H'):WebAt C H' x tp n ms:=let ⟨⟨dx,e⟩,t⟩:=h;⟨⟨dx,s _ _ e⟩,s _ _ t⟩
def spBegin:Sp:=fun vs H Q _=>∃ t:List Nat,vs=[T t]∧(1<=t.length∧t.length<=1000)∧Q (T (t.take (t.length-1))) H
theorem cut_begin {t:List Nat}(h:1<=t.length):cutL t none (some (-1))=t.take (t.length-1):=by
 unfold cutL
 rw [HT.sIx_none,List.drop_zero,Nat.sub_zero]
 show t.take (if (-1:Int)<0 then ((-1:Int)+(t.length:Int)).toNat else min (-1:Int).toNat t.length)=_
 rw [if_pos (by decide),show ((-1:Int)+(t.length:Int)).toNat=t.length-1 by omega]
theorem ok_begin_of {f:Addr}{fd:FuncData}(F:Fun K "begin_of" "begin_of" s_begin_of f fd)(tt:Txt K mg ad):FnOk P w K mg base (CX1 P w) 1 f fd ["word"] spBegin:=by
 refine F.okN sc_begin_of (fun vs H Q E h=>?_) (fun cdv A outer s H vs Q E hr h=>?_)
 ·obtain ⟨t,rfl,_⟩:=h
  rfl
 ·obtain ⟨t,rfl,hl,q⟩:=h
  have hs:sizeLine=16777216:=sizeLine_eq
  refine ⟨_,(pss_one (ps_ret (pe_slice sl_T (pv 0) po_none (po_some (pe_un un_neg pe_int))))),?_⟩
  (try rw [cxK2]);(try rw [cxK1])
  refine ⟨_,rfl,_,rfl,_,rfl,_,rfl,(by omega),?_⟩
  rw [show -(1:Int) = -1 from rfl,cut_begin hl.1]
  exact q
def spEnd:Sp:=fun vs H Q _=>∃ t:List Nat,vs=[T t]∧(1<=t.length∧t.length<=1000)∧Q (T (t.drop 1)) H
theorem ok_end_of {f:Addr}{fd:FuncData}(F:Fun K "end_of" "end_of" s_end_of f fd)(tt:Txt K mg ad):FnOk P w K mg base (CX1 P w) 1 f fd ["word"] spEnd:=by
 refine F.okN sc_end_of (fun vs H Q E h=>?_) (fun cdv A outer s H vs Q E hr h=>?_)
 ·obtain ⟨t,rfl,_⟩:=h
  rfl
 ·obtain ⟨t,rfl,hl,q⟩:=h
  have hs:sizeLine=16777216:=sizeLine_eq
  refine ⟨_,(pss_one (ps_ret (pe_slice sl_T (pv 0) (po_some pe_int) po_none))),?_⟩
  (try rw [cxK2]);(try rw [cxK1])
  refine ⟨_,rfl,_,rfl,_,rfl,(by omega),?_⟩
  have e:cutL t (some 1) none=t.drop 1:=cutL_from (k:=1) hl.1
  rw [e]
  exact q
theorem same_upd {H:Hp}{D:Addr}{o:HO}(h:H D=none):Same H (upd H D o):=fun b u e=>by rw [upd_ne (ne_of_none e h)];exact e
theorem named {H G:Hp}(s:Same H G):∃ H',H'=G∧Same H H':=⟨G,rfl,s⟩
def Sq (K:PySem.W.Frag)(H:Hp)(p:Addr)(xs:List V):Prop:=SqL K H p xs∨SqT K H p xs
theorem Sq.on {K:PySem.W.Frag}{H H':Hp}{p:Addr}{xs:List V}(h:Sq K H p xs)(s:Same H H'):Sq K H' p xs:=h.elim (fun z=>.inl (s.seq z)) fun z=>.inr (tupOn s z)
def beg (l:List Nat):List Nat:=l.take (l.length-1)
def Abc (x:List Nat):Prop:=∀ c∈x,97<=c∧c<103
theorem inV_T {t:List Nat}:∀ {ls:List (List Nat)},inV (T t) (ls.map T)=decide (t∈ls)
 | []=>by simp [inV]
 | l::ls=>by
  have ih:=@inV_T t ls
  have e:inV (T t) ((l::ls).map T)=(eqV (T l) (T t)||inV (T t) (ls.map T)):=rfl
  have e2:eqV (T l) (T t)=decide (t=l):=by
   show (tx l==tx t)=decide (t=l)
   rw [Bool.eq_iff_iff,beq_iff_eq,decide_eq_true_iff]
   exact ⟨fun h=>(tx_inj h).symm,fun h=>by rw [h]⟩
  rw [e,ih,e2,Bool.eq_iff_iff,Bool.or_eq_true,decide_eq_true_iff,decide_eq_true_iff,decide_eq_true_iff,List.mem_cons]
theorem map_id_T (ls:List (List Nat)):(ls.map T).map (fun v=>v)=ls.map T:=List.map_id _
theorem itP {c A B:Prop}[Decidable c](hc:c)(h:A):if c then A else B:=by rw [if_pos hc];exact h
theorem itN {c A B:Prop}[Decidable c](hc:¬ c)(h:B):if c then A else B:=by rw [if_neg hc];exact h
def IsP (ms:List (List Nat))(z:List Nat):Prop:=∃ w∈ms,z=beg w∨z=w.drop 1
theorem few_len1 {k:Nat}{ls ps:List (List Nat)}{p:List Nat}(h:FewN k ls)(hn:ps.Nodup)(hm:∀ z∈ps,z=p∨IsP ls z):ps.length<=k+1:=by
 obtain ⟨qs,h1,h2⟩:=h
 have:=Hg.nd_len (ms:=p::qs) hn fun z hz=>by
  rcases hm z hz with rfl | ⟨w,hw,rfl | rfl⟩
  ·exact List.mem_cons_self ..
  ·exact List.mem_cons_of_mem _ (h2 w hw).1
  ·exact List.mem_cons_of_mem _ (h2 w hw).2
 rw [List.length_cons] at this
 omega
theorem few64 {ls ps:List (List Nat)}{p:List Nat}(h:Few ls)(hn:ps.Nodup)(hm:∀ z∈ps,z=p∨IsP ls z):ps.length<64:=by
 have:=few_len1 h hn hm
 omega
def spPieces (C:Addr):Sp:=fun vs H Q _=>∃ (x tp:Addr) (n:Nat) (ms:List (List Nat)),vs=[.ref x]∧WebAt C H x tp n ms∧WebOk ms n ∧
 ∀ (D:Addr) (ps:List (List Nat)) (H':Hp),H D=none->Same H H'->H' D=some (.lst (ps.map T))->ps.Pairwise (fun a b=>¬ b<a)->ps.Nodup->(∀ z,z∈ps↔IsP ms z)->Q (.ref D) H'
theorem ok_pieces {f:Addr}{fd:FuncData}(F:Fun K "pieces" "pieces" s_pieces f fd)(tt:Txt K mg ad)(C_begin_of:Cal P w K mg base (CX1 P w) "begin_of" 1 ["word"] spBegin)(C_end_of:Cal P w K mg base (CX1 P w) "end_of" 1 ["word"] spEnd) :
  FnOk P w K mg base (CX1 P w) 2 f fd ["web"] (spPieces ad.Web):=by
 refine F.okN sc_pieces (fun vs H Q E h=>?_) (fun cdv A outer s H vs Q E hr h=>?_)
 ·obtain ⟨x,tp,n,ms,rfl,_⟩:=h
  rfl
 ·obtain ⟨x,tp,n,ms,rfl,hW,hok,q⟩:=h
  have hs:sizeLine=16777216:=sizeLine_eq
  obtain ⟨⟨dx,hx⟩,htp⟩:=id hW
  obtain ⟨hne,h64,hn,hxs,hnd⟩:=id hok
  have ulen:∀ ls:List (List Nat),(uniq ls).length<=ls.length:=fun ls=>nubTo_len ls _
  refine ⟨_,(pss_one (ps_ret (pe_callB (call_sortedIS rfl) (by rfl) tt.b_sorted PyProof.Rows.boot_sorted (pa_cons (pe_op op_orI (pe_callTy (call_setI rfl) (by rfl) tt.b_set (by decide +kernel) (pa_cons (pe_comp cs_pieces_0 rfl (pi_tup (pe_fld (pv 0) rfl)) (fun cl C s' H' fp=>(pe_cal C_begin_of hr pass1 (pa_cons (pv 0) pa_nil)))) pa_nil)) (pe_callTy (call_setI rfl) (by rfl) tt.b_set (by decide +kernel) (pa_cons (pe_comp cs_pieces_1 rfl (pi_tup (pe_fld (pv 0) rfl)) (fun cl C s' H' fp=>(pe_cal C_end_of hr pass1 (pa_cons (pv 0) pa_nil)))) pa_nil))) pa_nil)))),?_⟩
  (try rw [cxK2]);(try rw [cxK1])
  refine ⟨_,rfl,x,ad.Web,dx,_,_,rfl,hx,tt.cl_Web,tt.na_Web_words,flds_w _ _,tp,rfl,⟨_,SqT.of htp⟩,?_⟩
  refine compG (fun v=>T (beg (unT v))) (reads_tup (SqT.of htp)) (by rw [List.length_map];omega) (fun v H2 hv s2 N hN=>?_) fun D1 H2 hD1 s2 hd2=>?_
  ·obtain ⟨l,hl,rfl⟩:=List.mem_map.mp hv
   have hll:=(hxs l hl).1
   have z:=hN H2 (Same.refl _)
   rw [unT_T] at z
   exact ⟨_,rfl,l,rfl,⟨by omega,by omega⟩,z⟩
  rw [map_unT (f:=fun l=>T (beg l)),show ms.map (fun l=>T (beg l))=(ms.map beg).map T by rw [List.map_map];rfl] at hd2
  refine ⟨D1,ms.map beg,rfl,SqL.of hd2,(by rw [List.length_map];omega),fun S1 hS1=>?_⟩
  have s3:=s2.trans (same_upd (o:=SetI w S1 (uniq (ms.map beg))) hS1)
  have hd3:upd H2 S1 (SetI w S1 (uniq (ms.map beg))) S1=some (SetI w S1 (uniq (ms.map beg))):=upd_same
  refine ⟨_,rfl,x,ad.Web,dx,_,_,rfl,s3 x _ hx,tt.cl_Web,tt.na_Web_words,flds_w _ _,tp,rfl,⟨_,SqT.of (s3 tp _ htp)⟩,?_⟩
  refine compG (fun v=>T ((unT v).drop 1)) (reads_tup (SqT.of (s3 tp _ htp))) (by rw [List.length_map];omega) (fun v H4 hv s4 N hN=>?_) fun D2 H4 hD2 s4 hd4=>?_
  ·obtain ⟨l,hl,rfl⟩:=List.mem_map.mp hv
   have hll:=(hxs l hl).1
   have z:=hN H4 (Same.refl _)
   rw [unT_T] at z
   exact ⟨_,rfl,l,rfl,⟨by omega,by omega⟩,z⟩
  rw [map_unT (f:=fun l=>T (l.drop 1)),show ms.map (fun l=>T (l.drop 1))=(ms.map fun l=>l.drop 1).map T by rw [List.map_map];rfl] at hd4
  refine ⟨D2,ms.map (fun l=>l.drop 1),rfl,SqL.of hd4,(by rw [List.length_map];omega),fun S2 hS2=>?_⟩
  have s5:=same_upd (o:=SetI w S2 (uniq (ms.map fun l=>l.drop 1))) hS2
  have l1:=ulen (ms.map beg)
  have l2:=ulen (ms.map fun l=>l.drop 1)
  rw [List.length_map] at l1 l2
  have hS1':=s5 S1 _ (s4 S1 _ hd3)
  have ne12:S1≠S2:=fun z=>by
   have g:=s4 S1 _ hd3
   rw [z,hS2] at g
   cases g
  refine ⟨S1,S2,_,_,rfl,rfl,ne12,hS1',upd_same,(fun z=>?_),(by omega),fun D5 qs hD5 hqn hql hqm=>?_⟩
  ·obtain ⟨m0,hm0⟩:∃ m0,m0∈ms:=List.exists_mem_of_ne_nil _ hne
   have:beg m0∈uniq (ms.map beg):=(uniq_mem _ _).mpr (List.mem_map_of_mem hm0)
   rw [z] at this
   cases this
  have s6:=same_upd (o:=SetI w D5 qs) hD5
  refine ⟨D5,qs,rfl,upd_same,(few64 (p:=[]) hok.2.2.1.2 hqn fun z hz=>.inr ?few),fun ps D6 hD6 hp6 hw6=>?_⟩
  case few =>
   rw [hqm,uniq_mem,uniq_mem,List.mem_map,List.mem_map] at hz
   rcases hz with ⟨l,hl,rfl⟩ | ⟨l,hl,rfl⟩
   ·exact ⟨l,hl,.inl rfl⟩
   ·exact ⟨l,hl,.inr rfl⟩
  have s7:=same_upd (o:=.lst (ps.map T)) hD6
  have sall:=s3.trans (s4.trans (s5.trans (s6.trans s7)))
  have hD6':H D6=none:=by
   cases e:H D6 with
   | none=>rfl
   | some o =>
    have g:=(s3.trans (s4.trans (s5.trans s6))) D6 o e
    exact absurd (g.symm.trans hD6) (fun z=>nomatch z)
  refine q D6 ps _ hD6' sall upd_same hw6 (hp6.nodup_iff.mpr hqn) fun z=>?_
  rw [hp6.mem_iff,hqm,uniq_mem,uniq_mem,List.mem_map,List.mem_map]
  constructor
  ·rintro (⟨l,hl,rfl⟩ | ⟨l,hl,rfl⟩)
   ·exact ⟨l,hl,.inl rfl⟩
   ·exact ⟨l,hl,.inr rfl⟩
  ·rintro ⟨l,hl,rfl | rfl⟩
   ·exact .inl ⟨l,hl,rfl⟩
   ·exact .inr ⟨l,hl,rfl⟩
def exc (ms so:List (List Nat)):Int:=((ms.filter fun l=>decide (beg l∈so)).length:Int)-((ms.filter fun l=>decide (l.drop 1∈so)).length:Int)
def spExcess (K:PySem.W.Frag)(C:Addr):Sp:=fun vs H Q _=>∃ (x tp b:Addr) (n:Nat) (ms so:List (List Nat)),vs=[.ref x,.ref b]∧WebAt C H x tp n ms∧WebOk ms n∧Sq K H b (so.map T)∧∀ (H':Hp),Same H H'->Q (.int (exc ms so)) H'
theorem ok_excess {f:Addr}{fd:FuncData}(F:Fun K "excess" "excess" s_excess f fd)(tt:Txt K mg ad)(C_begin_of:Cal P w K mg base (CX1 P w) "begin_of" 1 ["word"] spBegin)(C_end_of:Cal P w K mg base (CX1 P w) "end_of" 1 ["word"] spEnd) :
  FnOk P w K mg base (CX1 P w) 2 f fd ["web", "some"] (spExcess K ad.Web):=by
 refine F.okN sc_excess (fun vs H Q E h=>?_) (fun cdv A outer s H vs Q E hr h=>?_)
 ·obtain ⟨x,tp,b,n,ms,so,rfl,_⟩:=h
  rfl
 ·obtain ⟨x,tp,b,n,ms,so,rfl,hW,hok,hB,q⟩:=h
  have hs:sizeLine=16777216:=sizeLine_eq
  obtain ⟨⟨dx,hx⟩,htp⟩:=id hW
  obtain ⟨hne,h64,hn,hxs,hnd⟩:=id hok
  refine ⟨_,(pss_cons (ps_setCompf (i:=2) cs_excess_0 rfl (pi_tup (pe_fld (pv 0) rfl)) (fun cl C s' H' fp=>(pt_cmpR (op_in_seqK K rfl) (pe_cal C_begin_of hr pass1 (pa_cons (pv 0) pa_nil)) (pv 2) (by with_unfolding_all rfl))) (fun cl C s' H' fp=>(pv 0)) sc_excess.nd rfl rfl)
   (pss_cons (ps_setCompf (i:=3) cs_excess_1 rfl (pi_tup (pe_fld (pv 0) rfl)) (fun cl C s' H' fp=>(pt_cmpR (op_in_seqK K rfl) (pe_cal C_end_of hr pass1 (pa_cons (pv 0) pa_nil)) (pv 2) (by with_unfolding_all rfl))) (fun cl C s' H' fp=>(pv 0)) sc_excess.nd rfl rfl)
   (pss_one (ps_ret (pe_op op_sub (pe_callB call_len_seq (by rfl) tt.b_len PySem.boot_len (pa_cons (pv 2) pa_nil)) (pe_callB call_len_seq (by rfl) tt.b_len PySem.boot_len (pa_cons (pv 3) pa_nil))))))),?_⟩
  (try rw [cxK2]);(try rw [cxK1])
  refine ⟨_,rfl,x,ad.Web,dx,_,_,rfl,hx,tt.cl_Web,tt.na_Web_words,flds_w _ _,tp,rfl,⟨_,SqT.of htp⟩,?_⟩
  refine compFG (fun v=>decide (beg (unT v)∈so)) (fun v=>v) (reads_tup (SqT.of htp)) (by rw [List.length_map];omega) (fun v H2 hv s2 N hN=>?_) (fun v H2 hv hp s2 N hN=>?_) fun D1 H2 hD1 s2 hd2=>?_
  ·obtain ⟨l,hl,rfl⟩:=List.mem_map.mp hv
   have hll:=(hxs l hl).1
   have z:=hN H2 (Same.refl _)
   rw [unT_T] at z
   refine ⟨_,rfl,l,rfl,⟨by omega,by omega⟩,_,rfl,b,_,rfl,hB.on s2,rfl,all_flat so,_,rfl,?_⟩
   show N (inV (T (beg l)) (so.map T)) H2
   rw [inV_T]
   exact z
  ·exact ⟨_,rfl,hN H2 (Same.refl _)⟩
  rw [show (ms.map T).filter (fun v=>decide (beg (unT v)∈so))=(ms.filter fun l=>decide (beg l∈so)).map T from filter_unT (p:=fun l=>decide (beg l∈so)) ms,map_id_T] at hd2
  refine ⟨_,rfl,x,ad.Web,dx,_,_,rfl,s2 x _ hx,tt.cl_Web,tt.na_Web_words,flds_w _ _,tp,rfl,⟨_,SqT.of (s2 tp _ htp)⟩,?_⟩
  refine compFG (fun v=>decide ((unT v).drop 1∈so)) (fun v=>v) (reads_tup (SqT.of (s2 tp _ htp))) (by rw [List.length_map];omega) (fun v H3 hv s3 N hN=>?_) (fun v H3 hv hp s3 N hN=>?_) fun D2 H3 hD2 s3 hd3=>?_
  ·obtain ⟨l,hl,rfl⟩:=List.mem_map.mp hv
   have hll:=(hxs l hl).1
   have z:=hN H3 (Same.refl _)
   rw [unT_T] at z
   refine ⟨_,rfl,l,rfl,⟨by omega,by omega⟩,_,rfl,b,_,rfl,(hB.on s2).on s3,rfl,all_flat so,_,rfl,?_⟩
   show N (inV (T (l.drop 1)) (so.map T)) H3
   rw [inV_T]
   exact z
  ·exact ⟨_,rfl,hN H3 (Same.refl _)⟩
  rw [show (ms.map T).filter (fun v=>decide ((unT v).drop 1∈so))=(ms.filter fun l=>decide (l.drop 1∈so)).map T from filter_unT (p:=fun l=>decide (l.drop 1∈so)) ms,map_id_T] at hd3
  refine ⟨_,rfl,D1,_,rfl,.inl (SqL.of (s3 D1 _ hd2)),_,rfl,D2,_,rfl,.inl (SqL.of hd3),_,_,rfl,rfl,?_⟩
  rw [List.length_map,List.length_map]
  exact q H3 (s2.trans s3)
abbrev En (l:List Nat):List Nat:=l.drop 1
abbrev Rc (ms:List (List Nat))(p z:List Nat):Prop:=Hg.Rch beg En ms p z
theorem val_tKs {t:List Nat}{v:V}:∀ {ls:List (List Nat)},valV (tKs ls v) (Sum.inr (tx t))=if t∈ls then some v else none
 | []=>by simp [tKs,valV]
 | l::ls=>by
  have ih:=@val_tKs t v ls
  unfold tKs valV at ih ⊢
  rw [List.map_cons,List.find?_cons]
  by_cases e:l=t
  ·subst e
   simp
  ·have e2:¬ (Sum.inr (tx l):Key)=Sum.inr (tx t):=fun z=>e (tx_inj (Sum.inr.inj z))
   have e3:¬ t=l:=fun z=>e z.symm
   simp only [e2,decide_false,List.mem_cons,e3,false_or]
   exact ih
theorem put_tKs {t:List Nat}{v:V}{ls:List (List Nat)}:putK (tKs ls v) (Sum.inr (tx t)) v=tKs (Hg.addT ls t) v:=by
 have e:((tKs ls v).any fun kv=>decide (kv.1=Sum.inr (tx t)))=decide (t∈ls):=by
  rw [Bool.eq_iff_iff,List.any_eq_true,decide_eq_true_iff]
  constructor
  ·rintro ⟨kv,h1,h2⟩
   obtain ⟨l,hl,rfl⟩:=List.mem_map.mp h1
   have:=tx_inj (Sum.inr.inj (of_decide_eq_true h2))
   exact this▸hl
  ·exact fun h=>⟨_,List.mem_map_of_mem h,decide_eq_true rfl⟩
 unfold putK Hg.addT
 rw [e]
 by_cases h:t∈ls
 ·rw [if_pos (decide_eq_true h),if_pos h]
  conv=>rhs;rw [<- List.map_id (tKs ls v)]
  refine List.map_congr_left fun kv hkv=>?_
  obtain ⟨l,_,rfl⟩:=List.mem_map.mp hkv
  split
  ·rfl
  ·rfl
 ·rw [if_neg (by rw [decide_eq_false h];exact Bool.false_ne_true),if_neg h]
  unfold tKs
  rw [List.map_append]
  rfl
theorem tKs_keys (ls:List (List Nat))(v:V):(tKs ls v).map (·.1)=ls.map fun t=>Sum.inr (tx t):=by
 unfold tKs
 rw [List.map_map]
 rfl
theorem tKs_len (ls:List (List Nat))(v:V):(tKs ls v).length=ls.length:=by unfold tKs;rw [List.length_map]
theorem rc_or {ms:List (List Nat)}{p z:List Nat}(h:Rc ms p z):z=p∨IsP ms z:=by
 rcases Hg.rch_in h with rfl | g
 ·exact .inl rfl
 ·rcases List.mem_append.mp g with g | g
  ·obtain ⟨l,hl,e⟩:=List.mem_map.mp g
   exact .inr ⟨l,hl,.inl e.symm⟩
  ·obtain ⟨l,hl,e⟩:=List.mem_map.mp g
   exact .inr ⟨l,hl,.inr e.symm⟩
def spHBy (K:PySem.W.Frag):Sp:=fun vs H Q _=>∃ (a:Addr) (ms:List (List Nat)) (p:List Nat),vs=[.ref a,T p]∧SqA K H a (ms.map T)∧(ms.length<=64∧∀ x∈ms,1<=x.length∧x.length<=1000) ∧
 ∀ (D:Addr) (H':Hp) (ls:List (List Nat)),H D=none->Same H H'->H' D=some (.dK (tKs ls (.bl true)))->ls.Nodup->(∀ z,z∈ls↔Rc ms p z)->Q (.ref D) H'
theorem ok_hanging_by {f:Addr}{fd:FuncData}(F:Fun K "hanging_by" "hanging_by" s_hanging_by f fd)(tt:Txt K mg ad)(C_begin_of:Cal P w K mg base (CX1 P w) "begin_of" 1 ["word"] spBegin)(C_end_of:Cal P w K mg base (CX1 P w) "end_of" 1 ["word"] spEnd) :
  FnOk P w K mg base (CX1 P w) 2 f fd ["words", "piece"] (spHBy K):=by
 refine F.okN sc_hanging_by (fun vs H Q E h=>?_) (fun cdv A outer s H vs Q E hr h=>?_)
 ·obtain ⟨a,ms,p,rfl,_⟩:=h
  rfl
 ·obtain ⟨a,ms,p,rfl,hS,⟨h64,hxl⟩,q⟩:=h
  have hs:sizeLine=16777216:=sizeLine_eq
  refine ⟨_,(pss_cons (ps_set (i:=2) sc_hanging_by.nd rfl (Or.inl rfl) (pe_disp (pps_cons (pv 1) pe_bl pps_nil) rfl rfl (fun z=>nomatch z) (by decide)))
   (pss_cons (ps_set (i:=3) sc_hanging_by.nd rfl (Or.inl rfl) pe_int)
   (pss_cons (ps_while PassesOwn.never (pt_cmpR op_lt (pv 3) (pe_callB call_lenD (by rfl) tt.b_len PySem.boot_len (pa_cons (pv 2) pa_nil)) (nomark _)) (pss_cons (ps_set (i:=3) sc_hanging_by.nd rfl (Or.inl rfl) (pe_callB call_lenD (by rfl) tt.b_len PySem.boot_len (pa_cons (pv 2) pa_nil)))
   (pss_one (ps_for PassesOwn.never rfl (pi_seqK K rfl (pv 0)) (pg_name (i:=4) sc_hanging_by.nd rfl (Or.inl rfl)) (pss_one (ps_if (PW.pt (pw_or (pt_cmp (pc_din (hu_of hr) (pe_cal C_begin_of hr pass1 (pa_cons (pv 4) pa_nil)) (pv 2))) (pw_or1 (pt_cmp (pc_din (hu_of hr) (pe_cal C_end_of hr pass1 (pa_cons (pv 4) pa_nil)) (pv 2)))))) (pss_cons (ps_dput (hu_of hr) (pv 2) (pe_cal C_begin_of hr pass1 (pa_cons (pv 4) pa_nil)) pe_bl rfl)
   (pss_one (ps_dput (hu_of hr) (pv 2) (pe_cal C_end_of hr pass1 (pa_cons (pv 4) pa_nil)) pe_bl rfl))) pss_nil))))))
   (pss_one (ps_ret (pv 2)))))),?_⟩
  (try rw [cxK2]);(try rw [cxK1])
  intro D hD
  refine ⟨_,rfl,upd_same,[(Sum.inr (tx p),.bl true)],rfl,(by show 1<=15;decide),?_⟩
  have sD:Same H (upd H D (.dK (tKs [p] (.bl true)))):=same_upd hD
  have e1:upd (upd H D (.dK [])) D (.dK (mergeK [] [(Sum.inr (tx p),.bl true)]))=upd H D (.dK (tKs [p] (.bl true))):=by
   rw [upd_upd]
   rfl
  rw [e1]
  refine ⟨fun m σ H2=>∃ (fs:List (List Nat)) (kn:Nat) (v4:Option V),m=2*ms.length+2-kn∧Same H H2∧H2 D=some (.dK (tKs fs (.bl true)))∧fs.Nodup∧p∈fs∧(∀ z∈fs,Rc ms p z)∧kn<=fs.length∧(kn=fs.length->∀ x∈ms,Hg.Cl beg En fs x)∧σ=[some (.ref a),some (T p),some (.ref D),some (.int (kn:Nat)),v4],
   ⟨_,[p],0,none,rfl,sD,upd_same,by simp,by simp,(fun z hz=>by rw [List.mem_singleton.mp hz];exact .self),Nat.zero_le _,(fun z=>nomatch z),rfl⟩,?_⟩
  rintro m σ H2 ⟨fs,kn,v4,hm,s2,hd2,hnd,hp,hrc,hkn,hcl,rfl⟩
  have hfl:=Hg.len_le hnd hrc
  refine ⟨_,rfl,_,rfl,D,_,rfl,hd2,_,_,rfl,rfl,_,rfl,?_⟩
  rw [tKs_len]
  refine ite2 (fun h0=>?_) (fun h0=>?_)
  ·have h0':kn<fs.length:=by have:=of_decide_eq_true h0;omega
   refine ⟨fun σ' H'=>∃ m'<m,∃ (fs:List (List Nat)) (kn:Nat) (v4:Option V),m'=2*ms.length+2-kn∧Same H H'∧H' D=some (.dK (tKs fs (.bl true)))∧fs.Nodup∧p∈fs∧(∀ z∈fs,Rc ms p z)∧kn<=fs.length∧(kn=fs.length->∀ x∈ms,Hg.Cl beg En fs x)∧σ'=[some (.ref a),some (T p),some (.ref D),some (.int (kn:Nat)),v4],fun σ' H' z=>z,?_⟩
   refine ⟨_,rfl,D,_,rfl,hd2,?_⟩
   rw [tKs_len]
   refine ⟨_,rfl,a,ms.map T,_,rfl,hS,s2,fun J rd=>?_⟩
   refine for_reads rd (fun i σ H3=>Same H H3∧∃ (ls:List (List Nat)) (v4:Option V),H3 D=some (.dK (tKs ls (.bl true)))∧Hg.Pass beg En ms p fs i ls∧σ=[some (.ref a),some (T p),some (.ref D),some (.int (fs.length:Nat)),v4]) ⟨s2,fs,v4,hd2,.zero hnd hrc,rfl⟩ (fun i σ H3 _ h=>h.1) ?_ ?_
   ·rintro i y σ H3 hi ⟨s3,ls,v4,hd3,hps,rfl⟩
    obtain ⟨x,hx,rfl⟩:∃ x,ms[i]?=some x∧T x=y:=by rw [List.getElem?_map] at hi;exact Option.map_eq_some_iff.mp hi
    have hxx:=hxl x (List.mem_of_getElem? hx)
    have hdx:∀ t:List Nat,DGet H3 D (T t) (if t∈ls then some (.bl true) else none):=fun t=>by have g:=DGet.k (k:=Sum.inr (tx t)) hd3;rwa [val_tKs] at g
    have l3:=Hg.len_le hps.nd hps.rch
    have sameD:∀ {G:Hp} {o1 o2:HO},Same H G->Same H (upd (upd G D o1) D o2):=fun sg b o e=>by
     rw [upd_ne (ne_of_none e hD),upd_ne (ne_of_none e hD)]
     exact sg b o e
    refine ⟨_,rfl,x,rfl,hxx,_,rfl,D,_,rfl,hdx _,_,rfl,?_⟩
    by_cases hb:beg x∈ls
    ·refine itP (by show (if beg x∈ls then some (V.bl true) else none).isSome=true;rw [if_pos hb];rfl) ?_
     refine ⟨_,rfl,_,rfl,x,rfl,hxx,D,_,rfl,DPut.k (k:=Sum.inr (tx (beg x))) hd3 (by rw [tKs_len];omega),?_⟩
     rw [put_tKs]
     refine ⟨_,rfl,_,rfl,x,rfl,hxx,D,_,rfl,DPut.k (k:=Sum.inr (tx (En x))) upd_same (by rw [tKs_len];have:=Hg.addT_len ls (beg x);omega),?_⟩
     rw [put_tKs]
     exact ⟨sameD s3,_,some (T x),upd_same,hps.yes hx (.inl hb),rfl⟩
    ·refine itN (by show ¬ (if beg x∈ls then some (V.bl true) else none).isSome=true;rw [if_neg hb];exact Bool.false_ne_true) ?_
     refine ⟨_,rfl,x,rfl,hxx,_,rfl,D,_,rfl,hdx _,_,rfl,?_⟩
     by_cases he:En x∈ls
     ·refine itP (by show (if En x∈ls then some (V.bl true) else none).isSome=true;rw [if_pos he];rfl) ?_
      refine ⟨_,rfl,_,rfl,x,rfl,hxx,D,_,rfl,DPut.k (k:=Sum.inr (tx (beg x))) hd3 (by rw [tKs_len];omega),?_⟩
      rw [put_tKs]
      refine ⟨_,rfl,_,rfl,x,rfl,hxx,D,_,rfl,DPut.k (k:=Sum.inr (tx (En x))) upd_same (by rw [tKs_len];have:=Hg.addT_len ls (beg x);omega),?_⟩
      rw [put_tKs]
      exact ⟨sameD s3,_,some (T x),upd_same,hps.yes hx (.inr he),rfl⟩
     ·refine itN (by show ¬ (if En x∈ls then some (V.bl true) else none).isSome=true;rw [if_neg he];exact Bool.false_ne_true) ?_
      exact ⟨s3,ls,some (T x),hd3,hps.no hx hb he,rfl⟩
   ·rintro σ H3 ⟨s3,ls,v4,hd3,hps,rfl⟩
    have l1:=hps.pre.length_le
    refine ⟨_,?_,ls,fs.length,v4,rfl,s3,hd3,hps.nd,hps.pre.subset hp,hps.rch,l1,(fun e x hx=>?_),rfl⟩
    ·omega
    ·have hc:=hps.cl e.symm x (by rw [List.length_map,List.take_length];exact hx)
     rwa [hps.pre.eq_of_length e] at hc
  ·have h0':kn=fs.length:=by have z:¬ ((kn:Int)<(fs.length:Int)):=fun z=>h0 (decide_eq_true z);omega
   exact ⟨_,rfl,q D H2 fs hD s2 hd2 hnd fun z=>⟨hrc z,fun hz=>hz.inside hp (hcl h0')⟩⟩
def spHang (C:Addr)(ad:Adr):Sp:=fun vs H Q E=>∃ (x tp:Addr) (n:Nat) (ms:List (List Nat)) (p:List Nat),vs=[.ref x,T p]∧WebAt C H x tp n ms∧WebOk ms n∧(¬ IsP ms p->∀ H',Same H H'->E (.ref ad.NoSuch) none H') ∧
 (IsP ms p->∀ (D:Addr) (ps:List (List Nat)) (H':Hp),H D=none->Same H H'->H' D=some (.lst (ps.map T))->ps.Pairwise (fun a b=>¬ b<a)->ps.Nodup->(∀ z,z∈ps↔Rc ms p z)->Q (.ref D) H')
theorem back_none {H G:Hp}{D:Addr}(s:Same H G)(h:G D=none):H D=none:=by
 cases e:H D with
 | none=>rfl
 | some o=>exact absurd ((s D o e).symm.trans h) (fun z=>nomatch z)
theorem ok_hanging {f:Addr}{fd:FuncData}(F:Fun K "hanging" "hanging" s_hanging f fd)(tt:Txt K mg ad)(C_pieces:Cal P w K mg base (CX1 P w) "pieces" 2 ["web"] (spPieces ad.Web))(C_hanging_by:Cal P w K mg base (CX1 P w) "hanging_by" 2 ["words", "piece"] (spHBy K)) :
  FnOk P w K mg base (CX1 P w) 3 f fd ["web", "piece"] (spHang ad.Web ad):=by
 refine F.okX sc_hanging (fun vs H Q E h=>?_) (fun cdv A outer s H vs Q E hr h=>?_)
 ·obtain ⟨x,tp,n,ms,p,rfl,_⟩:=h
  rfl
 ·obtain ⟨x,tp,n,ms,p,rfl,hW,hok,xn,q⟩:=h
  have hs:sizeLine=16777216:=sizeLine_eq
  obtain ⟨⟨dx,hx⟩,htp⟩:=id hW
  obtain ⟨hne,h64,hn,hxs,hnd⟩:=id hok
  refine ⟨_,(pss_cons (ps_if (pt_cmpR op_notIn_seq (pv 1) (pe_cal C_pieces hr pass1 (pa_cons (pv 0) pa_nil)) (by with_unfolding_all rfl)) (pss_one (ps_raise (E:=fun cls H'=>E cls none H') tt.x_NoSuch rfl (fun _ _ _ _ _ _ _ I hx q=>raiseX I hx q) (pa_cons pe_str pa_nil))) pss_nil)
   (pss_one (ps_ret (pe_callB (call_sortedDS rfl) (by rfl) tt.b_sorted PyProof.Rows.boot_sorted (pa_cons (pe_cal C_hanging_by hr pass1 (pa_cons (pe_fld (pv 0) rfl) (pa_cons (pv 1) pa_nil))) pa_nil))))),?_⟩
  (try rw [cxK2]);(try rw [cxK1])
  refine ⟨_,rfl,_,rfl,x,tp,n,ms,rfl,hW,hok,fun D1 ps H1 hD1 s1 hd1 hpw hpn hpm=>?_⟩
  refine ⟨D1,_,rfl,.inl (SqL.of hd1),rfl,all_flat ps,_,rfl,?_⟩
  by_cases hp:p∈ps
  ·refine itN (by rw [inV_T,decide_eq_true hp];exact Bool.false_ne_true) ?_
   refine ⟨_,rfl,x,ad.Web,dx,_,_,rfl,s1 x _ hx,tt.cl_Web,tt.na_Web_words,flds_w _ _,_,rfl,tp,ms,p,rfl,.inr (SqT.of (s1 tp _ htp)),⟨by omega,fun y hy=>by have:=(hxs y hy).1;omega⟩,fun D2 H2 ls hD2 s2 hd2 hln hlm=>?_⟩
   refine ⟨D2,ls,_,rfl,hd2,tKs_keys _ _,few64 hok.2.2.1.2 hln (fun z hz=>rc_or ((hlm z).mp hz)),fun qs D3 hD3 hp3 hw3=>?_⟩
   exact q ((hpm p).mp hp) D3 qs _ (back_none (s1.trans s2) hD3) (s1.trans (s2.trans (same_upd hD3))) upd_same hw3 (hp3.nodup_iff.mpr hln) fun z=>by rw [hp3.mem_iff,hlm]
  ·refine itP (by rw [inV_T,decide_eq_false hp];rfl) ?_
   exact ⟨(by show 1<=sizeLine;omega),xn (fun z=>hp ((hpm p).mpr z)) H1 s1⟩
def unev:List Nat:=[117,110,101,118,101,110]
def apar:List Nat:=[97,112,97,114,116]
theorem exc_perm {ls ms so:List (List Nat)}(p:ms.Perm ls):exc ms so=exc ls so:=by
 unfold exc
 rw [(p.filter fun l=>decide (beg l∈so)).length_eq,(p.filter fun l=>decide (l.drop 1∈so)).length_eq]
abbrev Pap:=Option (List Nat×List (List Nat))
def PapAt (H:Hp)(v:V):Pap->Prop
 | none=>v = .non
 | some (kd,so)=>∃ p b:Addr,v = .ref p∧H p=some (.tup [T kd,.ref b])∧H b=some (.tup (so.map T))
def Pcs (ms ev:List (List Nat)):Prop:=ev.Pairwise (fun a b=>¬ b<a)∧ev.Nodup∧∀ z,z∈ev↔IsP ms z
theorem Pcs.uniq {ms ls ev eu:List (List Nat)}(h:Pcs ms ev)(g:Pcs ls eu)(p:ms.Perm ls):ev=eu:=Wd.sorted_same ((List.perm_ext_iff_of_nodup h.2.1 g.2.1).mpr fun z=>by rw [h.2.2,g.2.2];exact ⟨fun ⟨w,h1,h2⟩=>⟨w,p.mem_iff.mp h1,h2⟩,fun ⟨w,h1,h2⟩=>⟨w,p.mem_iff.mpr h1,h2⟩⟩) h.1 g.1
def WhyA (ms ev:List (List Nat))(r:Pap):Prop:=∃ (z0:List Nat) (so:List (List Nat)),ev[0]?=some z0∧so.Pairwise (fun a b=>¬ b<a)∧so.Nodup∧(∀ z,z∈so↔Rc ms z0 z)∧r=if so.length=ev.length then none else some (apar,so)
def spWhyA (C:Addr):Sp:=fun vs H Q _=>∃ (x tp:Addr) (n:Nat) (ms:List (List Nat)),vs=[.ref x]∧WebAt C H x tp n ms∧WebOk ms n ∧
 ∀ (ev:List (List Nat)) (r:Pap) (v:V) (H':Hp),Pcs ms ev->WhyA ms ev r->PapAt H' v r->Same H H'->Q v H'
theorem pcs_ne {ms ev:List (List Nat)}(h:Pcs ms ev)(hne:ms≠[]):∃ z0,ev[0]?=some z0∧IsP ms z0:=by
 obtain ⟨l,hl⟩:=List.exists_mem_of_ne_nil _ hne
 have hm:=(h.2.2 (beg l)).mpr ⟨l,hl,.inl rfl⟩
 have h0:=List.length_pos_of_mem hm
 exact ⟨_,List.getElem?_eq_getElem h0,(h.2.2 _).mp (List.getElem_mem h0)⟩
theorem ok_why_apart {f:Addr}{fd:FuncData}(F:Fun K "why_apart" "why_apart" s_why_apart f fd)(tt:Txt K mg ad)(C_pieces:Cal P w K mg base (CX1 P w) "pieces" 2 ["web"] (spPieces ad.Web))(C_hanging:Cal P w K mg base (CX1 P w) "hanging" 3 ["web", "piece"] (spHang ad.Web ad)) :
  FnOk P w K mg base (CX1 P w) 4 f fd ["web"] (spWhyA ad.Web):=by
 refine F.okN sc_why_apart (fun vs H Q E h=>?_) (fun cdv A outer s H vs Q E hr h=>?_)
 ·obtain ⟨x,tp,n,ms,rfl,_⟩:=h
  rfl
 ·obtain ⟨x,tp,n,ms,rfl,hW,hok,q⟩:=h
  have hs:sizeLine=16777216:=sizeLine_eq
  refine ⟨_,(pss_cons (ps_set (i:=1) sc_why_apart.nd rfl (Or.inl rfl) (pe_cal C_pieces hr pass1 (pa_cons (pv 0) pa_nil)))
   (pss_cons (ps_set (i:=2) sc_why_apart.nd rfl (Or.inl rfl) (pe_cal C_hanging hr pass1 (pa_cons (pv 0) (pa_cons (pe_ix ix_list (pv 1) pe_int (fun _ _=>rfl)) pa_nil))))
   (pss_cons (ps_if (pt_cmpR op_eq_I (pe_callB call_len_seq (by rfl) tt.b_len PySem.boot_len (pa_cons (pv 2) pa_nil)) (pe_callB call_len_seq (by rfl) tt.b_len PySem.boot_len (pa_cons (pv 1) pa_nil)) (nomark _)) (pss_one (ps_ret pe_non)) pss_nil)
   (pss_one (ps_ret (pe_tup (pa_cons (pe_strT [97,112,97,114,116] (by decide +kernel)) (pa_cons (pe_callTy call_tuple_of (by rfl) tt.b_tuple (by decide +kernel) (pa_cons (pv 2) pa_nil)) pa_nil)))))))),?_⟩
  (try rw [cxK2]);(try rw [cxK1])
  refine ⟨_,rfl,x,tp,n,ms,rfl,hW,hok,fun D1 ev H1 hD1 s1 hd1 hpw hpn hpm=>?_⟩
  have hpc:Pcs ms ev:=⟨hpw,hpn,hpm⟩
  obtain ⟨z0,hz0,hz0p⟩:=pcs_ne hpc hok.1
  refine ⟨_,rfl,_,rfl,D1,_,_,_,rfl,rfl,SqL.of hd1,atI_nat (j:=0) (by rw [List.getElem?_map,hz0];rfl),x,tp,n,ms,z0,rfl,hW.on s1,hok,fun z=>absurd hz0p z,fun _ D2 so H2 hD2 s2 hd2 hw2 hn2 hm2=>?_⟩
  have hwy:WhyA ms ev (if so.length=ev.length then none else some (apar,so)):=⟨z0,so,hz0,hw2,hn2,hm2,rfl⟩
  have s12:=s1.trans s2
  refine ⟨_,rfl,D2,_,rfl,.inl (SqL.of hd2),_,rfl,D1,_,rfl,.inl (SqL.of (s2 D1 _ hd1)),_,rfl,_,rfl,_,rfl,?_⟩
  rw [List.length_map,List.length_map]
  by_cases he:so.length=ev.length
  ·refine itP (decide_eq_true (by rw [he])) ?_
   rw [if_pos he] at hwy
   exact q ev none .non H2 hpc hwy rfl s12
  ·refine itN (fun z=>he (by have:=of_decide_eq_true z;omega)) ?_
   rw [if_neg he] at hwy
   refine ⟨_,rfl,D2,_,rfl,.inl ⟨SqL.of hd2,fun b hb=>?_⟩⟩
   have t3:=same_upd (o:=.tup (so.map T)) hb
   refine ⟨(by show 2<=sizeLine;omega),fun pp hpp=>?_⟩
   have t4:=same_upd (o:=.tup [T apar,.ref b]) hpp
   exact q ev _ _ _ hpc hwy ⟨pp,b,rfl,upd_same,t4 b _ upd_same⟩ (s12.trans (t3.trans t4))
def WhyR (ms ev:List (List Nat))(r:Pap):Prop:=(∃ z,ev.find? (fun z=>!decide (exc ms [z]=0))=some z∧r=some (unev,[z]))∨(ev.find? (fun z=>!decide (exc ms [z]=0))=none∧WhyA ms ev r)
def spWhyR (C:Addr):Sp:=fun vs H Q _=>∃ (x tp:Addr) (n:Nat) (ms:List (List Nat)),vs=[.ref x]∧WebAt C H x tp n ms∧WebOk ms n ∧
 ∀ (ev:List (List Nat)) (r:Pap) (v:V) (H':Hp),Pcs ms ev->WhyR ms ev r->PapAt H' v r->Same H H'->Q v H'
theorem find_snoc_none {p:List Nat->Bool}{ev:List (List Nat)}{i:Nat}{z:List Nat}(h:(ev.take i).find? p=none)(hz:ev[i]?=some z):(p z=false->(ev.take (i+1)).find? p=none)∧(p z=true->ev.find? p=some z):=by
 constructor
 ·intro hp
  rw [List.take_add_one,hz,List.find?_append,h]
  simp [hp]
 ·intro hp
  have e:ev=ev.take i++z::ev.drop (i+1):=by
   have g:=(List.getElem?_eq_some_iff.mp hz)
   rw [<- g.2,<- List.drop_eq_getElem_cons g.1,List.take_append_drop]
  rw [e,List.find?_append,h]
  simp [hp]
theorem ok_why_no_ring {f:Addr}{fd:FuncData}(F:Fun K "why_no_ring" "why_no_ring" s_why_no_ring f fd)(tt:Txt K mg ad)(C_pieces:Cal P w K mg base (CX1 P w) "pieces" 2 ["web"] (spPieces ad.Web))(C_excess:Cal P w K mg base (CX1 P w) "excess" 2 ["web", "some"] (spExcess K ad.Web))(C_why_apart:Cal P w K mg base (CX1 P w) "why_apart" 4 ["web"] (spWhyA ad.Web)) :
  FnOk P w K mg base (CX1 P w) 5 f fd ["web"] (spWhyR ad.Web):=by
 refine F.okN sc_why_no_ring (fun vs H Q E h=>?_) (fun cdv A outer s H vs Q E hr h=>?_)
 ·obtain ⟨x,tp,n,ms,rfl,_⟩:=h
  rfl
 ·obtain ⟨x,tp,n,ms,rfl,hW,hok,q⟩:=h
  have hs:sizeLine=16777216:=sizeLine_eq
  refine ⟨_,(pss_cons (ps_for PassesOwn.never rfl (pi_list (pe_cal C_pieces hr pass1 (pa_cons (pv 0) pa_nil))) (pg_name (i:=1) sc_why_no_ring.nd rfl (Or.inl rfl)) (pss_one (ps_if (pt_cmpR op_ne_I (pe_cal C_excess hr pass1 (pa_cons (pv 0) (pa_cons (pe_lst (pa_cons (pv 1) pa_nil)) pa_nil))) pe_int (nomark _)) (pss_one (ps_ret (pe_tup (pa_cons (pe_strT [117,110,101,118,101,110] (by decide +kernel)) (pa_cons (pe_tup (pa_cons (pv 1) pa_nil)) pa_nil))))) pss_nil)))
   (pss_one (ps_ret (pe_cal C_why_apart hr pass1 (pa_cons (pv 0) pa_nil))))),?_⟩
  (try rw [cxK2]);(try rw [cxK1])
  refine ⟨_,rfl,x,tp,n,ms,rfl,hW,hok,fun D1 ev H1 hD1 s1 hd1 hpw hpn hpm=>?_⟩
  have hpc:Pcs ms ev:=⟨hpw,hpn,hpm⟩
  refine ⟨D1,rfl,⟨_,SqL.of hd1⟩,?_⟩
  refine for_list (K:=K) (a:=D1) (xs:=ev.map T) (fun i σ H2=>Same H1 H2∧(ev.take i).find? (fun z=>!decide (exc ms [z]=0))=none∧∃ v1:Option V,σ=[some (.ref x),v1]) ⟨Same.refl _,rfl,none,rfl⟩ (fun i σ H2 _ h=>SqL.of (h.1 D1 _ hd1)) ?_ ?_
  ·rintro i y σ H2 hi ⟨s2,hfn,v1,rfl⟩
   obtain ⟨pc,hpc',rfl⟩:∃ pc,ev[i]?=some pc∧T pc=y:=by rw [List.getElem?_map] at hi;exact Option.map_eq_some_iff.mp hi
   obtain ⟨fn,fy⟩:=find_snoc_none hfn hpc'
   refine ⟨_,rfl,_,rfl,(by show 1<=sizeLine;omega),fun p3 hp3=>?_⟩
   have t3:=same_upd (o:=.lst ([pc].map T)) hp3
   refine ⟨x,tp,p3,n,ms,[pc],rfl,hW.on (s1.trans (s2.trans t3)),hok,.inl (SqL.of upd_same),fun H4 s4=>?_⟩
   refine ⟨_,rfl,_,rfl,_,rfl,?_⟩
   by_cases h0:exc ms [pc]=0
   ·refine itN (by rw [decide_eq_true h0];exact Bool.false_ne_true) ?_
    exact ⟨s2.trans (t3.trans s4),fn (by rw [decide_eq_true h0];rfl),some (T pc),rfl⟩
   ·refine itP (by rw [decide_eq_false h0];rfl) ?_
    refine ⟨_,rfl,(by show 1<=sizeLine;omega),fun b hb=>?_⟩
    have t5:=same_upd (o:=.tup ([pc].map T)) hb
    refine ⟨(by show 2<=sizeLine;omega),fun pp hpp=>?_⟩
    have t6:=same_upd (o:=.tup [T unev,.ref b]) hpp
    exact q ev _ _ _ hpc (.inl ⟨pc,fy (by rw [decide_eq_false h0];rfl),rfl⟩) ⟨pp,b,rfl,upd_same,t6 b _ upd_same⟩ (s1.trans (s2.trans (t3.trans (s4.trans (t5.trans t6)))))
  ·rintro σ H2 ⟨s2,hfn,v1,rfl⟩
   rw [List.length_map,List.take_length] at hfn
   refine ⟨_,rfl,x,tp,n,ms,rfl,hW.on (s1.trans s2),hok,fun eu r v H3 hpu hr' hv s3=>?_⟩
   obtain rfl:=hpu.uniq hpc (List.Perm.refl ms)
   exact q eu r v H3 hpc (.inr ⟨hfn,hr'⟩) hv (s1.trans (s2.trans s3))
abbrev Tr (p:List Nat)(ls:List (List Nat))(q:List Nat):Prop:=Hg.Tr beg En p ls q
theorem tr_exc {p q:List Nat}{ls ms so:List (List Nat)}(h:Tr p ls q)(hp:ms.Perm ls):exc ms so=(if p∈so then 1 else 0)-(if q∈so then 1 else 0):=by
 rw [exc_perm hp]
 have:=Hg.Tr.exc (fun z=>decide (z∈so)) h
 unfold exc
 simpa using this
theorem tr_all {p q:List Nat}{ls ms:List (List Nat)}(h:Tr p ls q)(hp:ms.Perm ls){z0 z:List Nat}(h0:IsP ms z0)(h1:IsP ms z):Rc ms z0 z:=by
 have key:∀ z,IsP ms z->Rc ms p z:=fun z hz=>by
  obtain ⟨l,hl,g⟩:=hz
  have:=Hg.Tr.rch (ms:=ms) (p:=p) h (fun w hw=>hp.mem_iff.mpr hw) .self l (hp.mem_iff.mp hl)
  rcases g with rfl | rfl
  ·exact this.1
  ·exact this.2
 exact (key z0 h0).symm.trans (key z h1)
theorem rc_isP {ms:List (List Nat)}{p z:List Nat}(hp:IsP ms p)(h:Rc ms p z):IsP ms z:=by
 rcases Hg.rch_in h with rfl | g
 ·exact hp
 ·rcases List.mem_append.mp g with g | g
  ·obtain ⟨l,hl,e⟩:=List.mem_map.mp g
   exact ⟨l,hl,.inl e.symm⟩
  ·obtain ⟨l,hl,e⟩:=List.mem_map.mp g
   exact ⟨l,hl,.inr e.symm⟩
theorem whyA_none {p q:List Nat}{ls ms ev:List (List Nat)}{r:Pap}(h:Tr p ls q)(hp:ms.Perm ls)(hc:Pcs ms ev)(hw:WhyA ms ev r):r=none:=by
 obtain ⟨z0,so,a1,a2,a3,a4,rfl⟩:=hw
 have hz0:=(hc.2.2 z0).mp (List.mem_of_getElem? a1)
 rw [if_pos]
 refine ((List.perm_ext_iff_of_nodup a3 hc.2.1).mpr fun z=>?_).length_eq
 rw [a4,hc.2.2]
 exact ⟨fun g=>rc_isP hz0 g,fun g=>tr_all h hp hz0 g⟩
theorem whyR_none {p:List Nat}{ls ms ev:List (List Nat)}{r:Pap}(h:Tr p ls p)(hp:ms.Perm ls)(hc:Pcs ms ev)(hw:WhyR ms ev r):r=none:=by
 rcases hw with ⟨z,hz,_⟩ | ⟨_,hw⟩
 ·have:=List.find?_some hz
  rw [tr_exc h hp,Int.sub_self] at this
  exact absurd this (by decide)
 ·exact whyA_none h hp hc hw
def WayOf (us ms:List (List Nat))(p q:List Nat):Prop:=Hg.Tr Wd.beg Wd.fin p us q∧us.Perm ms
def RingOf (t:List Nat)(n:Nat)(ms:List (List Nat)):Prop:=(Wd.ringW t n).Perm ms
def spIsTR (C:Addr):Sp:=fun vs H Q _=>∃ (x tp:Addr) (t:List Nat) (n:Nat) (ms:List (List Nat)),vs=[.ref x,T t]∧WebAt C H x tp n ms∧ms.Pairwise (fun a b=>¬ b<a)∧(t.length<=60∧1<=n∧n<=5000) ∧
 ∀ (b:Bool) (H':Hp),Same H H'->(b=true↔RingOf t n ms)->Q (.bl b) H'
theorem ok_is_turned_ring {f:Addr}{fd:FuncData}(F:Fun K "is_turned_ring" "is_turned_ring" s_is_turned_ring f fd)(tt:Txt K mg ad)(C_windows:Cal P w K mg base (CX1 P w) "windows" 2 ["text", "length", "ring"] spWin) :
  FnOk P w K mg base (CX1 P w) 3 f fd ["web", "text"] (spIsTR ad.Web):=by
 refine F.okN sc_is_turned_ring (fun vs H Q E h=>?_) (fun cdv A outer s H vs Q E hr h=>?_)
 ·obtain ⟨x,tp,t,n,ms,rfl,_⟩:=h
  rfl
 ·obtain ⟨x,tp,t,n,ms,rfl,hW,hsm,hn,q⟩:=h
  have hs:sizeLine=16777216:=sizeLine_eq
  have hu:=Nat.lt_of_succ_lt (hu_of hr)
  obtain ⟨⟨dx,hx⟩,htp⟩:=id hW
  refine ⟨_,(pss_one (ps_ret (pe_cmpR (op_eq_LT hu) (pe_callB call_sortedT (by rfl) tt.b_sorted PyProof.Rows.boot_sorted (pa_cons (pe_cal C_windows hr pass1 (pa_cons (pv 1) (pa_cons (pe_fld (pv 0) rfl) (pa_cons pe_bl pa_nil)))) pa_nil)) (pe_callTy call_list_of (by rfl) tt.b_list (by decide +kernel) (pa_cons (pe_fld (pv 0) rfl) pa_nil)) (nomark _)))),?_⟩
  (try rw [cxK2]);(try rw [cxK1])
  refine ⟨_,rfl,_,rfl,x,ad.Web,dx,_,_,rfl,hx,tt.cl_Web,tt.na_Web_length,flds_l _ _,t,n,true,rfl,⟨by omega,hn.2⟩,fun D H1 hD s1 hd=>?_⟩
  have hw:Wd.win t n true=Wd.ringW t n:=if_pos rfl
  rw [hw] at hd
  refine ⟨D,_,rfl,SqL.of hd,(by rw [Wd.ringW_len];omega),fun qs D2 hD2 hp2 hw2=>?_⟩
  have s2:Same H1 (upd H1 D2 (.lst (qs.map T))):=fun b o e=>by rw [upd_ne (ne_of_none e hD2)];exact e
  have s12:=s1.trans s2
  refine ⟨_,rfl,x,ad.Web,dx,_,_,rfl,s12 x _ hx,tt.cl_Web,tt.na_Web_words,flds_w _ _,tp,_,rfl,.inr (SqT.of (s12 tp _ htp)),fun l hl=>?_⟩
  have s3:Same (upd H1 D2 (.lst (qs.map T))) (upd (upd H1 D2 (.lst (qs.map T))) l (.lst (ms.map T))):=fun b o e=>by rw [upd_ne (ne_of_none e hl)];exact e
  refine ⟨D2,l,qs,ms,rfl,rfl,SqL.of (s3 D2 _ upd_same),SqL.of upd_same,?_⟩
  refine q _ _ (s12.trans s3) ⟨fun z=>?_,fun z=>decide_eq_true ?_⟩
  ·have e:qs=ms:=of_decide_eq_true z
   subst e
   exact hp2.symm
  ·exact Wd.sorted_same (hp2.trans z) hw2 hsm
def spIsRing (C:Addr):Sp:=fun vs H Q _=>∃ (x tp:Addr) (t m0:List Nat) (n:Nat) (ms:List (List Nat)),vs=[.ref x,T t]∧WebAt C H x tp n ms∧ms.Pairwise (fun a b=>¬ b<a)∧(t.length<=60∧1<=n∧n<=5000)∧ms[0]?=some m0 ∧
 ∀ (b:Bool) (H':Hp),Same H H'->(b=true↔RingOf t n ms∧Wd.ringAt t n 0=m0)->Q (.bl b) H'
theorem ok_is_ring {f:Addr}{fd:FuncData}(F:Fun K "is_ring" "is_ring" s_is_ring f fd)(tt:Txt K mg ad)(C_is_turned_ring:Cal P w K mg base (CX1 P w) "is_turned_ring" 3 ["web", "text"] (spIsTR ad.Web))(C_windows:Cal P w K mg base (CX1 P w) "windows" 2 ["text", "length", "ring"] spWin) :
  FnOk P w K mg base (CX1 P w) 4 f fd ["web", "text"] (spIsRing ad.Web):=by
 refine F.okN sc_is_ring (fun vs H Q E h=>?_) (fun cdv A outer s H vs Q E hr h=>?_)
 ·obtain ⟨x,tp,t,m0,n,ms,rfl,_⟩:=h
  rfl
 ·obtain ⟨x,tp,t,m0,n,ms,rfl,hW,hsm,hn,hm0,q⟩:=h
  have hs:sizeLine=16777216:=sizeLine_eq
  refine ⟨_,(pss_one (ps_ret (pe_and (pe_cal C_is_turned_ring hr pass1 (pa_cons (pv 0) (pa_cons (pv 1) pa_nil))) (pe_one (pe_cmpR op_eq_T (pe_ix ix_list (pe_cal C_windows hr pass1 (pa_cons (pv 1) (pa_cons (pe_fld (pv 0) rfl) (pa_cons pe_bl pa_nil)))) pe_int (fun _ _=>rfl)) (pe_ix ix_tup (pe_fld (pv 0) rfl) pe_int (fun _ _=>rfl)) (nomark _)))))),?_⟩
  (try rw [cxK2]);(try rw [cxK1])
  refine ⟨_,rfl,_,rfl,x,tp,t,n,ms,rfl,hW,hsm,hn,fun b H1 s1 hb=>⟨b,rfl,?_⟩⟩
  refine ite2 (fun h0=>?_) (fun h0=>?_)
  ·have hR:=hb.mp h0
   have hl:=hR.length_eq
   have hl0:0<ms.length:=(List.getElem?_eq_some_iff.mp hm0).1
   rw [Wd.ringW_len] at hl
   obtain ⟨⟨dx,hx⟩,htp⟩:=hW.on s1
   refine ⟨_,rfl,_,rfl,x,ad.Web,dx,_,_,rfl,hx,tt.cl_Web,tt.na_Web_length,flds_l _ _,t,n,true,rfl,⟨by omega,hn.2⟩,fun D H2 hD s2 hd=>?_⟩
   have hw:Wd.win t n true=Wd.ringW t n:=if_pos rfl
   rw [hw] at hd
   refine ⟨D,_,_,_,rfl,rfl,SqL.of hd,atI_nat (j:=0) (by rw [List.getElem?_map,Wd.ringW_get (by omega)];rfl),?_⟩
   refine ⟨_,rfl,x,ad.Web,dx,_,_,rfl,s2 x _ hx,tt.cl_Web,tt.na_Web_words,flds_w _ _,tp,_,_,_,rfl,rfl,SqT.of (s2 tp _ htp),atI_nat (j:=0) (by rw [List.getElem?_map,hm0];rfl),_,rfl,_,rfl,?_⟩
   exact q _ H2 (s1.trans s2) ⟨fun z=>⟨hR,of_decide_eq_true z⟩,fun z=>decide_eq_true z.2⟩
  ·exact q false H1 s1 ⟨fun z=>(by cases z),fun z=>absurd (hb.mpr z.1) h0⟩
def outL (ms:List (List Nat))(p:List Nat):List (List Nat):=ms.filter fun l=>decide (beg l=p)
def spOuts (C:Addr):Sp:=fun vs H Q _=>∃ (x tp:Addr) (n:Nat) (ms:List (List Nat)) (p:List Nat),vs=[.ref x,T p]∧WebAt C H x tp n ms∧WebOk ms n∧∀ D H',H D=none->Same H H'->H' D=some (.lst ((outL ms p).map T))->Q (.ref D) H'
theorem ok_outs {f:Addr}{fd:FuncData}(F:Fun K "outs" "outs" s_outs f fd)(tt:Txt K mg ad)(C_begin_of:Cal P w K mg base (CX1 P w) "begin_of" 1 ["word"] spBegin):FnOk P w K mg base (CX1 P w) 2 f fd ["web", "piece"] (spOuts ad.Web):=by
 refine F.okN sc_outs (fun vs H Q E h=>?_) (fun cdv A outer s H vs Q E hr h=>?_)
 ·obtain ⟨x,tp,n,ms,p,rfl,_⟩:=h
  rfl
 ·obtain ⟨x,tp,n,ms,p,rfl,hW,hok,q⟩:=h
  have hs:sizeLine=16777216:=sizeLine_eq
  obtain ⟨⟨dx,hx⟩,htp⟩:=id hW
  obtain ⟨hne,h64,⟨hn,hfew⟩,hxs,hnd⟩:=id hok
  refine ⟨_,(pss_one (ps_ret (pe_compf cs_outs_0 rfl (pi_tup (pe_fld (pv 0) rfl)) (fun cl C s' H' fp=>(pt_cmpR op_eq_T (pe_cal C_begin_of hr pass1 (pa_cons (pv 0) pa_nil)) (pv 2) (nomark _))) (fun cl C s' H' fp=>(pv 0))))),?_⟩
  (try rw [cxK2]);(try rw [cxK1])
  refine ⟨_,rfl,x,ad.Web,dx,_,_,rfl,hx,tt.cl_Web,tt.na_Web_words,flds_w _ _,tp,rfl,⟨_,SqT.of htp⟩,?_⟩
  refine compFG (fun v=>decide (beg (unT v)=p)) (fun v=>v) (reads_tup (SqT.of htp)) (by rw [List.length_map];omega) (fun v H2 hv s2 N hN=>?_) (fun v H2 hv hp s2 N hN=>?_) fun D1 H2 hD1 s2 hd2=>?_
  ·obtain ⟨l,hl,rfl⟩:=List.mem_map.mp hv
   have hll:=hxs l hl
   have z:=hN H2 (Same.refl _)
   rw [unT_T] at z
   exact ⟨_,rfl,l,rfl,⟨by omega,by omega⟩,_,rfl,_,rfl,_,rfl,_,rfl,z⟩
  ·exact ⟨_,rfl,hN H2 (Same.refl _)⟩
  rw [show (ms.map T).filter (fun v=>decide (beg (unT v)=p))=(ms.filter fun l=>decide (beg l=p)).map T from filter_unT (p:=fun l=>decide (beg l=p)) ms,List.map_id'] at hd2
  exact q D1 H2 hD1 s2 hd2
inductive WaysAt (H:Hp)(g:List Nat->List (List Nat)):List (List Nat)->List (Key×V)->Prop
 | nil:WaysAt H g [] []
 | cons {o:List Nat} {a:Addr} {ls:List (List Nat)} {kvs:List (Key×V)}:H a=some (.lst ((g o).map T))->WaysAt H g ls kvs->WaysAt H g (o::ls) ((Sum.inr (tx o),.ref a)::kvs)
theorem WaysAt.keys {H:Hp}{g:List Nat->List (List Nat)}{ls:List (List Nat)}{kvs:List (Key×V)}(h:WaysAt H g ls kvs):kvs.map (·.1)=ls.map fun t=>Sum.inr (tx t):=by
 induction h with
 | nil=>rfl
 | cons _ _ ih=>rw [List.map_cons,List.map_cons,ih]
theorem WaysAt.len {H:Hp}{g:List Nat->List (List Nat)}{ls:List (List Nat)}{kvs:List (Key×V)}(h:WaysAt H g ls kvs):kvs.length=ls.length:=by
 have:=congrArg List.length h.keys
 rwa [List.length_map,List.length_map] at this
theorem WaysAt.mono {H H':Hp}{g:List Nat->List (List Nat)}{ls:List (List Nat)}{kvs:List (Key×V)}(s:Same H H')(h:WaysAt H g ls kvs):WaysAt H' g ls kvs:=by
 induction h with
 | nil=>exact .nil
 | cons e _ ih=>exact .cons (s _ _ e) ih
theorem WaysAt.updD {H:Hp}{g:List Nat->List (List Nat)}{ls:List (List Nat)}{kvs k:List (Key×V)}{D:Addr}{o:HO}(hd:H D=some (.dK k))(h:WaysAt H g ls kvs):WaysAt (upd H D o) g ls kvs:=by
 induction h with
 | nil=>exact .nil
 | @cons _ a _ _ e _ ih =>
  have hne:a≠D:=fun z=>by rw [z,hd] at e;cases e
  exact .cons (by rw [upd_ne hne];exact e) ih
theorem WaysAt.snoc {H:Hp}{g:List Nat->List (List Nat)}{ls:List (List Nat)}{kvs:List (Key×V)}{o:List Nat}{a:Addr}(h:WaysAt H g ls kvs)(e:H a=some (.lst ((g o).map T))):WaysAt H g (ls++[o]) (kvs++[(Sum.inr (tx o),.ref a)]):=by
 induction h with
 | nil=>exact .cons e .nil
 | cons e1 _ ih=>exact .cons e1 ih
theorem WaysAt.put {H:Hp}{g:List Nat->List (List Nat)}{ls:List (List Nat)}{kvs:List (Key×V)}{o:List Nat}{a:Addr}(h:WaysAt H g ls kvs)(ho:o∉ls)(e:H a=some (.lst ((g o).map T))):WaysAt H g (ls++[o]) (putK kvs (Sum.inr (tx o)) (.ref a)):=by
 have hn:¬ (kvs.any fun kv=>decide (kv.1=Sum.inr (tx o)))=true:=fun z=>by
  obtain ⟨kv,h1,h2⟩:=List.any_eq_true.mp z
  have h3:kv.1∈kvs.map (·.1):=List.mem_map_of_mem h1
  rw [h.keys,of_decide_eq_true h2] at h3
  obtain ⟨t,h4,h5⟩:=List.mem_map.mp h3
  have h6:t=o:=tx_inj (Sum.inr.inj h5)
  exact ho (h6▸h4)
 unfold putK
 rw [if_neg hn]
 exact h.snoc e
theorem WaysAt.get {H:Hp}{g:List Nat->List (List Nat)}{ls:List (List Nat)}{kvs:List (Key×V)}{o:List Nat}(h:WaysAt H g ls kvs)(ho:o∈ls):∃ a,valV kvs (Sum.inr (tx o))=some (.ref a)∧H a=some (.lst ((g o).map T)):=by
 induction h with
 | nil=>cases ho
 | @cons o' a _ _ e _ ih =>
  by_cases hoo:o'=o
  ·subst hoo
   exact ⟨a,valV_pos rfl,e⟩
  ·obtain ⟨b,h1,h2⟩:=ih ((List.mem_cons.mp ho).resolve_left (Ne.symm hoo))
   exact ⟨b,by rw [valV_neg (fun z=>hoo (tx_inj (Sum.inr.inj z)))];exact h1,h2⟩
def spWaysT (C:Addr)(ad:Adr):Sp:=fun vs H Q E=>∃ (x tp:Addr) (n:Nat) (ms:List (List Nat)) (p:List Nat),vs=[.ref x,T p]∧WebAt C H x tp n ms∧WebOk ms n∧(¬ IsP ms p->∀ H',Same H H'->E (.ref ad.NoSuch) none H') ∧
 (IsP ms p->∀ (D:Addr) (ps:List (List Nat)) (kvs:List (Key×V)) (H':Hp),H D=none->Same H H'->H' D=some (.dK kvs)->WaysAt H' (outL ms) (ps.filter fun o=>decide (o≠p)) kvs->ps.length<=62->ps.Pairwise (fun a b=>¬ b<a)->ps.Nodup->(∀ z,z∈ps↔IsP ms z)->Q (.ref D) H')
theorem back_none31 {H G:Hp}{D:Addr}(s:Same H G)(h:G D=none):H D=none:=by
 cases e:H D with
 | none=>rfl
 | some o=>exact absurd ((s D o e).symm.trans h) (fun z=>nomatch z)
theorem ok_ways_toward {f:Addr}{fd:FuncData}(F:Fun K "ways_toward" "ways_toward" s_ways_toward f fd)(tt:Txt K mg ad)(C_pieces:Cal P w K mg base (CX1 P w) "pieces" 2 ["web"] (spPieces ad.Web))(C_outs:Cal P w K mg base (CX1 P w) "outs" 2 ["web", "piece"] (spOuts ad.Web)) :
  FnOk P w K mg base (CX1 P w) 3 f fd ["web", "piece"] (spWaysT ad.Web ad):=by
 refine F.okX sc_ways_toward (fun vs H Q E h=>?_) (fun cdv A outer s H vs Q E hr h=>?_)
 ·obtain ⟨x,tp,n,ms,p,rfl,_⟩:=h
  rfl
 ·obtain ⟨x,tp,n,ms,p,rfl,hW,hok,xn,q⟩:=h
  have hs:sizeLine=16777216:=sizeLine_eq
  obtain ⟨⟨dx,hx⟩,htp⟩:=id hW
  obtain ⟨hne,h64,⟨hn,hfew⟩,hxs,hnd⟩:=id hok
  refine ⟨_,(pss_cons (ps_set (i:=2) sc_ways_toward.nd rfl (Or.inl rfl) (pe_cal C_pieces hr pass1 (pa_cons (pv 0) pa_nil)))
   (pss_cons (ps_if (pt_cmpR op_notIn_seq (pv 1) (pv 2) (by with_unfolding_all rfl)) (pss_one (ps_raise (E:=fun cls H'=>E cls none H') tt.x_NoSuch rfl (fun _ _ _ _ _ _ _ I hx q=>raiseX I hx q) (pa_cons pe_str pa_nil))) pss_nil)
   (pss_cons (ps_set (i:=3) sc_ways_toward.nd rfl (Or.inl rfl) pe_dnewK)
   (pss_cons (ps_for PassesOwn.leaving rfl (pi_list (pv 2)) (pg_name (i:=4) sc_ways_toward.nd rfl (Or.inl rfl)) (pss_one (ps_if (pt_cmpR op_ne_T (pv 4) (pv 1) (nomark _)) (pss_one (ps_dput (hu_of hr) (pv 3) (pv 4) (pe_cal C_outs hr pass1 (pa_cons (pv 0) (pa_cons (pv 4) pa_nil))) rfl)) pss_nil)))
   (pss_one (ps_ret (pv 3))))))),?_⟩
  (try rw [cxK2]);(try rw [cxK1])
  refine ⟨_,rfl,x,tp,n,ms,rfl,hW,hok,fun D1 ps H1 hD1 s1 hd1 hpw hpn hpm=>?_⟩
  have hlen:ps.length<=62:=few_len1 (p:=[]) hfew hpn fun z hz=>.inr ((hpm z).mp hz)
  refine ⟨_,rfl,_,rfl,D1,_,rfl,.inl (SqL.of hd1),rfl,all_flat ps,_,rfl,?_⟩
  by_cases hp:p∈ps
  ·refine itN (by rw [inV_T,decide_eq_true hp];exact Bool.false_ne_true) ?_
   refine fun D hD=>?_
   have hD0:=back_none31 s1 hD
   have hd1':upd H1 D (.dK []) D1=some (.lst (ps.map T)):=by rw [upd_ne (ne_of_none hd1 hD)];exact hd1
   refine ⟨_,rfl,D1,rfl,⟨_,SqL.of hd1'⟩,?_⟩
   refine for_list (K:=K) (a:=D1) (xs:=ps.map T) (fun i σ H3=>Same H1 H3∧∃ (kvs:List (Key×V)) (v4:Option V),H3 D=some (.dK kvs)∧WaysAt H3 (outL ms) ((ps.take i).filter fun o=>decide (o≠p)) kvs∧σ=[some (.ref x),some (T p),some (.ref D1),some (.ref D),v4]) ⟨same_upd hD,[],none,upd_same,.nil,rfl⟩ (fun i σ H3 _ h=>SqL.of (h.1 D1 _ hd1)) ?_ ?_
   ·rintro i y σ H3 hi ⟨s3,kvs,v4,hd3,hwa,rfl⟩
    obtain ⟨o,ho,rfl⟩:∃ o,ps[i]?=some o∧T o=y:=by rw [List.getElem?_map] at hi;exact Option.map_eq_some_iff.mp hi
    have htk:ps.take (i+1)=ps.take i++[o]:=by rw [List.take_add_one,ho];rfl
    refine ⟨_,rfl,_,rfl,_,rfl,_,rfl,_,rfl,?_⟩
    by_cases hop:o=p
    ·refine itN (by rw [decide_eq_true hop];exact Bool.false_ne_true) ?_
     refine ⟨s3,kvs,some (T o),hd3,?_,rfl⟩
     rw [htk,List.filter_append,List.filter_cons_of_neg (by simp [hop])]
     simpa using hwa
    ·refine itP (by rw [decide_eq_false hop];rfl) ?_
     refine ⟨_,rfl,_,rfl,x,tp,n,ms,o,rfl,⟨⟨dx,s3 x _ (s1 x _ hx)⟩,s3 tp _ (s1 tp _ htp)⟩,hok,fun D4 H4 hD4 s4 hd4=>?_⟩
     refine ⟨_,rfl,_,rfl,D,_,rfl,DPut.k (k:=Sum.inr (tx o)) (s4 D _ hd3) (by rw [hwa.len];have:=List.length_filter_le (fun o=>decide (o≠p)) (ps.take i);rw [List.length_take] at this;omega),?_⟩
     have hno:o∉(ps.take i).filter fun o=>decide (o≠p):=fun z=>by
      have z1:=(List.mem_filter.mp z).1
      have nd:(ps.take i++[o]).Nodup:=htk▸hpn.sublist (List.take_sublist (i+1) ps)
      exact (List.nodup_append.mp nd).2.2 o z1 o (List.mem_singleton.mpr rfl) rfl
     have hne4:D4≠D:=fun z=>by rw [z,hd3] at hD4;cases hD4
     refine ⟨fun b ob e=>?_,_,some (T o),upd_same,?_,rfl⟩
     ·rw [upd_ne (ne_of_none e hD)]
      exact s4 b ob (s3 b ob e)
     ·rw [htk,List.filter_append,List.filter_cons_of_pos (by simp [hop])]
      exact ((hwa.mono s4).put hno hd4).updD (s4 D _ hd3)
   ·rintro σ H3 ⟨s3,kvs,v4,hd3,hwa,rfl⟩
    rw [List.length_map,List.take_length] at hwa
    exact ⟨_,rfl,q ((hpm p).mp hp) D ps kvs H3 hD0 (s1.trans s3) hd3 hwa hlen hpw hpn hpm⟩
  ·refine itP (by rw [inV_T,decide_eq_false hp];rfl) ?_
   exact ⟨(by show 1<=sizeLine;omega),xn (fun z=>hp ((hpm p).mpr z)) H1 s1⟩
def Kp (D:Addr)(H H':Hp):Prop:=∀ b o,b≠D->H b=some o->H' b=some o
theorem valV_ways {H:Hp}{g:List Nat->List (List Nat)}{ls:List (List Nat)}{kvs:List (Key×V)}(h:WaysAt H g ls kvs){o:List Nat}(ho:o∉ls):valV kvs (Sum.inr (tx o))=none:=by
 induction h with
 | nil=>rfl
 | @cons o' a _ _ e _ ih =>
  rw [valV_neg (fun z=>ho (by rw [tx_inj (Sum.inr.inj z)];exact List.mem_cons_self ..))]
  exact ih fun z=>ho (List.mem_cons_of_mem _ z)
theorem WaysAt.cong {H:Hp}{g g':List Nat->List (List Nat)}{ls:List (List Nat)}{kvs:List (Key×V)}(h:WaysAt H g ls kvs)(e:∀ t∈ls,g t=g' t):WaysAt H g' ls kvs:=by
 induction h with
 | nil=>exact .nil
 | @cons o a _ _ e1 _ ih=>exact .cons (by rw [<- e o (List.mem_cons_self ..)];exact e1) (ih fun t ht=>e t (List.mem_cons_of_mem _ ht))
theorem WaysAt.on {H H':Hp}{g:List Nat->List (List Nat)}{ls:List (List Nat)}{kvs k0:List (Key×V)}{D:Addr}(h:WaysAt H g ls kvs)(hd:H D=some (.dK k0))(k:Kp D H H'):WaysAt H' g ls kvs:=by
 induction h with
 | nil=>exact .nil
 | @cons o a _ _ e1 _ ih=>exact .cons (k a _ (fun z=>by rw [z,hd] at e1;cases e1) e1) ih
theorem WaysAt.repl {H:Hp}{g:List Nat->List (List Nat)}{ls:List (List Nat)}{kvs:List (Key×V)}{o:List Nat}{a:Addr}{new:List (List Nat)}(h:WaysAt H g ls kvs)(nd:ls.Nodup)(ho:o∈ls)(e:H a=some (.lst (new.map T))) :
  WaysAt H (fun x=>if x=o then new else g x) ls (putK kvs (Sum.inr (tx o)) (.ref a)):=by
 have hy:(kvs.any fun kv=>decide (kv.1=Sum.inr (tx o)))=true:=by
  have h3:(Sum.inr (tx o):Key)∈kvs.map (·.1):=by rw [h.keys];exact List.mem_map_of_mem ho
  obtain ⟨kv,h1,h2⟩:=List.mem_map.mp h3
  exact List.any_eq_true.mpr ⟨kv,h1,decide_eq_true h2⟩
 unfold putK
 rw [if_pos hy]
 clear hy
 have no:∀ {ls:List (List Nat)} {kvs:List (Key×V)},WaysAt H g ls kvs->o∉ls->WaysAt H (fun x=>if x=o then new else g x) ls (kvs.map fun kv=>if kv.1=Sum.inr (tx o) then (kv.1,V.ref a) else kv):=fun {ls kvs} h=>by
  induction h with
  | nil=>intro _;exact .nil
  | @cons o' b _ _ e1 _ ih =>
   intro hn
   have hne:o'≠o:=fun z=>hn (z▸List.mem_cons_self ..)
   rw [List.map_cons,if_neg (fun z=>hne (tx_inj (Sum.inr.inj z)))]
   exact .cons (by rw [if_neg hne];exact e1) (ih fun z=>hn (List.mem_cons_of_mem _ z))
 induction h with
 | nil=>cases ho
 | @cons o' b _ _ e1 hr ih =>
  rw [List.nodup_cons] at nd
  rw [List.map_cons]
  by_cases hoo:o'=o
  ·subst hoo
   rw [if_pos rfl]
   exact .cons (by rw [if_pos rfl];exact e) (no hr nd.1)
  ·rw [if_neg (fun z=>hoo (tx_inj (Sum.inr.inj z)))]
   exact .cons (by rw [if_neg hoo];exact e1) (ih nd.2 ((List.mem_cons.mp ho).resolve_left (Ne.symm hoo)))
theorem WaysAt.app {G:Hp}{g:List Nat->List (List Nat)}{ts:List (List Nat)}{kvs:List (Key×V)}{t x:List Nat}{b:Addr}(h:WaysAt G g ts kvs):ts.Nodup->(kvs.map (·.2)).Nodup->t∈ts->valV kvs (Sum.inr (tx t))=some (.ref b)->WaysAt (upd G b (.lst ((g t++[x]).map T))) (fun u=>if u=t then g t++[x] else g u) ts kvs:=by
 have vm:∀ {kvs:List (Key×V)} {k:Key} {v:V},valV kvs k=some v->v∈kvs.map (·.2):=fun {kvs k v}=>by
  induction kvs with
  | nil=>intro e;cases e
  | cons kv kvs ih =>
   intro e
   obtain ⟨k',v'⟩:=kv
   by_cases hk:k'=k
   ·rw [valV_pos hk] at e
    cases e
    exact List.mem_cons_self ..
   ·rw [valV_neg hk] at e
    exact List.mem_cons_of_mem _ (ih e)
 have no:∀ {ts:List (List Nat)} {kvs:List (Key×V)},WaysAt G g ts kvs->t∉ts->V.ref b∉kvs.map (·.2)->WaysAt (upd G b (.lst ((g t++[x]).map T))) (fun u=>if u=t then g t++[x] else g u) ts kvs:=fun {ts kvs} h=>by
  induction h with
  | nil=>intro _ _;exact .nil
  | @cons o a _ _ e _ ih =>
   intro h1 h2
   have hne:o≠t:=fun z=>h1 (z▸List.mem_cons_self ..)
   have hab:a≠b:=fun z=>h2 (z▸List.mem_cons_self ..)
   exact .cons (by rw [upd_ne hab,if_neg hne];exact e) (ih (fun z=>h1 (List.mem_cons_of_mem _ z)) fun z=>h2 (List.mem_cons_of_mem _ z))
 induction h with
 | nil=>intro _ _ h;cases h
 | @cons o a _ _ e hr ih =>
  intro nd nv ht hv
  rw [List.nodup_cons] at nd
  rw [List.map_cons,List.nodup_cons] at nv
  by_cases hot:o=t
  ·subst hot
   rw [valV_pos rfl] at hv
   cases hv
   exact .cons (by rw [upd_same,if_pos rfl]) (no hr nd.1 nv.1)
  ·rw [valV_neg (fun z=>hot (tx_inj (Sum.inr.inj z)))] at hv
   have hab:a≠b:=fun z=>nv.1 (z▸vm hv)
   exact .cons (by rw [upd_ne hab,if_neg hot];exact e) (ih nd.2 nv.2 ((List.mem_cons.mp ht).resolve_left (Ne.symm hot)) hv)
theorem og_snoc {us:List (List Nat)}{x t:List Nat}:Dt.og (us++[x]) t=if t=beg x then Dt.og us t++[x] else Dt.og us t:=by
 unfold Dt.og
 rw [List.filter_append]
 by_cases h:t=beg x
 ·rw [if_pos h,List.filter_cons_of_pos (p:=fun w=>decide (Wd.beg w=t)) (decide_eq_true h.symm),List.filter_nil]
 ·rw [if_neg h,List.filter_cons_of_neg (p:=fun w=>decide (Wd.beg w=t)) (fun z=>h (of_decide_eq_true z).symm),List.filter_nil,List.append_nil]
def spByB (K:PySem.W.Frag):Sp:=fun vs H Q _=>∃ (a:Addr) (ms:List (List Nat)),vs=[.ref a]∧SqA K H a (ms.map T)∧(ms.length<=1000∧∀ x∈ms,1<=x.length∧x.length<=1000)∧∀ (D:Addr) (kvs:List (Key×V)) (ts:List (List Nat)) (H':Hp),H D=none->Same H H'->H' D=some (.dK kvs)->WaysAt H' (Dt.og ms) ts kvs->ts.Nodup->(∀ t,t∈ts↔∃ x∈ms,beg x=t)->Q (.ref D) H'
theorem ok_by_begin {f:Addr}{fd:FuncData}(F:Fun K "by_begin" "by_begin" s_by_begin f fd)(tt:Txt K mg ad)(C_begin_of:Cal P w K mg base (CX1 P w) "begin_of" 1 ["word"] spBegin):FnOk P w K mg base (CX1 P w) 2 f fd ["words"] (spByB K):=by
 refine F.okN sc_by_begin (fun vs H Q E h=>?_) (fun cdv A outer s H vs Q E hr h=>?_)
 ·obtain ⟨a,ms,rfl,_⟩:=h
  rfl
 ·obtain ⟨a,ms,rfl,hS,⟨hl,hx⟩,q⟩:=h
  have hs:sizeLine=16777216:=sizeLine_eq
  refine ⟨_,(pss_cons (ps_set (i:=1) sc_by_begin.nd rfl (Or.inl rfl) pe_dnewK)
   (pss_cons (ps_for PassesOwn.never rfl (pi_seqK K rfl (pv 0)) (pg_name (i:=2) sc_by_begin.nd rfl (Or.inl rfl)) (pss_one (ps_expr (pe_bm PySem.F.plainAttrs_list PySem.F.slot_list_append PySem.F.type_list_append mt_append (pe_dsetdef (pv 1) (pe_cal C_begin_of hr pass1 (pa_cons (pv 2) pa_nil)) (pe_lst pa_nil) ⟨rfl,rfl,rfl,rfl⟩) (pa_cons (pv 2) pa_nil)))))
   (pss_one (ps_ret (pv 1))))),?_⟩
  (try rw [cxK2]);(try rw [cxK1])
  refine fun D hD=>?_
  have sD:=same_upd (o:=.dK []) hD
  refine ⟨_,rfl,a,ms.map T,_,rfl,hS,sD,fun J rd=>?_⟩
  refine for_reads rd (fun i σ G=>Same H G∧∃ (kvs:List (Key×V)) (ts:List (List Nat)) (v2:Option V),G D=some (.dK kvs)∧WaysAt G (Dt.og (ms.take i)) ts kvs∧ts.Nodup∧(kvs.map (·.2)).Nodup∧(∀ b,V.ref b∈kvs.map (·.2)->H b=none)∧ts.length<=i∧(∀ t,t∈ts↔∃ x∈ms.take i,beg x=t)∧σ=[some (.ref a),some (.ref D),v2])
   ⟨sD,[],[],none,upd_same,.nil,List.nodup_nil,List.nodup_nil,fun b h=>(nomatch h),Nat.le_refl _,fun t=>⟨fun h=>(nomatch h),fun ⟨x,h,_⟩=>by rw [List.take_zero] at h;cases h⟩,rfl⟩ (fun i σ G _ h=>h.1) ?_ ?_
  ·rintro i y σ G hi ⟨sG,kvs,ts,v2,hd,hwa,nd,nv,hf,hlt,hm,rfl⟩
   obtain ⟨x,hxi,rfl⟩:∃ x,ms[i]?=some x∧T x=y:=by rw [List.getElem?_map] at hi;exact Option.map_eq_some_iff.mp hi
   have hil:=(List.getElem?_eq_some_iff.mp hxi).1
   have hxx:=hx x (List.mem_of_getElem? hxi)
   have htk:ms.take (i+1)=ms.take i++[x]:=by rw [List.take_add_one,hxi];rfl
   have hm2:∀ t,(∃ y∈ms.take (i+1),beg y=t)↔(∃ y∈ms.take i,beg y=t)∨t=beg x:=fun t=>by
    rw [htk]
    constructor
    ·rintro ⟨y,h1,h2⟩
     rcases List.mem_append.mp h1 with z | z
     ·exact .inl ⟨y,z,h2⟩
     ·rw [List.mem_singleton.mp z] at h2
      exact .inr h2.symm
    ·rintro (⟨y,h1,h2⟩ | h)
     ·exact ⟨y,List.mem_append_left _ h1,h2⟩
     ·exact ⟨x,List.mem_append_right _ (List.mem_singleton.mpr rfl),h.symm⟩
   have hgl:∀ t,(Dt.og (ms.take i) t).length<=1000:=fun t=>Nat.le_trans (List.length_filter_le ..) (by rw [List.length_take];omega)
   refine ⟨_,rfl,D,rfl,⟨_,hd⟩,_,rfl,x,rfl,⟨hxx.1,hxx.2⟩,(by show 0<=sizeLine;omega),fun e he=>?_⟩
   have s1:=same_upd (o:=.lst []) he
   have h1:upd G e (.lst []) e=some (.lst []):=upd_same
   have heH:H e=none:=back_none31 sG he
   have heD:e≠D:=fun z=>by rw [z,hd] at he;cases he
   have hd1:=s1 D _ hd
   have hwa1:=hwa.mono s1
   have sG1:=sG.trans s1
   have hev:V.ref e∉kvs.map (·.2):=fun z=>by
    have key:∀ {ts:List (List Nat)} {kvs:List (Key×V)},WaysAt G (Dt.og (ms.take i)) ts kvs->V.ref e∉kvs.map (·.2):=fun {ts kvs} h=>by
     induction h with
     | nil=>intro z;cases z
     | @cons o a' _ _ e1 _ ih =>
      intro z
      rcases List.mem_cons.mp z with z | z
      ·cases z;rw [he] at e1;cases e1
      ·exact ih z
    exact key hwa z
   generalize upd G e (.lst [])=G1 at s1 h1 hd1 hwa1 sG1
   refine ⟨kvs,Sum.inr (tx (beg x)),hd1,rfl,by rw [hwa.len];omega,fun v hv=>?_,fun hn=>?_⟩
   ·have hol:beg x∈ts:=Decidable.byContradiction fun z=>by rw [valV_ways hwa z] at hv;cases hv
    obtain ⟨b,hb1,hb2⟩:=hwa1.get hol
    obtain rfl:v = .ref b:=by rw [hb1] at hv;exact (Option.some.inj hv).symm
    have hbH:=hf b (by
     have vm:∀ {kvs:List (Key×V)} {k:Key} {v:V},valV kvs k=some v->v∈kvs.map (·.2):=fun {kvs k v}=>by
      induction kvs with
      | nil=>intro e;cases e
      | cons kv kvs ih =>
       intro e
       obtain ⟨k',v'⟩:=kv
       by_cases hk:k'=k
       ·rw [valV_pos hk] at e;cases e;exact List.mem_cons_self ..
       ·rw [valV_neg hk] at e;exact List.mem_cons_of_mem _ (ih e)
     exact vm hv)
    have hbD:b≠D:=fun z=>by rw [z,hd1] at hb2;cases hb2
    refine ⟨.inl ⟨rfl,_,SqL.of hb2⟩,_,rfl,b,_,_,rfl,rfl,hb2,(by rw [List.length_map];have:=hgl (beg x);omega),?_⟩
    have hw2:=hwa1.app (x:=x) nd nv hol hb1
    refine ⟨fun b' o e'=>by rw [upd_ne (fun z=>by rw [z,hbH] at e';cases e')];exact sG1 b' o e',kvs,ts,_,by rw [upd_ne hbD.symm];exact hd1,?_,nd,nv,hf,by omega,fun t=>?_,rfl⟩
    ·rw [List.map_append] at hw2
     refine hw2.cong fun t _=>?_
     rw [htk,og_snoc]
     by_cases z:t=beg x
     ·rw [if_pos z,if_pos z,z]
     ·rw [if_neg z,if_neg z]
    ·rw [hm2,hm]
     exact ⟨.inl,fun h=>h.elim id fun z=>z▸(hm _).mp hol⟩
   ·have hol:beg x∉ts:=fun z=>by obtain ⟨a,h1,_⟩:=hwa1.get z;rw [h1] at hn;cases hn
    have hep:upd G1 D (.dK (putK kvs (Sum.inr (tx (beg x))) (.ref e))) e=some (.lst []):=by rw [upd_ne heD];exact h1
    refine ⟨.inl ⟨rfl,_,SqL.of hep⟩,_,rfl,e,_,_,rfl,rfl,hep,(by show 0<sizeLine;omega),?_⟩
    have hpk:putK kvs (Sum.inr (tx (beg x))) (.ref e)=kvs++[(Sum.inr (tx (beg x)),.ref e)]:=by
     unfold putK
     rw [if_neg]
     intro z
     obtain ⟨kv,z1,z2⟩:=List.any_eq_true.mp z
     have h3:kv.1∈kvs.map (·.1):=List.mem_map_of_mem z1
     rw [hwa.keys,of_decide_eq_true z2] at h3
     obtain ⟨t,h4,h5⟩:=List.mem_map.mp h3
     exact hol (tx_inj (Sum.inr.inj h5)▸h4)
    have og0:Dt.og (ms.take i) (beg x)=[]:=List.filter_eq_nil_iff.mpr fun u hu z=>hol ((hm _).mpr ⟨u,hu,of_decide_eq_true z⟩)
    have hne:∀ b' o,H b'=some o->b'≠e∧b'≠D:=fun b' o e'=>⟨fun z=>(by rw [z,heH] at e';cases e'),fun z=>(by rw [z,hD] at e';cases e')⟩
    refine ⟨fun b' o e'=>by rw [upd_ne (hne b' o e').1,upd_ne (hne b' o e').2];exact sG1 b' o e',_,ts++[beg x],_,by rw [upd_ne heD.symm];exact upd_same,?_,?_,?_,?_,by rw [List.length_append];show _+1<=_;omega,fun t=>?_,rfl⟩
    ·have hw2:WaysAt (upd (upd G1 D (.dK (putK kvs (Sum.inr (tx (beg x))) (.ref e)))) e (.lst ([]++[T x]))) (fun t=>if t=beg x then [x] else Dt.og (ms.take i) t) ts kvs:=by
      have hw3:=hwa1.updD (o:=.dK (putK kvs (Sum.inr (tx (beg x))) (.ref e))) hd1
      have key:∀ {G':Hp} {ts:List (List Nat)} {kvs:List (Key×V)},WaysAt G' (Dt.og (ms.take i)) ts kvs->V.ref e∉kvs.map (·.2)->beg x∉ts->WaysAt (upd G' e (.lst ([]++[T x]))) (fun t=>if t=beg x then [x] else Dt.og (ms.take i) t) ts kvs:=fun {G' ts kvs} h=>by
       induction h with
       | nil=>intro _ _;exact .nil
       | @cons o a' _ _ e1 _ ih =>
        intro z1 z2
        have n1:a'≠e:=fun z=>z1 (z▸List.mem_cons_self ..)
        have n2:o≠beg x:=fun z=>z2 (z▸List.mem_cons_self ..)
        exact .cons (by rw [upd_ne n1,if_neg n2];exact e1) (ih (fun z=>z1 (List.mem_cons_of_mem _ z)) fun z=>z2 (List.mem_cons_of_mem _ z))
      exact key hw3 hev hol
     rw [hpk]
     rw [hpk] at hw2
     refine (hw2.snoc (a:=e) (by rw [upd_same,if_pos rfl];rfl)).cong fun t _=>?_
     rw [htk,og_snoc]
     by_cases z:t=beg x
     ·rw [if_pos z,if_pos z,z,og0];rfl
     ·rw [if_neg z,if_neg z]
    ·exact List.nodup_append.mpr ⟨nd,by simp,fun a' ha c hc z=>hol (by rw [<- List.mem_singleton.mp hc,<- z];exact ha)⟩
    ·rw [hpk,List.map_append]
     exact List.nodup_append.mpr ⟨nv,by simp,fun a' ha c hc z=>hev (by have hc:c=V.ref e:=List.mem_singleton.mp hc;rw [<- hc,<- z];exact ha)⟩
    ·intro b hb
     rw [hpk,List.map_append] at hb
     rcases List.mem_append.mp hb with z | z
     ·exact hf b z
     ·have z:V.ref b=V.ref e:=List.mem_singleton.mp z
      cases z
      exact heH
    ·rw [hm2,List.mem_append,hm,List.mem_singleton]
  ·rintro σ G ⟨sG,kvs,ts,v2,hd,hwa,nd,nv,hf,hlt,hm,rfl⟩
   rw [List.length_map,List.take_length] at hwa
   rw [List.length_map,List.take_length] at hm
   exact ⟨_,rfl,q D kvs ts G hD sG hd hwa nd hm⟩
def cg (us:List (List Nat))(t:List Nat):List (List Nat):=(us.filter fun w=>decide (w.drop 1=t)).map beg
theorem cg_snoc {us:List (List Nat)}{x t:List Nat}:cg (us++[x]) t=if t=x.drop 1 then cg us t++[beg x] else cg us t:=by
 unfold cg
 rw [List.filter_append,List.map_append]
 by_cases h:t=x.drop 1
 ·rw [if_pos h,List.filter_cons_of_pos (p:=fun w:List Nat=>decide (w.drop 1=t)) (decide_eq_true h.symm),List.filter_nil]
  rfl
 ·rw [if_neg h,List.filter_cons_of_neg (p:=fun w:List Nat=>decide (w.drop 1=t)) (fun z=>h (of_decide_eq_true z).symm),List.filter_nil,List.map_nil,List.append_nil]
theorem mem_cg {us:List (List Nat)}{t z:List Nat}:z∈cg us t↔∃ w∈us,w.drop 1=t∧beg w=z:=by
 unfold cg
 rw [List.mem_map]
 constructor
 ·rintro ⟨w,h1,h2⟩
  obtain ⟨h3,h4⟩:=List.mem_filter.mp h1
  exact ⟨w,h3,of_decide_eq_true h4,h2⟩
 ·rintro ⟨w,h1,h2,h3⟩
  exact ⟨w,List.mem_filter.mpr ⟨h1,decide_eq_true h2⟩,h3⟩
def Least (us:List (List Nat))(p:List Nat)(fs:List (List Nat)):Prop:=∀ χ:List Nat->Prop,χ p->(∀ w∈us,χ (w.drop 1)->χ (beg w))->∀ k∈fs,χ k
def spCome (K:PySem.W.Frag):Sp:=fun vs H Q _=>∃ (a:Addr) (us:List (List Nat)) (p:List Nat),vs=[.ref a,T p]∧SqA K H a (us.map T)∧(us.length<=1000∧∀ x∈us,1<=x.length∧x.length<=1000)∧∀ (D:Addr) (fs:List (List Nat)) (H':Hp),H D=none->Same H H'->H' D=some (.dK (tKs fs (.bl true)))->fs.Nodup->p∈fs->(∀ w∈us,w.drop 1∈fs->beg w∈fs)->Least us p fs->Q (.ref D) H'
theorem ok_coming_to {f:Addr}{fd:FuncData}(F:Fun K "coming_to" "coming_to" s_coming_to f fd)(tt:Txt K mg ad)(C_end_of:Cal P w K mg base (CX1 P w) "end_of" 1 ["word"] spEnd)(C_begin_of:Cal P w K mg base (CX1 P w) "begin_of" 1 ["word"] spBegin):FnOk P w K mg base (CX1 P w) 2 f fd ["words", "piece"] (spCome K):=by
 refine F.okN sc_coming_to (fun vs H Q E h=>?_) (fun cdv A outer s H vs Q E hr h=>?_)
 ·obtain ⟨a,ms,p,rfl,_⟩:=h
  rfl
 ·obtain ⟨a,ms,p,rfl,hS,⟨hl,hx⟩,q⟩:=h
  have hs:sizeLine=16777216:=sizeLine_eq
  have hu:=Nat.lt_of_succ_lt (hu_of hr)
  refine ⟨_,(pss_cons (ps_set (i:=2) sc_coming_to.nd rfl (Or.inl rfl) pe_dnewK)
   (pss_cons (ps_for PassesOwn.never rfl (pi_seqK K rfl (pv 0)) (pg_name (i:=3) sc_coming_to.nd rfl (Or.inl rfl)) (pss_one (ps_expr (pe_bm PySem.F.plainAttrs_list PySem.F.slot_list_append PySem.F.type_list_append mt_append (pe_dsetdef (pv 2) (pe_cal C_end_of hr pass1 (pa_cons (pv 3) pa_nil)) (pe_lst pa_nil) ⟨rfl,rfl,rfl,rfl⟩) (pa_cons (pe_cal C_begin_of hr pass1 (pa_cons (pv 3) pa_nil)) pa_nil)))))
   (pss_cons (ps_set (i:=4) sc_coming_to.nd rfl (Or.inl rfl) (pe_disp (pps_cons (pv 1) pe_bl pps_nil) rfl rfl (fun z=>nomatch z) (by decide)))
   (pss_cons (ps_set (i:=5) sc_coming_to.nd rfl (Or.inl rfl) (pe_lst (pa_cons (pv 1) pa_nil)))
   (pss_cons (ps_while PassesOwn.never (pt_cmpR (op_ne_LT hu) (pv 5) (pe_lst pa_nil) (nomark _)) (pss_cons (ps_set (i:=6) sc_coming_to.nd rfl (Or.inl rfl) (pe_bm0 PySem.F.plainAttrs_list PySem.F.slot_list_pop PySem.F.type_list_pop mt_pop (pv 5)))
   (pss_one (ps_for PassesOwn.never rfl (pi_list (pe_dget2 (hu_of hr) (pv 2) (pv 6) (pe_lst pa_nil) ⟨rfl,rfl,rfl,rfl⟩)) (pg_name (i:=7) sc_coming_to.nd rfl (Or.inl rfl)) (pss_one (ps_if (pt_cmp (pc_dnotin (hu_of hr) (pv 7) (pv 4))) (pss_cons (ps_dput (hu_of hr) (pv 4) (pv 7) pe_bl rfl)
   (pss_one (ps_expr (pe_bm PySem.F.plainAttrs_list PySem.F.slot_list_append PySem.F.type_list_append mt_append (pv 5) (pa_cons (pv 7) pa_nil))))) pss_nil))))))
   (pss_one (ps_ret (pv 4)))))))),?_⟩
  (try rw [cxK2]);(try rw [cxK1])
  refine fun D hD=>?_
  have sD:=same_upd (o:=.dK []) hD
  refine ⟨_,rfl,a,ms.map T,_,rfl,hS,sD,fun J rd=>?_⟩
  refine for_reads rd (fun i σ G=>Same H G∧∃ (kvs:List (Key×V)) (ts:List (List Nat)) (v2:Option V),G D=some (.dK kvs)∧WaysAt G (cg (ms.take i)) ts kvs∧ts.Nodup∧(kvs.map (·.2)).Nodup∧(∀ b,V.ref b∈kvs.map (·.2)->H b=none)∧ts.length<=i∧(∀ t,t∈ts↔∃ x∈ms.take i,(x.drop 1)=t)∧σ=[some (.ref a),some (T p),some (.ref D),v2,none,none,none,none])
   ⟨sD,[],[],none,upd_same,.nil,List.nodup_nil,List.nodup_nil,fun b h=>(nomatch h),Nat.le_refl _,fun t=>⟨fun h=>(nomatch h),fun ⟨x,h,_⟩=>by rw [List.take_zero] at h;cases h⟩,rfl⟩ (fun i σ G _ h=>h.1) ?_ ?_
  ·rintro i y σ G hi ⟨sG,kvs,ts,v2,hd,hwa,nd,nv,hf,hlt,hm,rfl⟩
   obtain ⟨x,hxi,rfl⟩:∃ x,ms[i]?=some x∧T x=y:=by rw [List.getElem?_map] at hi;exact Option.map_eq_some_iff.mp hi
   have hil:=(List.getElem?_eq_some_iff.mp hxi).1
   have hxx:=hx x (List.mem_of_getElem? hxi)
   have htk:ms.take (i+1)=ms.take i++[x]:=by rw [List.take_add_one,hxi];rfl
   have hm2:∀ t,(∃ y∈ms.take (i+1),y.drop 1=t)↔(∃ y∈ms.take i,y.drop 1=t)∨t=(x.drop 1):=fun t=>by
    rw [htk]
    constructor
    ·rintro ⟨y,h1,h2⟩
     rcases List.mem_append.mp h1 with z | z
     ·exact .inl ⟨y,z,h2⟩
     ·rw [List.mem_singleton.mp z] at h2
      exact .inr h2.symm
    ·rintro (⟨y,h1,h2⟩ | h)
     ·exact ⟨y,List.mem_append_left _ h1,h2⟩
     ·exact ⟨x,List.mem_append_right _ (List.mem_singleton.mpr rfl),h.symm⟩
   have hgl:∀ t,(cg (ms.take i) t).length<=1000:=fun t=>by
    unfold cg
    rw [List.length_map]
    exact Nat.le_trans (List.length_filter_le ..) (by rw [List.length_take];omega)
   refine ⟨_,rfl,D,rfl,⟨_,hd⟩,_,rfl,x,rfl,⟨hxx.1,hxx.2⟩,(by show 0<=sizeLine;omega),fun e he=>?_⟩
   have s1:=same_upd (o:=.lst []) he
   have h1:upd G e (.lst []) e=some (.lst []):=upd_same
   have heH:H e=none:=back_none31 sG he
   have heD:e≠D:=fun z=>by rw [z,hd] at he;cases he
   have hd1:=s1 D _ hd
   have hwa1:=hwa.mono s1
   have sG1:=sG.trans s1
   have hev:V.ref e∉kvs.map (·.2):=fun z=>by
    have key:∀ {ts:List (List Nat)} {kvs:List (Key×V)},WaysAt G (cg (ms.take i)) ts kvs->V.ref e∉kvs.map (·.2):=fun {ts kvs} h=>by
     induction h with
     | nil=>intro z;cases z
     | @cons o a' _ _ e1 _ ih =>
      intro z
      rcases List.mem_cons.mp z with z | z
      ·cases z;rw [he] at e1;cases e1
      ·exact ih z
    exact key hwa z
   generalize upd G e (.lst [])=G1 at s1 h1 hd1 hwa1 sG1
   refine ⟨kvs,Sum.inr (tx ((x.drop 1))),hd1,rfl,by rw [hwa.len];omega,fun v hv=>?_,fun hn=>?_⟩
   ·have hol:(x.drop 1)∈ts:=Decidable.byContradiction fun z=>by rw [valV_ways hwa z] at hv;cases hv
    obtain ⟨b,hb1,hb2⟩:=hwa1.get hol
    obtain rfl:v = .ref b:=by rw [hb1] at hv;exact (Option.some.inj hv).symm
    have hbH:=hf b (by
     have vm:∀ {kvs:List (Key×V)} {k:Key} {v:V},valV kvs k=some v->v∈kvs.map (·.2):=fun {kvs k v}=>by
      induction kvs with
      | nil=>intro e;cases e
      | cons kv kvs ih =>
       intro e
       obtain ⟨k',v'⟩:=kv
       by_cases hk:k'=k
       ·rw [valV_pos hk] at e;cases e;exact List.mem_cons_self ..
       ·rw [valV_neg hk] at e;exact List.mem_cons_of_mem _ (ih e)
     exact vm hv)
    have hbD:b≠D:=fun z=>by rw [z,hd1] at hb2;cases hb2
    refine ⟨.inl ⟨rfl,_,SqL.of hb2⟩,_,rfl,x,rfl,⟨hxx.1,hxx.2⟩,b,_,_,rfl,rfl,hb2,(by rw [List.length_map];have:=hgl ((x.drop 1));omega),?_⟩
    have hw2:=hwa1.app (x:=beg x) nd nv hol hb1
    refine ⟨fun b' o e'=>by rw [upd_ne (fun z=>by rw [z,hbH] at e';cases e')];exact sG1 b' o e',kvs,ts,_,by rw [upd_ne hbD.symm];exact hd1,?_,nd,nv,hf,by omega,fun t=>?_,rfl⟩
    ·rw [List.map_append] at hw2
     refine hw2.cong fun t _=>?_
     rw [htk,cg_snoc]
     by_cases z:t=(x.drop 1)
     ·rw [if_pos z,if_pos z,z]
     ·rw [if_neg z,if_neg z]
    ·rw [hm2,hm]
     exact ⟨.inl,fun h=>h.elim id fun z=>z▸(hm _).mp hol⟩
   ·have hol:(x.drop 1)∉ts:=fun z=>by obtain ⟨a,h1,_⟩:=hwa1.get z;rw [h1] at hn;cases hn
    have hep:upd G1 D (.dK (putK kvs (Sum.inr (tx ((x.drop 1)))) (.ref e))) e=some (.lst []):=by rw [upd_ne heD];exact h1
    refine ⟨.inl ⟨rfl,_,SqL.of hep⟩,_,rfl,x,rfl,⟨hxx.1,hxx.2⟩,e,_,_,rfl,rfl,hep,(by show 0<sizeLine;omega),?_⟩
    have hpk:putK kvs (Sum.inr (tx ((x.drop 1)))) (.ref e)=kvs++[(Sum.inr (tx ((x.drop 1))),.ref e)]:=by
     unfold putK
     rw [if_neg]
     intro z
     obtain ⟨kv,z1,z2⟩:=List.any_eq_true.mp z
     have h3:kv.1∈kvs.map (·.1):=List.mem_map_of_mem z1
     rw [hwa.keys,of_decide_eq_true z2] at h3
     obtain ⟨t,h4,h5⟩:=List.mem_map.mp h3
     exact hol (tx_inj (Sum.inr.inj h5)▸h4)
    have og0:cg (ms.take i) (x.drop 1)=[]:=by
     unfold cg
     rw [List.filter_eq_nil_iff.mpr fun u hu z=>hol ((hm _).mpr ⟨u,hu,of_decide_eq_true z⟩)]
     rfl
    have hne:∀ b' o,H b'=some o->b'≠e∧b'≠D:=fun b' o e'=>⟨fun z=>(by rw [z,heH] at e';cases e'),fun z=>(by rw [z,hD] at e';cases e')⟩
    refine ⟨fun b' o e'=>by rw [upd_ne (hne b' o e').1,upd_ne (hne b' o e').2];exact sG1 b' o e',_,ts++[(x.drop 1)],_,by rw [upd_ne heD.symm];exact upd_same,?_,?_,?_,?_,by rw [List.length_append];show _+1<=_;omega,fun t=>?_,rfl⟩
    ·have hw2:WaysAt (upd (upd G1 D (.dK (putK kvs (Sum.inr (tx ((x.drop 1)))) (.ref e)))) e (.lst ([]++[T (beg x)]))) (fun t=>if t=(x.drop 1) then [beg x] else cg (ms.take i) t) ts kvs:=by
      have hw3:=hwa1.updD (o:=.dK (putK kvs (Sum.inr (tx ((x.drop 1)))) (.ref e))) hd1
      have key:∀ {G':Hp} {ts:List (List Nat)} {kvs:List (Key×V)},WaysAt G' (cg (ms.take i)) ts kvs->V.ref e∉kvs.map (·.2)->(x.drop 1)∉ts->WaysAt (upd G' e (.lst ([]++[T (beg x)]))) (fun t=>if t=(x.drop 1) then [beg x] else cg (ms.take i) t) ts kvs:=fun {G' ts kvs} h=>by
       induction h with
       | nil=>intro _ _;exact .nil
       | @cons o a' _ _ e1 _ ih =>
        intro z1 z2
        have n1:a'≠e:=fun z=>z1 (z▸List.mem_cons_self ..)
        have n2:o≠(x.drop 1):=fun z=>z2 (z▸List.mem_cons_self ..)
        exact .cons (by rw [upd_ne n1,if_neg n2];exact e1) (ih (fun z=>z1 (List.mem_cons_of_mem _ z)) fun z=>z2 (List.mem_cons_of_mem _ z))
      exact key hw3 hev hol
     rw [hpk]
     rw [hpk] at hw2
     refine (hw2.snoc (a:=e) (by rw [upd_same,if_pos rfl];rfl)).cong fun t _=>?_
     rw [htk,cg_snoc]
     by_cases z:t=(x.drop 1)
     ·rw [if_pos z,if_pos z,z,og0];rfl
     ·rw [if_neg z,if_neg z]
    ·exact List.nodup_append.mpr ⟨nd,by simp,fun a' ha c hc z=>hol (by rw [<- List.mem_singleton.mp hc,<- z];exact ha)⟩
    ·rw [hpk,List.map_append]
     exact List.nodup_append.mpr ⟨nv,by simp,fun a' ha c hc z=>hev (by have hc:c=V.ref e:=List.mem_singleton.mp hc;rw [<- hc,<- z];exact ha)⟩
    ·intro b hb
     rw [hpk,List.map_append] at hb
     rcases List.mem_append.mp hb with z | z
     ·exact hf b z
     ·have z:V.ref b=V.ref e:=List.mem_singleton.mp z
      cases z
      exact heH
    ·rw [hm2,List.mem_append,hm,List.mem_singleton]
  ·rintro σ G ⟨sG,kvs,ts,v2,hd,hwa,nd,nv,hf,hlt,hm,rfl⟩
   rw [List.length_map,List.take_length] at hwa
   rw [List.length_map,List.take_length] at hm
   intro D2 hD2
   refine ⟨_,rfl,upd_same,[(Sum.inr (tx p),.bl true)],rfl,(by show 1<=15;decide),?_⟩
   have e1:upd (upd G D2 (.dK [])) D2 (.dK (mergeK [] [(Sum.inr (tx p),.bl true)]))=upd G D2 (.dK (tKs [p] (.bl true))):=by
    rw [upd_upd]
    rfl
   rw [e1]
   have s2:=same_upd (o:=.dK (tKs [p] (.bl true))) hD2
   refine ⟨_,rfl,(by show 1<=sizeLine;omega),fun Wt hWt=>?_⟩
   have s3:=same_upd (o:=.lst [T p]) hWt
   have hWD:Wt≠D2:=fun z=>by rw [z,upd_same] at hWt;cases hWt
   have hDD2:D≠D2:=fun z=>by rw [z,hD2] at hd;cases hd
   have hDH2:H D2=none:=back_none31 sG hD2
   have hWH:H Wt=none:=back_none31 (sG.trans s2) hWt
   have hbnd:∀ fs:List (List Nat),fs.Nodup->Least ms p fs->fs.length<=ms.length+1:=fun fs hn hle=>by
    have h1:=Dt.sub_len (b:=p::ms.map beg) hn (hle (fun k=>k∈p::ms.map beg) (List.mem_cons_self ..) fun w hw _=>List.mem_cons_of_mem _ (List.mem_map_of_mem hw))
    rw [List.length_cons,List.length_map] at h1
    exact h1
   have hdG:=s3 D _ (s2 D _ hd)
   have hwaG:=(hwa.mono s2).mono s3
   have hd2G:upd (upd G D2 (.dK (tKs [p] (.bl true)))) Wt (.lst [T p]) D2=some (.dK (tKs [p] (.bl true))):=by rw [upd_ne hWD.symm];exact upd_same
   generalize hG3:upd (upd G D2 (.dK (tKs [p] (.bl true)))) Wt (.lst [T p])=G3 at hdG hwaG hd2G
   have hwG:G3 Wt=some (.lst ([p].map T)):=by rw [<- hG3];exact upd_same
   have sG3:Same H G3:=by rw [<- hG3];exact sG.trans (s2.trans s3)
   refine ⟨fun m σ G2=>∃ (fs wl:List (List Nat)) (v6 v7:Option V),m+2*fs.length=2*(ms.length+1)+wl.length∧Same H G2∧(∀ b o,b≠D2->b≠Wt->G3 b=some o->G2 b=some o)∧G2 D2=some (.dK (tKs fs (.bl true)))∧G2 Wt=some (.lst (wl.map T))∧fs.Nodup∧p∈fs∧(∀ z∈wl,z∈fs)∧Least ms p fs∧(∀ w∈ms,w.drop 1∈fs->w.drop 1∈wl∨beg w∈fs)∧wl.length<=fs.length∧σ=[some (.ref a),some (T p),some (.ref D),v2,some (.ref D2),some (.ref Wt),v6,v7],
    ⟨2*ms.length+1,[p],[p],none,none,by show 2*ms.length+1+2*1=2*(ms.length+1)+1;omega,sG3,fun b o _ _ e=>e,hd2G,hwG,by simp,by simp,fun z hz=>hz,fun χ h1 _ k hk=>by rw [List.mem_singleton.mp hk];exact h1,fun w _ h=>.inl h,Nat.le_refl _,rfl⟩,?_⟩
   rintro m σ G2 ⟨fs,wl,v6,v7,hmm,sG2,kp,hf2,hw2,hfn,hpf,hwf,hle,hcl,hwfl,rfl⟩
   refine ⟨_,rfl,(by show 0<=sizeLine;omega),fun E0 hE0=>?_⟩
   have tE:=same_upd (o:=.lst []) hE0
   refine ⟨Wt,E0,wl,[],rfl,rfl,SqL.of (tE Wt _ hw2),SqL.of upd_same,_,rfl,?_⟩
   by_cases hwe:wl=[]
   ·subst hwe
    refine itN (by rw [decide_eq_true rfl];exact Bool.false_ne_true) ?_
    refine ⟨_,rfl,?_⟩
    exact q D2 fs _ hDH2 (sG2.trans tE) (tE D2 _ hf2) hfn hpf (fun w hw h=>(hcl w hw h).resolve_left (by simp)) hle
   ·refine itP (by rw [decide_eq_false hwe];rfl) ?_
    refine ⟨_,fun σ' H' z=>z,?_⟩
    obtain ⟨wl',z,rfl⟩:∃ wl' z,wl=wl'++[z]:=⟨wl.dropLast,wl.getLast hwe,(List.dropLast_concat_getLast hwe).symm⟩
    have hE0D2:E0≠D2:=fun e=>by rw [e,hf2] at hE0;cases hE0
    have hE0W:E0≠Wt:=fun e=>by rw [e,hw2] at hE0;cases hE0
    have hzf:z∈fs:=hwf z (by simp)
    have hwfl2:wl'.length+1<=fs.length:=by rw [List.length_append] at hwfl;exact hwfl
    refine ⟨_,rfl,.inl ⟨rfl,_,SqL.of (tE Wt _ hw2)⟩,Wt,(wl'++[z]).map T,T z,rfl,rfl,tE Wt _ hw2,?_,?_⟩
    ·rw [List.length_map,List.length_append]
     show ((wl'++[z]).map T)[wl'.length+1-1]?=_
     rw [List.map_append,List.getElem?_append_right (by rw [List.length_map];omega),List.length_map,show wl'.length+1-1-wl'.length=0 by omega]
     rfl
    have hdl:((wl'++[z]).map T).dropLast=wl'.map T:=by rw [List.map_append];exact List.dropLast_concat
    rw [hdl]
    have kp2:∀ b o,b≠D2->b≠Wt->G3 b=some o->upd (upd G2 E0 (.lst [])) Wt (.lst (wl'.map T)) b=some o:=fun b o h1 h2 e=>by rw [upd_ne h2];exact tE b o (kp b o h1 h2 e)
    have sG4:Same H (upd (upd G2 E0 (.lst [])) Wt (.lst (wl'.map T))):=fun b o e=>by rw [upd_ne (ne_of_none e hWH)];exact tE b o (sG2 b o e)
    have hf4:upd (upd G2 E0 (.lst [])) Wt (.lst (wl'.map T)) D2=some (.dK (tKs fs (.bl true))):=by rw [upd_ne hWD.symm];exact tE D2 _ hf2
    have hw4:upd (upd G2 E0 (.lst [])) Wt (.lst (wl'.map T)) Wt=some (.lst (wl'.map T)):=upd_same
    generalize upd (upd G2 E0 (.lst [])) Wt (.lst (wl'.map T))=G4 at kp2 sG4 hf4 hw4
    have hDW:D≠Wt:=fun e=>by rw [e,hwG] at hdG;cases hdG
    have hd4:=kp2 D _ hDD2 hDW hdG
    refine ⟨_,rfl,D,rfl,.inl ⟨kvs,.inl hd4⟩,_,rfl,(by show 0<=sizeLine;omega),fun e5 he5=>?_⟩
    have t5:=same_upd (o:=.lst []) he5
    refine ⟨_,DGet.k (k:=Sum.inr (tx z)) (t5 D _ hd4),?_⟩
    have hlist:∃ b,(valV kvs (Sum.inr (tx z))).getD (.ref e5) = .ref b∧upd G4 e5 (.lst []) b=some (.lst ((cg ms z).map T))∧b≠D2∧b≠Wt:=by
     by_cases hz:z∈ts
     ·obtain ⟨b,hb1,hb2⟩:=hwaG.get hz
      have n1:b≠D2:=fun e=>by rw [e,hd2G] at hb2;cases hb2
      have n2:b≠Wt:=fun e=>by rw [e] at hb1;obtain ⟨b',g1,g2⟩:=hwa.get hz;rw [g1] at hb1;cases hb1;rw [s2 _ _ g2] at hWt;cases hWt
      exact ⟨b,by rw [hb1];rfl,t5 b _ (kp2 b _ n1 n2 hb2),n1,n2⟩
     ·refine ⟨e5,by rw [valV_ways hwaG hz];rfl,?_,(fun e=>by rw [e,hf4] at he5;cases he5),(fun e=>by rw [e,hw4] at he5;cases he5)⟩
      have:cg ms z=[]:=List.eq_nil_iff_forall_not_mem.mpr fun y hy=>by
       obtain ⟨w,h1,h2,_⟩:=mem_cg.mp hy
       exact hz ((hm z).mpr ⟨w,h1,h2⟩)
      rw [this]
      exact upd_same
    obtain ⟨b,hb1,hb2,hbD,hbW'⟩:=hlist
    rw [hb1]
    refine ⟨b,rfl,⟨_,SqL.of hb2⟩,?_⟩
    have hcl0:(cg ms z).length<=ms.length:=by unfold cg;rw [List.length_map];exact List.length_filter_le ..
    refine for_list (K:=K) (a:=b) (xs:=(cg ms z).map T) (fun j σ G5=>∃ (fs' wl2:List (List Nat)) (v7:Option V),fs'.length=fs.length+(wl2.length-wl'.length)∧wl'.length<=wl2.length∧Same H G5∧(∀ c o,c≠D2->c≠Wt->G3 c=some o->G5 c=some o)∧G5 b=some (.lst ((cg ms z).map T))∧G5 D2=some (.dK (tKs fs' (.bl true)))∧G5 Wt=some (.lst (wl2.map T))∧fs'.Nodup∧(∀ y∈fs,y∈fs')∧(∀ y∈wl',y∈wl2)∧(∀ y∈fs',y∈fs∨y∈wl2)∧(∀ y∈wl2,y∈fs')∧Least ms p fs'∧(∀ y∈(cg ms z).take j,y∈fs')∧σ=[some (.ref a),some (T p),some (.ref D),v2,some (.ref D2),some (.ref Wt),some (T z),v7])
     ⟨fs,wl',v7,by omega,Nat.le_refl _,sG4.trans t5,fun c o h1 h2 e=>t5 c o (kp2 c o h1 h2 e),hb2,t5 D2 _ hf4,t5 Wt _ hw4,hfn,fun y hy=>hy,fun y hy=>hy,fun y hy=>.inl hy,fun y hy=>hwf y (List.mem_append_left _ hy),hle,(fun y hy=>by rw [List.take_zero] at hy;cases hy),rfl⟩ (fun j σ G5 _ h=>by obtain ⟨_,_,_,_,_,_,_,h,_⟩:=h;exact SqL.of h) ?_ ?_
    ·rintro j y σ G5 hj ⟨fs',wl2,v7,hln,hlw,sG5,kp5,hb5,hf5,hw5,hfn5,hsub,hwsub,hnew,hwin,hle5,hdone,rfl⟩
     obtain ⟨y,hyj,rfl⟩:∃ y',(cg ms z)[j]?=some y'∧T y'=y:=by rw [List.getElem?_map] at hj;exact Option.map_eq_some_iff.mp hj
     have htk:(cg ms z).take (j+1)=(cg ms z).take j++[y]:=by rw [List.take_add_one,hyj];rfl
     obtain ⟨w0,hw01,hw02,hw03⟩:=mem_cg.mp (List.mem_of_getElem? hyj)
     have hb5l:=hbnd fs' hfn5 hle5
     refine ⟨_,rfl,_,rfl,D2,_,rfl,DGet.k (k:=Sum.inr (tx y)) hf5,_,rfl,?_⟩
     rw [val_tKs]
     by_cases hy:y∈fs'
     ·rw [if_pos hy]
      refine iteF ?_
      refine ⟨fs',wl2,some (T y),hln,hlw,sG5,kp5,hb5,hf5,hw5,hfn5,hsub,hwsub,hnew,hwin,hle5,fun x hx=>?_,rfl⟩
      rw [htk] at hx
      rcases List.mem_append.mp hx with h | h
      ·exact hdone x h
      ·rw [List.mem_singleton.mp h];exact hy
     ·rw [if_neg hy]
      refine iteT ?_
      refine ⟨_,rfl,_,rfl,D2,_,rfl,DPut.k (k:=Sum.inr (tx y)) hf5 (by rw [tKs_len];omega),?_⟩
      rw [put_tKs,show Hg.addT fs' y=fs'++[y] from if_neg hy]
      have hw6:upd G5 D2 (.dK (tKs (fs'++[y]) (.bl true))) Wt=some (.lst (wl2.map T)):=by rw [upd_ne hWD];exact hw5
      refine ⟨_,rfl,.inl ⟨rfl,_,SqL.of hw6⟩,_,rfl,Wt,_,_,rfl,rfl,hw6,(by rw [List.length_map];omega),?_⟩
      refine ⟨fs'++[y],wl2++[y],some (T y),by rw [List.length_append,List.length_append];show fs'.length+1=fs.length+(wl2.length+1-wl'.length);omega,by rw [List.length_append];omega,fun c o e=>by rw [upd_ne (ne_of_none e hWH),upd_ne (ne_of_none e hDH2)];exact sG5 c o e,fun c o h1 h2 e=>by rw [upd_ne h2,upd_ne h1];exact kp5 c o h1 h2 e,by rw [upd_ne hbW',upd_ne hbD];exact hb5,by rw [upd_ne hWD.symm];exact upd_same,by rw [upd_same,List.map_append];rfl,?_,fun x hx=>List.mem_append_left _ (hsub x hx),fun x hx=>List.mem_append_left _ (hwsub x hx),fun x hx=>?_,fun x hx=>?_,fun χ h1 h2 k hk=>?_,fun x hx=>?_,rfl⟩
      ·exact List.nodup_append.mpr ⟨hfn5,by simp,fun a' ha c hc e=>hy (by rw [<- List.mem_singleton.mp hc,<- e];exact ha)⟩
      ·rcases List.mem_append.mp hx with h | h
       ·exact (hnew x h).elim .inl fun h=>.inr (List.mem_append_left _ h)
       ·exact .inr (List.mem_append_right _ h)
      ·rcases List.mem_append.mp hx with h | h
       ·exact List.mem_append_left _ (hwin x h)
       ·exact List.mem_append_right _ h
      ·rcases List.mem_append.mp hk with h | h
       ·exact hle5 χ h1 h2 k h
       ·rw [List.mem_singleton.mp h,<- hw03]
        exact h2 w0 hw01 (by rw [hw02];exact hle χ h1 h2 z hzf)
      ·rw [htk] at hx
       rcases List.mem_append.mp hx with h | h
       ·exact List.mem_append_left _ (hdone x h)
       ·exact List.mem_append_right _ h
    ·rintro σ G5 ⟨fs',wl2,v7,hln,hlw,sG5,kp5,hb5,hf5,hw5,hfn5,hsub,hwsub,hnew,hwin,hle5,hdone,rfl⟩
     rw [List.length_map,List.take_length] at hdone
     have hb5l:=hbnd fs' hfn5 hle5
     rw [List.length_append] at hmm hwfl
     have hmm:m+2*fs.length=2*(ms.length+1)+(wl'.length+1):=hmm
     have hwfl:wl'.length+1<=fs.length:=hwfl
     refine ⟨2*(ms.length+1)+wl2.length-2*fs'.length,by omega,fs',wl2,_,v7,by omega,sG5,kp5,hf5,hw5,hfn5,hsub p hpf,hwin,hle5,fun w hw h=>?_,by omega,rfl⟩
     by_cases hwz:w.drop 1=z
     ·exact .inr (hdone _ (mem_cg.mpr ⟨w,hw,hwz,rfl⟩))
     ·rcases hnew _ h with h1 | h1
      ·rcases hcl w hw h1 with h2 | h2
       ·rcases List.mem_append.mp h2 with h3 | h3
        ·exact .inl (hwsub _ h3)
        ·exact absurd (List.mem_singleton.mp h3) hwz
       ·exact .inr (hsub _ h2)
      ·exact .inl h1
def TsOf (ms:List (List Nat))(p:List Nat)(ts:List (List Nat)):Prop:=ts.Pairwise (· < ·)∧∀ z,z∈ts↔IsP ms z∧z≠p
theorem TsOf.nd {ms ts:List (List Nat)}{p:List Nat}(h:TsOf ms p ts):ts.Nodup:=h.1.imp fun z e=>absurd (e▸z) (List.lt_irrefl _)
theorem TsOf.no {ms ts:List (List Nat)}{p:List Nat}(h:TsOf ms p ts):p∉ts:=fun z=>((h.2 p).mp z).2 rfl
theorem TsOf.uniq {ms ts us:List (List Nat)}{p:List Nat}(h:TsOf ms p ts)(g:TsOf ms p us):us=ts:=by
 have ns:∀ {l:List (List Nat)},l.Pairwise (· < ·)->l.Pairwise fun a b=>¬ b<a:=fun h=>h.imp fun z e=>List.lt_irrefl _ (List.lt_trans z e)
 exact Wd.sorted_same ((List.perm_ext_iff_of_nodup g.nd h.nd).mpr fun z=>by rw [h.2,g.2]) (ns g.1) (ns h.1)
theorem ts_of {ms ps:List (List Nat)}{p:List Nat}(hpw:ps.Pairwise (fun a b=>¬ b<a))(hpn:ps.Nodup)(hpm:∀ z,z∈ps↔IsP ms z):TsOf ms p (ps.filter fun o=>decide (o≠p)):=⟨(Dt.asc_of hpn hpw).filter _,fun z=>by rw [List.mem_filter,hpm,decide_eq_true_iff]⟩
theorem out_beg {ms:List (List Nat)}{t w:List Nat}(h:w∈outL ms t):w∈ms∧Wd.beg w=t:=⟨(List.mem_filter.mp h).1,of_decide_eq_true (List.mem_filter.mp h).2⟩
theorem mem_out {ms:List (List Nat)}{t w:List Nat}(h:w∈ms)(e:Wd.beg w=t):w∈outL ms t:=List.mem_filter.mpr ⟨h,decide_eq_true e⟩
theorem trs_iff {ms ts us:List (List Nat)}(hn:ts.Nodup):us∈Dt.trs ts ts (outL ms)↔us.map Wd.beg=ts∧(∀ w∈us,w∈ms)∧Dt.cmT ts (Dt.pk us)=true:=by
 rw [Dt.mem_trs hn fun t _ w hw=>(out_beg hw).2]
 refine and_congr_right fun h1=>?_
 rw [Dt.cmT_congr (f':=Dt.pk us) fun t ht=>if_pos ht]
 exact and_congr_left fun _=>⟨fun h w hw=>(out_beg (h w hw)).1,fun h w hw=>mem_out (h w hw) rfl⟩
def spIsTree (K:PySem.W.Frag)(C:Addr)(ad:Adr):Sp:=fun vs H Q E=>∃ (x tp:Addr) (n:Nat) (ms:List (List Nat)) (p:List Nat) (a:Addr) (us:List (List Nat)),vs=[.ref x,T p,.ref a]∧WebAt C H x tp n ms∧WebOk ms n∧SqA K H a (us.map T)∧(us.length<=1000∧∀ y∈us,1<=y.length∧y.length<=1000)∧(¬ IsP ms p->∀ H',Same H H'->E (.ref ad.NoSuch) none H') ∧
 (IsP ms p->∀ (ts:List (List Nat)) (b:Bool) (H':Hp),TsOf ms p ts->Same H H'->(b=true↔us∈Dt.trs ts ts (outL ms))->Q (.bl b) H')
theorem ok_is_tree {f:Addr}{fd:FuncData}(F:Fun K "is_tree" "is_tree" s_is_tree f fd)(tt:Txt K mg ad)(C_ways_toward:Cal P w K mg base (CX1 P w) "ways_toward" 3 ["web", "piece"] (spWaysT ad.Web ad))(C_begin_of:Cal P w K mg base (CX1 P w) "begin_of" 1 ["word"] spBegin)(C_coming_to:Cal P w K mg base (CX1 P w) "coming_to" 2 ["words", "piece"] (spCome K)) :
  FnOk P w K mg base (CX1 P w) 4 f fd ["web", "piece", "tree"] (spIsTree K ad.Web ad):=by
 refine F.okX sc_is_tree (fun vs H Q E h=>?_) (fun cdv A outer s H vs Q E hr h=>?_)
 ·obtain ⟨x,tp,n,ms,p,a,us,rfl,_⟩:=h
  rfl
 ·obtain ⟨x,tp,n,ms,p,a,us,rfl,hW,hok,hS,⟨hul,hux⟩,xn,q⟩:=h
  have hs:sizeLine=16777216:=sizeLine_eq
  have hu:=Nat.lt_of_succ_lt (hu_of hr)
  obtain ⟨⟨dx,hx⟩,htp⟩:=id hW
  refine ⟨_,(pss_cons (ps_set (i:=3) sc_is_tree.nd rfl (Or.inl rfl) (pe_cal C_ways_toward hr passX (pa_cons (pv 0) (pa_cons (pv 1) pa_nil))))
   (pss_cons (ps_if (pt_cmpR (op_ne_LT hu) (pe_comp cs_is_tree_0 rfl (pi_seqK K rfl (pv 2)) (fun cl C s' H' fp=>(pe_cal C_begin_of hr pass1 (pa_cons (pv 0) pa_nil)))) (pe_callTy (call_listD rfl) (by rfl) tt.b_list (by decide +kernel) (pa_cons (pv 3) pa_nil)) (nomark _)) (pss_one (ps_ret pe_bl)) pss_nil)
   (pss_cons (ps_set (i:=4) sc_is_tree.nd rfl (Or.inl rfl) (pe_callB (call_allB rfl) (by rfl) tt.b_all PyProof.Rows.boot_all (pa_cons (pe_comp cs_is_tree_1 rfl (pi_seqK K rfl (pv 2)) (fun cl C s' H' fp=>(pe_cmpR (op_in_seqK K rfl) (pv 0) (pe_fldK K rfl (pv 1) rfl) (by with_unfolding_all rfl)))) pa_nil)))
   (pss_one (ps_ret (pe_and (pv 4) (pe_one (pe_cmpR op_eq_I (pe_callB call_lenD (by rfl) tt.b_len PySem.boot_len (pa_cons (pe_cal C_coming_to hr pass1 (pa_cons (pv 2) (pa_cons (pv 1) pa_nil))) pa_nil)) (pe_op op_add (pe_callB call_lenD (by rfl) tt.b_len PySem.boot_len (pa_cons (pv 3) pa_nil)) pe_int) (nomark _))))))))),?_⟩
  (try rw [cxK2]);(try rw [cxK1])
  refine ⟨_,rfl,_,rfl,x,tp,n,ms,p,rfl,hW,hok,xn,fun hip D ps kvs H1 hD s1 hd1 hwa hps62 hpw hpn hpm=>?_⟩
  have hts:=ts_of (p:=p) hpw hpn hpm
  have htl:(ps.filter fun o=>decide (o≠p)).length<=62:=Nat.le_trans (List.length_filter_le ..) hps62
  generalize (ps.filter fun o=>decide (o≠p))=ts at hwa hts htl
  refine ⟨_,rfl,a,us.map T,_,rfl,hS.on s1,Same.refl _,fun J rd=>?_⟩
  refine compG (fun v=>T (beg (unT v))) rd (by rw [List.length_map];omega) (fun v G hv sg N hN=>?_) fun D2 H2 hD2 s2 hd2=>?_
  ·obtain ⟨l,hl,rfl⟩:=List.mem_map.mp hv
   have z:=hN G (Same.refl _)
   rw [unT_T] at z
   exact ⟨_,rfl,l,rfl,hux l hl,z⟩
  rw [map_unT (f:=fun l=>T (beg l)),show us.map (fun l=>T (beg l))=(us.map beg).map T by rw [List.map_map];rfl] at hd2
  refine ⟨_,rfl,D,ts,kvs,rfl,s2 D _ hd1,hwa.keys,fun D3 hD3=>?_⟩
  have t3:=same_upd (o:=.lst (ts.map T)) hD3
  refine ⟨D2,D3,us.map beg,ts,rfl,rfl,SqL.of (t3 D2 _ hd2),SqL.of upd_same,_,rfl,?_⟩
  have s13:=s1.trans (s2.trans t3)
  by_cases hb:us.map beg=ts
  case neg =>
   refine itP (by rw [decide_eq_false hb];rfl) ?_
   refine q hip ts false _ hts s13 ⟨fun z=>(by cases z),fun z=>absurd ((trs_iff hts.nd).mp z).1 hb⟩
  refine itN (by rw [decide_eq_true hb];exact Bool.false_ne_true) ?_
  have hd4:=t3 D _ (s2 D _ hd1)
  generalize upd H2 D3 (.lst (ts.map T))=H4 at s13 hd4
  refine ⟨_,rfl,a,us.map T,_,rfl,hS.on s13,Same.refl _,fun J rd=>?_⟩
  refine compG (fun v=>V.bl (decide (unT v∈ms))) rd (by rw [List.length_map];omega) (fun v G hv sg N hN=>?_) fun D5 H5 hD5 s5 hd5=>?_
  ·obtain ⟨l,hl,rfl⟩:=List.mem_map.mp hv
   have z:=hN G (Same.refl _)
   rw [unT_T,<- inV_T] at z
   have s1G:=s13.trans sg
   exact ⟨_,rfl,_,rfl,x,ad.Web,dx,_,_,rfl,s1G x _ hx,tt.cl_Web,tt.na_Web_words,flds_w _ _,tp,_,rfl,.inr (SqT.of (s1G tp _ htp)),rfl,all_flat _,z⟩
  have hd5:H5 D5=some (.lst ((us.map fun w=>decide (w∈ms)).map V.bl)):=by
   rw [hd5,List.map_map,List.map_map]
   refine congrArg (fun l=>some (HO.lst l)) (List.map_congr_left fun m _=>?_)
   show V.bl (decide (unT (T m)∈ms))=_
   rw [unT_T]
   rfl
  have s15:=s13.trans s5
  refine ⟨D5,_,rfl,SqL.of hd5,?_⟩
  refine ⟨_,rfl,_,rfl,?_⟩
  by_cases hkn:∀ w∈us,w∈ms
  case neg =>
   refine itN (fun z=>hkn fun w hw=>?_) ?_
   ·rw [List.all_map] at z
    exact of_decide_eq_true (List.all_eq_true.mp z w hw)
   ·exact q hip ts false _ hts s15 ⟨fun z=>(by cases z),fun z=>absurd ((trs_iff hts.nd).mp z).2.1 hkn⟩
  refine itP (by rw [List.all_map];exact List.all_eq_true.mpr fun w hw=>decide_eq_true (hkn w hw)) ?_
  refine ⟨_,rfl,_,rfl,a,us,p,rfl,hS.on s15,⟨hul,hux⟩,fun D6 fs H6 hD6 s6 hd6 hfn hpf hcl hle=>?_⟩
  refine ⟨D6,_,rfl,hd6,?_⟩
  refine ⟨_,rfl,D,_,rfl,s6 D _ (s5 D _ hd4),_,_,rfl,rfl,_,rfl,_,rfl,?_⟩
  have hlen:=hwa.len
  have hfin:∀ w∈us,Wd.fin w=p∨Wd.fin w∈ts:=fun w hw=>by
   by_cases e:Wd.fin w=p
   ·exact .inl e
   ·exact .inr ((hts.2 _).mpr ⟨⟨w,hkn w hw,.inr rfl⟩,e⟩)
  have key:=Dt.come_iff (us:=us) (ks:=fs) hts.nd hts.no hb hfin hfn hpf hcl hle
  rw [tKs_len,hlen]
  refine q hip ts _ _ hts (s15.trans s6) ?_
  rw [trs_iff hts.nd,decide_eq_true_iff]
  constructor
  ·intro h
   exact ⟨hb,hkn,key.mp (by omega)⟩
  ·intro h
   have:=key.mpr h.2.2
   omega
def spCell (K:PySem.W.Frag):Sp:=fun vs H Q _=>∃ (a:Addr) (ns:List Int) (k:Nat),vs=[.ref a,.int (k:Nat)]∧SqL K H a (ns.map V.int)∧Q (.int (ns.getD k 0)) H
theorem ok__law_cell_at {f:Addr}{fd:FuncData}(F:Fun K "_law_cell_at" "_law_cell_at" s__law_cell_at f fd)(tt:Txt K mg ad):FnOk P w K mg base (CX1 P w) 1 f fd ["script", "k"] (spCell K):=by
 refine F.okN sc__law_cell_at (fun vs H Q E h=>?_) (fun cdv A outer s H vs Q E hr h=>?_)
 ·obtain ⟨a,ns,k,rfl,_⟩:=h
  rfl
 ·obtain ⟨a,ns,k,rfl,hS,q⟩:=h
  refine ⟨_,(pss_cons (ps_if (pt_cmpR op_lt (pv 1) (pe_callB call_len_seq (by rfl) tt.b_len PySem.boot_len (pa_cons (pv 0) pa_nil)) (nomark _)) (pss_one (ps_ret (pe_ix ix_list (pv 0) (pv 1) (fun _ _=>rfl)))) pss_nil)
   (pss_one (ps_ret pe_int))),?_⟩
  (try rw [cxK2]);(try rw [cxK1])
  refine ⟨_,rfl,_,rfl,a,_,rfl,.inl hS,_,_,rfl,rfl,_,rfl,?_⟩
  rw [List.length_map]
  refine ite2 (fun h0=>?_) (fun h0=>?_)
  ·have h1:k<ns.length:=by have:=of_decide_eq_true h0;omega
   rw [List.getD_eq_getElem?_getD,List.getElem?_eq_getElem h1] at q
   exact ⟨_,rfl,_,rfl,a,_,_,_,rfl,rfl,hS,atI_nat (by rw [List.getElem?_map,List.getElem?_eq_getElem h1];rfl),q⟩
  ·have h1:¬ k<ns.length:=fun z=>h0 (decide_eq_true (by omega))
   rw [List.getD_eq_getElem?_getD,List.getElem?_eq_none (by omega)] at q
   exact q
theorem beg_snoc (h:List Nat)(c:Nat):beg (h++[c])=h:=by
 unfold beg
 rw [List.length_append,List.length_singleton,Nat.add_sub_cancel,List.take_left']
 rfl
theorem abc_at {s:Int}(h0:0<=s)(h1:s<6):∃ c,atI [97,98,99,100,101,102] s=some c∧97<=c∧c<103:=by
 obtain ⟨m,hm⟩:=Int.eq_ofNat_of_zero_le h0
 have hm':s=(m:Int):=hm
 subst hm'
 exact ⟨97+m,atI_nat (abc6 (by omega)),by omega,by omega⟩
def WL (ls:List (List Nat))(n:Nat):Prop:=(∀ x∈ls,x.length=n∧Abc x)∧ls.Nodup
theorem WL.sub {ls ls':List (List Nat)}{n:Nat}(h:WL ls n)(s:ls'.Sublist ls):WL ls' n:=⟨fun x hx=>h.1 x (s.subset hx),h.2.sublist s⟩
theorem WL.snoc {ls:List (List Nat)}{n:Nat}{t:List Nat}(h:WL ls n)(ht:t.length=n∧Abc t)(hn:¬ t∈ls):WL (ls++[t]) n:=by
 refine ⟨fun x hx=>?_,List.nodup_append.mpr ⟨h.2,by simp,fun a ha b hb ee=>hn ?_⟩⟩
 ·rcases List.mem_append.mp hx with z | z
  ·exact h.1 x z
  ·have e:x=t:=by simpa using z
   subst e
   exact ht
 ·have hb':b=t:=by simpa using hb
  rw [<- hb',<- ee]
  exact ha
theorem abc_take {k c:Nat}(h:c∈([97,98,99,100,101,102]:List Nat).take k):97<=c∧c<103:=by
 have:=List.mem_of_mem_take h
 simp at this
 omega
def spWalk (K:PySem.W.Frag):Sp:=fun vs H Q _=>∃ (c:Addr) (ns:List Int) (k:Nat) (f0:List Nat),vs=[.ref c,.int (k:Nat),T f0]∧SqL K H c (ns.map V.int)∧(ns.length<=63∧k<=6∧f0.length<=10)∧Abc f0 ∧
 ∀ (D:Addr) (ls:List (List Nat)) (H':Hp),Same H H'->H' D=some (.lst (ls.map T))->WL ls (f0.length+1)->ls.length<=ns.length->(∃ q0,Tr f0 ls q0)->Q (.ref D) H'
theorem ok__law_walk {f:Addr}{fd:FuncData}(F:Fun K "_law_walk" "_law_walk" s__law_walk f fd)(tt:Txt K mg ad):FnOk P w K mg base (CX1 P w) 1 f fd ["cells", "kinds", "first"] (spWalk K):=by
 refine F.okN sc__law_walk (fun vs H Q E h=>?_) (fun cdv A outer s H vs Q E hr h=>?_)
 ·obtain ⟨c,ns,k,f0,rfl,_⟩:=h
  rfl
 ·obtain ⟨c,ns,k,f0,rfl,hS,hb,hf0,q⟩:=h
  have hs:sizeLine=16777216:=sizeLine_eq
  have hnl:(ns.map V.int).length=ns.length:=List.length_map ..
  refine ⟨_,(pss_cons (ps_set (i:=3) sc__law_walk.nd rfl (Or.inr rfl) (pe_lst pa_nil))
   (pss_cons (ps_set (i:=4) sc__law_walk.nd rfl (Or.inr rfl) (pv 2))
   (pss_cons (ps_for PassesOwn.never rfl (pi_list (pv 0)) (pg_name (i:=5) sc__law_walk.nd rfl (Or.inl rfl)) (pss_cons (ps_setCompf (i:=6) cs__law_walk_0 rfl (pi_str (pe_slice sl_T (pe_strT [97,98,99,100,101,102] (by decide +kernel)) po_none (po_some (pv 1)))) (fun cl C s' H' fp=>(pt_cmpR (op_notIn_seqK K rfl) (pe_op op_add_T (pv 5) (pv 0)) (pv 4) (by with_unfolding_all rfl))) (fun cl C s' H' fp=>(pe_op op_add_T (pv 5) (pv 0))) sc__law_walk.nd rfl rfl)
   (pss_cons (ps_if (pt_cmpR op_eq_I (pe_callB call_len_seq (by rfl) tt.b_len PySem.boot_len (pa_cons (pv 6) pa_nil)) pe_int (nomark _)) (pss_one ps_break) pss_nil)
   (pss_cons (ps_set (i:=7) sc__law_walk.nd rfl (Or.inl rfl) (pe_ix ix_list (pv 6) (pe_op op_mod (pv 5) (pe_callB call_len_seq (by rfl) tt.b_len PySem.boot_len (pa_cons (pv 6) pa_nil))) (fun _ _=>rfl)))
   (pss_cons (ps_expr (pe_bm PySem.F.plainAttrs_list PySem.F.slot_list_append PySem.F.type_list_append mt_append (pv 3) (pa_cons (pv 7) pa_nil)))
   (pss_one (ps_set (i:=4) sc__law_walk.nd rfl (Or.inr rfl) (pe_slice sl_T (pv 7) (po_some pe_int) po_none))))))))
   (pss_one (ps_ret (pv 3)))))),?_⟩
  (try rw [cxK2]);(try rw [cxK1])
  refine ⟨(by show 0<=sizeLine;omega),fun D hD=>?_⟩
  have s0:=same_upd (o:=.lst []) hD
  refine ⟨_,rfl,?_⟩
  refine ⟨_,rfl,c,rfl,⟨_,s0.seq hS⟩,?_⟩
  refine for_list (K:=K) (a:=c) (xs:=ns.map V.int) (fun i σ H2=>Same H H2∧∃ (ls:List (List Nat)) (hh:List Nat) (v5 v6 v7:Option V),H2 D=some (.lst (ls.map T))∧WL ls (f0.length+1)∧ls.length<=i∧hh.length=f0.length∧Abc hh∧Tr f0 ls hh∧σ=[some (.ref c),some (.int (k:Nat)),some (T f0),some (.ref D),some (T hh),v5,v6,v7])
   ⟨s0,[],f0,none,none,none,upd_same,⟨fun x hx=>(by simp at hx),List.nodup_nil⟩,Nat.le_refl _,rfl,hf0,rfl,rfl⟩ (fun i σ H2 _ h=>h.1.seq hS) ?_ ?_
  ·rintro i y σ H2 hi ⟨s2,ls,hh,v5,v6,v7,hd,hwl,hl,hhl,hab,htr,rfl⟩
   have hi63:i<ns.length:=by have:=(List.getElem?_eq_some_iff.mp hi).1;omega
   obtain ⟨z,rfl⟩:∃ z,y=V.int z:=by
    obtain ⟨z,_,e⟩:=List.mem_map.mp (List.mem_of_getElem? hi)
    exact ⟨z,e.symm⟩
   refine ⟨_,rfl,_,rfl,_,rfl,(by show 6<=sizeLine;omega),?_⟩
   have ec:cutL [97,98,99,100,101,102] none (some ((k:Nat):Int))=([97,98,99,100,101,102]:List Nat).take k:=cutL_take _ _
   rw [ec]
   refine ⟨_,rfl,?_⟩
   generalize hsg:([97,98,99,100,101,102]:List Nat).take k=sg
   have hsgl:sg.length<=6:=by rw [<- hsg,List.length_take];exact Nat.min_le_right _ _
   have hsga:∀ c∈sg,97<=c∧c<103:=fun c hc=>abc_take (by rw [hsg];exact hc)
   refine compFG (vs:=(sg.map fun c=>[c]).map T) (fun v=>!decide (hh++unT v∈ls)) (fun v=>T (hh++unT v)) reads_text (by rw [List.length_map,List.length_map];omega) (fun v H3 hv s3 N hN=>?_) (fun v H3 hv hp s3 N hN=>?_) fun D1 H3 hD1 s3 hd3=>?_
   ·obtain ⟨l,hl',rfl⟩:=List.mem_map.mp hv
    obtain ⟨ch,hch,rfl⟩:=List.mem_map.mp hl'
    have g:=hN H3 (Same.refl _)
    rw [unT_T] at g
    refine ⟨_,rfl,_,rfl,_,rfl,_,rfl,(by show hh.length+1<=sizeLine;omega),_,rfl,D,_,rfl,.inl (SqL.of (s3 D _ hd)),rfl,all_flat ls,_,rfl,?_⟩
    show N (!inV (T (hh++[ch])) (ls.map T)) H3
    rw [inV_T]
    exact g
   ·obtain ⟨l,hl',rfl⟩:=List.mem_map.mp hv
    obtain ⟨ch,hch,rfl⟩:=List.mem_map.mp hl'
    have g:=hN H3 (Same.refl _)
    rw [unT_T] at g
    exact ⟨_,rfl,_,rfl,_,rfl,_,rfl,(by show hh.length+1<=sizeLine;omega),g⟩
   obtain ⟨fr,hfr,hfm⟩:∃ fr:List (List Nat),(((sg.map fun c=>[c]).map T).filter (fun v=>!decide (hh++unT v∈ls))).map (fun v=>T (hh++unT v))=fr.map T∧∀ t∈fr,(t.length=f0.length+1∧Abc t)∧¬ t∈ls∧beg t=hh:=by
    refine ⟨((sg.map fun c=>[c]).filter fun l=>!decide (hh++l∈ls)).map fun l=>hh++l,?_,fun t ht=>?_⟩
    ·rw [show ((sg.map fun c=>[c]).map T).filter (fun v=>!decide (hh++unT v∈ls))=((sg.map fun c=>[c]).filter fun l=>!decide (hh++l∈ls)).map T from filter_unT (p:=fun l=>!decide (hh++l∈ls)) _,map_unT (f:=fun l=>T (hh++l)),List.map_map]
     rfl
    ·obtain ⟨l,hl',rfl⟩:=List.mem_map.mp ht
     obtain ⟨h1,h2⟩:=List.mem_filter.mp hl'
     obtain ⟨ch,hch,rfl⟩:=List.mem_map.mp h1
     refine ⟨⟨by rw [List.length_append,hhl];rfl,fun d hd'=>?_⟩,(fun z=>by rw [decide_eq_true z] at h2;cases h2),beg_snoc hh ch⟩
     rcases List.mem_append.mp hd' with g | g
     ·exact hab d g
     ·have e:d=ch:=by simpa using g
      subst e
      exact hsga d hch
   rw [hfr] at hd3
   have hfl:(fr.map T).length=fr.length:=List.length_map ..
   refine ⟨_,rfl,D1,_,rfl,.inl (SqL.of hd3),_,rfl,_,rfl,_,rfl,?_⟩
   rw [hfl]
   refine ite2 (fun h0=>?_) (fun h0=>?_)
   ·exact ⟨_,rfl,q D ls H3 (s2.trans s3) (s3 D _ hd) hwl (by omega) ⟨_,htr⟩⟩
   have hf0:0<fr.length:=by
    rcases Nat.eq_zero_or_pos fr.length with g | g
    ·exact absurd (decide_eq_true (by rw [g];rfl)) h0
    ·exact g
   have z0:=Int.emod_nonneg z (show ((fr.length:Nat):Int)≠0 by omega)
   have z1:=Int.emod_lt_of_pos z (show (0:Int)<((fr.length:Nat):Int) by omega)
   obtain ⟨m,hm,hml⟩:∃ m:Nat,z % ((fr.length:Nat):Int)=(m:Int)∧m<fr.length:=⟨(z % ((fr.length:Nat):Int)).toNat,by omega,by omega⟩
   obtain ⟨t,ht⟩:∃ t,fr[m]?=some t:=⟨_,List.getElem?_eq_getElem hml⟩
   obtain ⟨htn,htl,htb⟩:=hfm t (List.mem_of_getElem? ht)
   refine ⟨_,rfl,_,rfl,_,rfl,D1,_,rfl,.inl (SqL.of hd3),_,_,rfl,rfl,(by show (0:Int)<(((fr.map T).length:Nat):Int);omega),D1,_,_,_,rfl,rfl,SqL.of hd3,(by rw [hfl,hm];exact atI_nat (by rw [List.getElem?_map,ht];rfl)),?_⟩
   refine ⟨_,rfl,.inl ⟨rfl,_,SqL.of (s3 D _ hd)⟩,_,rfl,D,_,_,rfl,rfl,s3 D _ hd,(by rw [List.length_map];omega),?_⟩
   have ed:cutL t (some 1) none=t.drop 1:=cutL_from (k:=1) (by omega)
   refine ⟨_,rfl,_,rfl,_,rfl,(by omega),?_⟩
   refine ⟨(fun b o e=>by rw [upd_ne (ne_of_none e hD)];exact (s2.trans s3) b o e),ls++[t],t.drop 1,some (.int z),some (.ref D1),some (T t),by rw [List.map_append];exact upd_same,hwl.snoc htn htl,by rw [List.length_append,List.length_singleton];omega,by rw [List.length_drop];omega,fun d hd'=>htn.2 d (List.mem_of_mem_drop hd'),Hg.Tr.snoc (by rw [htb];exact htr),?_⟩
   rw [<- ed]
   rfl
  ·rintro σ H2 ⟨s2,ls,hh,v5,v6,v7,hd,hwl,hl,hhl,hab,htr,rfl⟩
   exact ⟨_,rfl,q D ls H2 s2 hd hwl (by omega) ⟨_,htr⟩⟩
theorem rep_one (c:Nat):∀ n:Nat,Wd.rep n [c]=List.replicate n c
 | 0=>rfl
 | n+1=>by
  have ih:=rep_one c n
  unfold Wd.rep at ih ⊢
  rw [List.replicate_succ,List.flatten_cons,ih,List.replicate_succ]
  rfl
theorem rep_round (c:Nat)(n:Nat):beg (Wd.rep n [c])=(Wd.rep n [c]).drop 1:=by
 unfold beg
 rw [rep_one,List.length_replicate,List.take_replicate,List.drop_replicate,Nat.min_eq_left (by omega)]
theorem cutV_ints {ns:List Int}{lo hi:Option Int}:∃ ms:List Int,cutV (ns.map V.int) lo hi=ms.map V.int:=by
 refine ⟨(ns.drop (HT.sIx ns.length 0 lo)).take (HT.sIx ns.length ns.length hi-HT.sIx ns.length 0 lo),?_⟩
 rw [cutV,List.length_map,List.map_take,List.map_drop]
theorem cutV_mid_len {xs:List V}{a b:Nat}:(cutV xs (some (a:Int)) (some (b:Int))).length<=b-a:=by
 unfold cutV
 rw [HT.sIx_nat,HT.sIx_nat,List.length_take,List.length_drop]
 omega
theorem pickN {l:List Int}{lo hi:Int}(h:∀ x∈l,lo<=x∧x<=hi){z:Int}(h0:0<=z)(h1:z<l.length):∃ v:Int,atI (l.map V.int) z=some (.int v)∧lo<=v∧v<=hi:=by
 obtain ⟨m,rfl⟩:∃ m:Nat,z=(m:Int):=⟨z.toNat,by omega⟩
 have hm:m<l.length:=by omega
 obtain ⟨a,b⟩:=h _ (List.getElem_mem hm)
 exact ⟨l[m],atI_nat (by rw [List.getElem?_map,List.getElem?_eq_getElem hm];rfl),a,b⟩
theorem cutV_init {ls:List (List Nat)}:cutV (ls.map T) none (some (-1))=(ls.take (ls.length-1)).map T:=by
 unfold cutV
 rw [HT.sIx_none,List.drop_zero,Nat.sub_zero,List.length_map,List.map_take]
 show (ls.map T).take (if (-1:Int)<0 then ((-1:Int)+(ls.length:Int)).toNat else min (-1:Int).toNat ls.length)=_
 rw [if_pos (by decide),show ((-1:Int)+(ls.length:Int)).toNat=ls.length-1 by omega]
theorem rep_a (n:Nat):(Wd.rep n [97]).length=n∧Abc (Wd.rep n [97]):=by
 refine ⟨by rw [Wd.rep_len];show n*1=n;omega,fun c hc=>?_⟩
 unfold Wd.rep at hc
 obtain ⟨l,h1,h2⟩:=List.mem_flatten.mp hc
 rw [List.eq_of_mem_replicate h1] at h2
 have e:c=97:=by simpa using h2
 omega
theorem WL.one {n:Nat}{t:List Nat}(h:t.length=n∧Abc t):WL [t] n:=⟨fun x hx=>by rw [List.mem_singleton.mp hx];exact h,by simp⟩
def spRingWd (K:PySem.W.Frag):Sp:=fun vs H Q _=>∃ (a:Addr) (ns:List Int) (mo:Nat),vs=[.ref a,.int 0,.int (mo:Nat)]∧mo<=40∧SqL K H a (ns.map V.int)∧∀ (D:Addr) (ls:List (List Nat)) (n:Nat) (H':Hp),Same H H'->H' D=some (.lst (ls.map T))->WL ls n->(1<=n∧n<=5)->ls≠[]->ls.length<=mo∨ls.length<=1->(∃ f0,Tr f0 ls f0)->Q (.ref D) H'
theorem ok__law_ring_words {f:Addr}{fd:FuncData}(F:Fun K "_law_ring_words" "_law_ring_words" s__law_ring_words f fd)(tt:Txt K mg ad)(C__law_cell_at:Cal P w K mg base (CX1 P w) "_law_cell_at" 1 ["script", "k"] (spCell K))(C__law_walk:Cal P w K mg base (CX1 P w) "_law_walk" 1 ["cells", "kinds", "first"] (spWalk K)) :
  FnOk P w K mg base (CX1 P w) 2 f fd ["script", "at", "most"] (spRingWd K):=by
 refine F.okN sc__law_ring_words (fun vs H Q E h=>?_) (fun cdv A outer s H vs Q E hr h=>?_)
 ·obtain ⟨a,ns,mo,rfl,_⟩:=h
  rfl
 ·obtain ⟨a,ns,mo,rfl,hmo,hS,q⟩:=h
  have hs:sizeLine=16777216:=sizeLine_eq
  obtain ⟨nz,hnz,n1,n5⟩:=pickN (l:=[2,3,1,4,2,3,5]) (lo:=1) (hi:=5) (by decide) (Int.emod_nonneg (ns.getD 0 0) (show (7:Int)≠0 by decide)) (Int.emod_lt_of_pos _ (show (0:Int)<7 by decide))
  obtain ⟨kz,hkz,k1,k6⟩:=pickN (l:=[2,3,2,2,4,6,2,1]) (lo:=1) (hi:=6) (by decide) (Int.emod_nonneg (ns.getD 1 0) (show (8:Int)≠0 by decide)) (Int.emod_lt_of_pos _ (show (0:Int)<8 by decide))
  obtain ⟨n,rfl⟩:∃ n:Nat,nz=(n:Int):=⟨nz.toNat,by omega⟩
  obtain ⟨k,rfl⟩:∃ k:Nat,kz=(k:Int):=⟨kz.toNat,by omega⟩
  refine ⟨_,(pss_cons (ps_set (i:=3) sc__law_ring_words.nd rfl (Or.inl rfl) (pe_ix ix_list (pe_lst (pa_cons pe_int (pa_cons pe_int (pa_cons pe_int (pa_cons pe_int (pa_cons pe_int (pa_cons pe_int (pa_cons pe_int pa_nil)))))))) (pe_op op_mod (pe_cal C__law_cell_at hr pass1 (pa_cons (pv 0) (pa_cons (pv 1) pa_nil))) pe_int) (fun _ _=>rfl)))
   (pss_cons (ps_set (i:=4) sc__law_ring_words.nd rfl (Or.inl rfl) (pe_ix ix_list (pe_lst (pa_cons pe_int (pa_cons pe_int (pa_cons pe_int (pa_cons pe_int (pa_cons pe_int (pa_cons pe_int (pa_cons pe_int (pa_cons pe_int pa_nil))))))))) (pe_op op_mod (pe_cal C__law_cell_at hr pass1 (pa_cons (pv 0) (pa_cons (pe_op op_add (pv 1) pe_int) pa_nil))) pe_int) (fun _ _=>rfl)))
   (pss_cons (ps_set (i:=5) sc__law_ring_words.nd rfl (Or.inl rfl) (pe_cal C__law_cell_at hr pass1 (pa_cons (pv 0) (pa_cons (pe_op op_add (pv 1) pe_int) pa_nil))))
   (pss_cons (ps_set (i:=6) sc__law_ring_words.nd rfl (Or.inl rfl) (pe_strT [] (by decide +kernel)))
   (pss_cons (ps_for PassesOwn.never rfl (pi_range1 (by rfl) tt.b_range (pa_cons (pe_op op_sub (pv 3) pe_int) pa_nil)) (pg_name (i:=7) sc__law_ring_words.nd rfl (Or.inl rfl)) (pss_cons (ps_set (i:=6) sc__law_ring_words.nd rfl (Or.inl rfl) (pe_op op_add_T (pv 6) (pe_ix ix_T (pe_strT [97,98,99,100,101,102] (by decide +kernel)) (pe_op op_mod (pv 5) (pv 4)) (fun _ _=>rfl))))
   (pss_one (ps_set (i:=5) sc__law_ring_words.nd rfl (Or.inl rfl) (pe_op op_fdiv (pv 5) (pv 4))))))
   (pss_cons (ps_set (i:=8) sc__law_ring_words.nd rfl (Or.inl rfl) (pe_cal C__law_walk hr pass1 (pa_cons (pe_slice sl_list (pv 0) (po_some (pe_op op_add (pv 1) pe_int)) (po_some (pe_op op_add (pe_op op_add (pv 1) pe_int) (pv 2)))) (pa_cons (pv 4) (pa_cons (pv 6) pa_nil)))))
   (pss_cons (ps_while PassesOwn.never (PW.pt (pw_and (pt_cmpR op_gt (pe_callB call_len_seq (by rfl) tt.b_len PySem.boot_len (pa_cons (pv 8) pa_nil)) pe_int (nomark _)) (pw_and1 (pt_cmpR op_ne_T (pe_slice sl_T (pe_ix ix_list (pv 8) (pe_un un_neg pe_int) (fun _ _=>rfl)) (po_some pe_int) po_none) (pv 6) (nomark _))))) (pss_one (ps_set (i:=8) sc__law_ring_words.nd rfl (Or.inl rfl) (pe_slice sl_list (pv 8) po_none (po_some (pe_un un_neg pe_int))))))
   (pss_cons (ps_if (pt_cmpR op_eq_I (pe_callB call_len_seq (by rfl) tt.b_len PySem.boot_len (pa_cons (pv 8) pa_nil)) pe_int (nomark _)) (pss_one (ps_set (i:=8) sc__law_ring_words.nd rfl (Or.inl rfl) (pe_lst (pa_cons (pe_op op_mul_T (pe_strT [97] (by decide +kernel)) (pv 3)) pa_nil)))) pss_nil)
   (pss_one (ps_ret (pv 8))))))))))),?_⟩
  (try rw [cxK2]);(try rw [cxK1])
  refine ⟨(by show 7<=sizeLine;omega),fun p1 hp1=>?_⟩
  have s1:=same_upd (o:=.lst [.int 2,.int 3,.int 1,.int 4,.int 2,.int 3,.int 5]) hp1
  refine ⟨_,rfl,_,rfl,a,ns,0,rfl,s1.seq hS,_,_,rfl,rfl,(by show (0:Int)<7;decide),p1,_,_,_,rfl,rfl,SqL.of upd_same,hnz,?_⟩
  refine ⟨(by show 8<=sizeLine;omega),fun p2 hp2=>?_⟩
  have s2:=s1.trans (same_upd (o:=.lst [.int 2,.int 3,.int 2,.int 2,.int 4,.int 6,.int 2,.int 1]) hp2)
  refine ⟨_,rfl,_,rfl,_,_,rfl,rfl,a,ns,1,rfl,s2.seq hS,_,_,rfl,rfl,(by show (0:Int)<8;decide),p2,_,_,_,rfl,rfl,SqL.of upd_same,hkz,?_⟩
  obtain ⟨H2,hH2,s2⟩:=named s2
  rw [<- hH2]
  refine ⟨_,rfl,_,rfl,_,_,rfl,rfl,a,ns,2,rfl,s2.seq hS,?_⟩
  refine ⟨_,rfl,_,_,rfl,rfl,_,rfl,by omega,by omega,?_⟩
  rw [show (((n:Nat):Int)-1).toNat=n-1 by omega]
  refine for_range (fun i σ H3=>H2=H3∧∃ (d:Int) (t:List Nat) (v7:Option V),t.length=i∧Abc t∧σ=[some (.ref a),some (.int 0),some (.int (mo:Nat)),some (.int (n:Nat)),some (.int (k:Nat)),some (.int d),some (T t),v7,none])
   ⟨rfl,ns.getD 2 0,[],none,rfl,(fun c hc=>by simp at hc),rfl⟩ ?_ ?_
  ·rintro i σ H3 hi ⟨rfl,d,t,v7,ht,hab,rfl⟩
   have z0:=Int.emod_nonneg d (show ((k:Nat):Int)≠0 by omega)
   have z1:=Int.emod_lt_of_pos d (show (0:Int)<((k:Nat):Int) by omega)
   obtain ⟨c,hc,c0,c1⟩:=abc_at z0 (by omega)
   refine ⟨_,rfl,_,rfl,_,rfl,_,_,rfl,rfl,(by show (0:Int)<((k:Nat):Int);omega),_,rfl,_,rfl,(by show 6<=sizeLine;omega),c,hc,_,rfl,_,rfl,(by show t.length+1<=sizeLine;omega),?_⟩
   refine ⟨_,rfl,_,rfl,_,_,rfl,rfl,⟨by omega,by omega⟩,?_⟩
   refine ⟨rfl,d/((k:Nat):Int),t++[c],some (.int (0+(i:Int))),by rw [List.length_append,ht];rfl,fun e he=>?_,rfl⟩
   rcases List.mem_append.mp he with g | g
   ·exact hab e g
   ·have e':e=c:=by simpa using g
    subst e'
    exact ⟨c0,c1⟩
  ·rintro σ H3 ⟨rfl,d,f0,v7,hf,hab,rfl⟩
   obtain ⟨ds,hds⟩:∃ ds:List Int,cutV (ns.map V.int) (some ((3:Nat):Int)) (some ((3+mo:Nat):Int))=ds.map V.int:=cutV_ints
   have hdl:ds.length<=mo:=by
    have e:=congrArg List.length hds
    have e2:=cutV_mid_len (xs:=ns.map V.int) (a:=3) (b:=3+mo)
    rw [List.length_map] at e
    omega
   refine ⟨_,rfl,_,rfl,_,_,rfl,rfl,_,rfl,_,rfl,_,_,rfl,rfl,_,rfl,_,_,rfl,rfl,_,rfl,a,_,rfl,s2.seq hS,fun p4 hp4=>?_⟩
   rw [show cutV (ns.map V.int) (some ((0:Int)+3)) (some ((0:Int)+3+(mo:Nat)))=ds.map V.int by rw [<- hds];congr 2]
   have s4:=s2.trans (same_upd (o:=.lst (ds.map V.int)) hp4)
   refine ⟨_,rfl,_,rfl,p4,ds,k,f0,rfl,SqL.of upd_same,⟨by omega,by omega,by omega⟩,hab,fun D ls H5 s5 hd hwl hl htr=>?_⟩
   have hn':f0.length+1=n:=by omega
   rw [hn'] at hwl
   have s05:=s4.trans s5
   refine ⟨fun m σ H6=>∃ (p:Addr) (ls':List (List Nat)),m=ls'.length∧Same H H6∧H6 p=some (.lst (ls'.map T))∧WL ls' n∧ls'.length<=mo∧(∃ q0,Tr f0 ls' q0)∧σ=[some (.ref a),some (.int 0),some (.int (mo:Nat)),some (.int (n:Nat)),some (.int (k:Nat)),some (.int d),some (T f0),v7,some (.ref p)],⟨ls.length,D,ls,rfl,s05,hd,hwl,by omega,htr,rfl⟩,?_⟩
   rintro m σ H6 ⟨p,ls',hm,s6,hd6,hw6,hl6,htr6,rfl⟩
   have hml:(ls'.map T).length=ls'.length:=List.length_map ..
   have fin:∀ (D:Addr) (ls2:List (List Nat)) (H':Hp),Same H H'->H' D=some (.lst (ls2.map T))->WL ls2 n->ls2≠[]->ls2.length<=mo∨ls2.length<=1->(∃ f0,Tr f0 ls2 f0)->Q (.ref D) H':=fun D ls2 H' h1 h2 h3 h4 h5 h6=>q D ls2 n H' h1 h2 h3 ⟨by omega,by omega⟩ h4 h5 h6
   refine ⟨_,rfl,p,_,rfl,.inl (SqL.of hd6),_,_,rfl,rfl,_,rfl,?_⟩
   rw [hml]
   refine ite2 (fun h0=>?a) (fun h0=>?b)
   case' a =>
    have h0':0<ls'.length:=by have:=of_decide_eq_true h0;omega
    obtain ⟨t,ht⟩:∃ t,ls'[ls'.length-1]?=some t:=⟨_,List.getElem?_eq_getElem (by omega)⟩
    have htl:=(hw6.1 t (List.mem_of_getElem? ht)).1
    have hat:atI (ls'.map T) (-1)=some (T t):=by
     show (ixN (ls'.map T).length (-1)).bind _=_
     rw [hml]
     unfold ixN
     rw [if_neg (by decide),if_pos (by omega),show ((-1:Int)+ls'.length).toNat=ls'.length-1 by omega]
     show (ls'.map T)[ls'.length-1]?=_
     rw [List.getElem?_map,ht]
     rfl
    refine ⟨_,rfl,_,rfl,p,_,_,_,rfl,rfl,SqL.of hd6,hat,_,rfl,_,rfl,(by omega),_,rfl,_,rfl,_,rfl,_,rfl,?_⟩
    refine ite2 (fun h1=>?a1) (fun h1=>?a2)
   case a1 =>
    refine ⟨_,fun σ' H' z=>z,?_⟩
    refine ⟨_,rfl,_,rfl,_,rfl,p,_,rfl,SqL.of hd6,fun p7 hp7=>?_⟩
    rw [show cutV (ls'.map T) none (some (-(1:Int)))=(ls'.take (ls'.length-1)).map T from cutV_init]
    have htk:(ls'.take (ls'.length-1)).length=ls'.length-1:=by rw [List.length_take];omega
    exact ⟨ls'.length-1,by omega,p7,ls'.take (ls'.length-1),htk.symm,s6.trans (same_upd hp7),upd_same,hw6.sub (List.take_sublist _ _),by omega,htr6.elim fun _ g=>g.take _,rfl⟩
   case' a2 =>
    have hcl:ls'≠[]->∃ f0,Tr f0 ls' f0:=fun _=>by
     obtain ⟨q0,g⟩:=htr6
     have e:=g.last ht
     have e2:t.drop 1=f0:=by
      rw [<- cutL_from (k:=1) (show 1<=t.length by omega)]
      by_cases z:cutL t (some 1) none=f0
      ·exact z
      ·exact absurd (by rw [show decide (cutL t (some 1) none=f0)=false from decide_eq_false z];rfl) h1
     rw [show q0=f0 from e.trans e2] at g
     exact ⟨f0,g⟩
   case' b =>
    have hcl:ls'≠[]->∃ f0,Tr f0 ls' f0:=fun z=>absurd (decide_eq_true (by have:=List.length_pos_iff.mpr z;omega)) h0
   all_goals
    refine ⟨_,rfl,p,_,rfl,.inl (SqL.of hd6),_,rfl,_,rfl,_,rfl,?_⟩
    rw [hml]
    refine ite2 (fun h2=>?_) (fun h2=>?_)
    ·refine ⟨_,rfl,_,rfl,n,rfl,⟨by omega,by show n*1<=sizeLine;omega⟩,(by show 1<=sizeLine;omega),fun p7 hp7=>?_⟩
     exact ⟨_,rfl,fin p7 [Wd.rep n [97]] _ (s6.trans (same_upd hp7)) upd_same (WL.one (rep_a n)) (by simp) (.inr (Nat.le_refl 1)) ⟨beg (Wd.rep n [97]),rfl,(rep_round 97 n).symm⟩⟩
    ·exact ⟨_,rfl,fin p ls' H6 s6 hd6 hw6 (fun z=>h2 (decide_eq_true (by rw [z];rfl))) (.inl hl6) (hcl fun z=>h2 (decide_eq_true (by rw [z];rfl)))⟩
def spAround:Sp:=fun vs H Q _=>∃ (t:List Nat) (n:Nat),vs=[T t,.int (n:Nat)]∧(t.length<=1000∧n<=1000)∧∀ (D:Addr) (H':Hp),H D=none->Same H H'->H' D=some (.lst ((Wd.ringW t n).map T))->Q (.ref D) H'
theorem ok__law_around {f:Addr}{fd:FuncData}(F:Fun K "_law_around" "_law_around" s__law_around f fd)(tt:Txt K mg ad):FnOk P w K mg base (CX1 P w) 1 f fd ["text", "length"] spAround:=by
 refine F.okN sc__law_around (fun vs H Q E h=>?_) (fun cdv A outer s H vs Q E hr h=>?_)
 ·obtain ⟨t,n,rfl,_⟩:=h
  rfl
 ·obtain ⟨t,n,rfl,⟨htl,hn⟩,q⟩:=h
  have hs:sizeLine=16777216:=sizeLine_eq
  refine ⟨_,(pss_cons (ps_set (i:=2) sc__law_around.nd rfl (Or.inl rfl) (pe_lst pa_nil))
   (pss_cons (ps_for PassesOwn.never rfl (pi_range1 (by rfl) tt.b_range (pa_cons (pe_callB call_len_T (by rfl) tt.b_len PySem.boot_len (pa_cons (pv 0) pa_nil)) pa_nil)) (pg_name (i:=3) sc__law_around.nd rfl (Or.inl rfl)) (pss_cons (ps_set (i:=4) sc__law_around.nd rfl (Or.inl rfl) (pe_strT [] (by decide +kernel)))
   (pss_cons (ps_for PassesOwn.never rfl (pi_range1 (by rfl) tt.b_range (pa_cons (pv 1) pa_nil)) (pg_name (i:=5) sc__law_around.nd rfl (Or.inl rfl)) (pss_one (ps_set (i:=4) sc__law_around.nd rfl (Or.inl rfl) (pe_op op_add_T (pv 4) (pe_ix ix_T (pv 0) (pe_op op_mod (pe_op op_add (pv 3) (pv 5)) (pe_callB call_len_T (by rfl) tt.b_len PySem.boot_len (pa_cons (pv 0) pa_nil))) (fun _ _=>rfl))))))
   (pss_one (ps_expr (pe_bm PySem.F.plainAttrs_list PySem.F.slot_list_append PySem.F.type_list_append mt_append (pv 2) (pa_cons (pv 4) pa_nil)))))))
   (pss_one (ps_ret (pv 2))))),?_⟩
  (try rw [cxK2]);(try rw [cxK1])
  refine ⟨(by show 0<=sizeLine;omega),fun D hD=>?_⟩
  have sD:=same_upd (o:=.lst []) hD
  refine ⟨_,rfl,_,rfl,(by omega),_,rfl,(by omega),(by omega),?_⟩
  rw [Int.toNat_natCast]
  refine for_range (fun k σ G=>Same H G∧G D=some (.lst (((List.range k).map fun i=>Wd.ringAt t n i).map T))∧∃ (v3 v4 v5:Option V),σ=[some (T t),some (.int (n:Nat)),some (.ref D),v3,v4,v5]) ⟨sD,upd_same,none,none,none,rfl⟩ ?_ ?_
  ·rintro k σ G hk ⟨sG,hd,v3,v4,v5,rfl⟩
   have hk:k<t.length:=hk
   refine ⟨_,rfl,_,rfl,by omega,by omega,?_⟩
   rw [Int.toNat_natCast]
   refine for_range (fun j σ G'=>G'=G∧∃ (v5:Option V),σ=[some (T t),some (.int (n:Nat)),some (.ref D),some (.int (0+(k:Int))),some (T (Wd.ringAt t j k)),v5]) ⟨rfl,v5,rfl⟩ ?_ ?_
   ·rintro j σ G' hj ⟨rfl,v5,rfl⟩
    have hj:j<n:=hj
    have hm:=Nat.mod_lt (k+j) (show 0<t.length by omega)
    have hget:t[(k+j) % t.length]?=some (t.getD ((k+j) % t.length) 0):=by rw [List.getD_eq_getElem?_getD,List.getElem?_eq_getElem hm];rfl
    refine ⟨_,rfl,_,rfl,_,rfl,_,rfl,_,_,rfl,rfl,_,rfl,_,rfl,(by omega),_,_,rfl,rfl,(by omega),_,rfl,_,rfl,(by omega),t.getD ((k+j) % t.length) 0,?_,_,rfl,_,rfl,?_,rfl,some (.int (0+(j:Int))),?_⟩
    ·rw [show (0+(k:Int)+(0+(j:Int))) % ((t.length:Nat):Int)=(((k+j) % t.length:Nat):Int) by rw [Int.natCast_emod];congr 1;omega]
     exact atI_nat hget
    ·have:(Wd.ringAt t j k).length=j:=by unfold Wd.ringAt;rw [List.length_map,List.length_range]
     rw [this]
     show _+1<=sizeLine
     omega
    ·have e:Wd.ringAt t (j+1) k=Wd.ringAt t j k++[t.getD ((k+j) % t.length) 0]:=by
      unfold Wd.ringAt
      rw [List.range_succ,List.map_append]
      rfl
     rw [e]
     rfl
   ·rintro σ G' ⟨rfl,v5,rfl⟩
    refine ⟨_,rfl,.inl ⟨rfl,_,SqL.of hd⟩,_,rfl,D,_,_,rfl,rfl,hd,(by rw [List.length_map,List.length_map,List.length_range];omega),?_⟩
    refine ⟨fun b o e=>by rw [upd_ne (ne_of_none e hD)];exact sG b o e,?_,_,_,_,rfl⟩
    rw [upd_same,List.range_succ,List.map_append,List.map_append]
    rfl
  ·rintro σ G ⟨sG,hd,v3,v4,v5,rfl⟩
   exact ⟨_,rfl,q D G hD sG hd⟩
theorem WaysAt.setL {G:Hp}{g:List Nat->List (List Nat)}{ts:List (List Nat)}{kvs:List (Key×V)}{t:List Nat}{l:List (List Nat)}{b:Addr}(h:WaysAt G g ts kvs):ts.Nodup->(kvs.map (·.2)).Nodup->t∈ts->valV kvs (Sum.inr (tx t))=some (.ref b)->WaysAt (upd G b (.lst (l.map T))) (fun u=>if u=t then l else g u) ts kvs:=by
 have vm:∀ {kvs:List (Key×V)} {k:Key} {v:V},valV kvs k=some v->v∈kvs.map (·.2):=fun {kvs k v}=>by
  induction kvs with
  | nil=>intro e;cases e
  | cons kv kvs ih =>
   intro e
   obtain ⟨k',v'⟩:=kv
   by_cases hk:k'=k
   ·rw [valV_pos hk] at e
    cases e
    exact List.mem_cons_self ..
   ·rw [valV_neg hk] at e
    exact List.mem_cons_of_mem _ (ih e)
 have no:∀ {ts:List (List Nat)} {kvs:List (Key×V)},WaysAt G g ts kvs->t∉ts->V.ref b∉kvs.map (·.2)->WaysAt (upd G b (.lst (l.map T))) (fun u=>if u=t then l else g u) ts kvs:=fun {ts kvs} h=>by
  induction h with
  | nil=>intro _ _;exact .nil
  | @cons o a _ _ e _ ih =>
   intro h1 h2
   have hne:o≠t:=fun z=>h1 (z▸List.mem_cons_self ..)
   have hab:a≠b:=fun z=>h2 (z▸List.mem_cons_self ..)
   exact .cons (by rw [upd_ne hab,if_neg hne];exact e) (ih (fun z=>h1 (List.mem_cons_of_mem _ z)) fun z=>h2 (List.mem_cons_of_mem _ z))
 induction h with
 | nil=>intro _ _ h;cases h
 | @cons o a _ _ e hr ih =>
  intro nd nv ht hv
  rw [List.nodup_cons] at nd
  rw [List.map_cons,List.nodup_cons] at nv
  by_cases hot:o=t
  ·subst hot
   rw [valV_pos rfl] at hv
   cases hv
   exact .cons (by rw [upd_same,if_pos rfl]) (no hr nd.1 nv.1)
  ·rw [valV_neg (fun z=>hot (tx_inj (Sum.inr.inj z)))] at hv
   have hab:a≠b:=fun z=>nv.1 (z▸vm hv)
   exact .cons (by rw [upd_ne hab,if_neg hot];exact e) (ih nd.2 nv.2 ((List.mem_cons.mp ht).resolve_left (Ne.symm hot)) hv)
theorem WaysAt.at_ref {H:Hp}{g:List Nat->List (List Nat)}{ls:List (List Nat)}{kvs:List (Key×V)}{b:Addr}(h:WaysAt H g ls kvs):V.ref b∈kvs.map (·.2)->∃ l:List (List Nat),H b=some (.lst (l.map T)):=by
 induction h with
 | nil=>intro z;cases z
 | @cons o a _ _ e _ ih =>
  intro z
  rcases List.mem_cons.mp z with z | z
  ·obtain rfl:=V.ref.inj z
   exact ⟨_,e⟩
  ·exact ih z
theorem valV_mem:∀ {kvs:List (Key×V)} {k:Key} {v:V},valV kvs k=some v->v∈kvs.map (·.2)
 | [],k,v,e=>by cases e
 | (k',v')::kvs,k,v,e=>by
  by_cases hk:k'=k
  ·rw [valV_pos hk] at e
   cases e
   exact List.mem_cons_self ..
  ·rw [valV_neg hk] at e
   exact List.mem_cons_of_mem _ (valV_mem e)
def KpL (kvs:List (Key×V))(H G:Hp):Prop:=∀ b o,H b=some o->V.ref b∉kvs.map (·.2)->G b=some o
def firstT (ws:List (List Nat)):List Nat:=(ws.map fun w=>w.take 1).flatten
theorem firstT_snoc (ws:List (List Nat))(w:List Nat):firstT (ws++[w])=firstT ws++w.take 1:=by
 unfold firstT
 rw [List.map_append,List.flatten_append]
 simp
theorem firstT_len (ws:List (List Nat)):(firstT ws).length<=ws.length:=by
 unfold firstT
 induction ws with
 | nil=>exact Nat.le_refl _
 | cons w ws ih =>
  rw [List.map_cons,List.flatten_cons,List.length_append,List.length_cons,List.length_take]
  omega
def spGoneR (C:Addr):Sp:=fun vs H Q _=>∃ (x tp D:Addr) (n:Nat) (ms ps:List (List Nat)) (m0:List Nat) (kvs:List (Key×V)) (O:List Nat->List (List Nat)),vs=[.ref x,.ref D]∧WebAt C H x tp n ms∧WebOk ms n∧ms[0]?=some m0∧H D=some (.dK kvs)∧WaysAt H O ps kvs∧ps.Nodup∧(kvs.map (·.2)).Nodup∧(∀ p,p∉ps->O p=[])∧(∀ p,(O p).length<=1000∧∀ w∈O p,1<=w.length∧w.length<=1000)∧(Wd.walkO ms.length O (Wd.beg m0)).length=ms.length ∧
 ∀ H',KpL kvs H H'->Q (T (firstT (Wd.walkO ms.length O (Wd.beg m0)))) H'
theorem ok_gone_round {f:Addr}{fd:FuncData}(F:Fun K "gone_round" "gone_round" s_gone_round f fd)(tt:Txt K mg ad)(C_begin_of:Cal P w K mg base (CX1 P w) "begin_of" 1 ["word"] spBegin)(C_end_of:Cal P w K mg base (CX1 P w) "end_of" 1 ["word"] spEnd):FnOk P w K mg base (CX1 P w) 2 f fd ["web", "whole"] (spGoneR ad.Web):=by
 refine F.okN sc_gone_round (fun vs H Q E h=>?_) (fun cdv A outer s H vs Q E hr h=>?_)
 ·obtain ⟨x,tp,D,n,ms,ps,m0,kvs,O,rfl,_⟩:=h
  rfl
 ·obtain ⟨x,tp,D,n,ms,ps,m0,kvs,O,rfl,hW,hok,h0,hD,hwa,hpn,hkn,hout,hO,hlen,q⟩:=h
  have hs:sizeLine=16777216:=sizeLine_eq
  obtain ⟨⟨dx,hx⟩,htp⟩:=id hW
  obtain ⟨hne,h60,⟨hn,_⟩,hxs,hnd⟩:=id hok
  have hm0:=hxs m0 (List.mem_of_getElem? h0)
  have hxk:V.ref x∉kvs.map (·.2):=fun z=>by
   obtain ⟨b,hb⟩:=hwa.at_ref z
   rw [hb] at hx
   cases hx
  have htk:V.ref tp∉kvs.map (·.2):=fun z=>by
   obtain ⟨b,hb⟩:=hwa.at_ref z
   rw [hb] at htp
   cases htp
  have hDk:V.ref D∉kvs.map (·.2):=fun z=>by
   obtain ⟨b,hb⟩:=hwa.at_ref z
   rw [hb] at hD
   cases hD
  refine ⟨_,(pss_cons (ps_set (i:=2) sc_gone_round.nd rfl (Or.inl rfl) (pe_strT [] (by decide +kernel)))
   (pss_cons (ps_set (i:=3) sc_gone_round.nd rfl (Or.inl rfl) (pe_cal C_begin_of hr pass1 (pa_cons (pe_ix ix_tup (pe_fld (pv 0) rfl) pe_int (fun _ _=>rfl)) pa_nil)))
   (pss_cons (ps_for PassesOwn.never rfl (pi_range1 (by rfl) tt.b_range (pa_cons (pe_callB call_len_seq (by rfl) tt.b_len PySem.boot_len (pa_cons (pe_fld (pv 0) rfl) pa_nil)) pa_nil)) (pg_name (i:=4) sc_gone_round.nd rfl (Or.inl rfl)) (pss_cons (ps_set (i:=5) sc_gone_round.nd rfl (Or.inl rfl) (pe_bm PySem.F.plainAttrs_list PySem.F.slot_list_pop PySem.F.type_list_pop mt_popAt (pe_dget (hu_of hr) (pv 1) (pv 3) (fun _ _=>rfl)) (pa_cons pe_int pa_nil)))
   (pss_cons (ps_set (i:=2) sc_gone_round.nd rfl (Or.inl rfl) (pe_op op_add_T (pv 2) (pe_ix ix_T (pv 5) pe_int (fun _ _=>rfl))))
   (pss_one (ps_set (i:=3) sc_gone_round.nd rfl (Or.inl rfl) (pe_cal C_end_of hr pass1 (pa_cons (pv 5) pa_nil)))))))
   (pss_one (ps_ret (pv 2)))))),?_⟩
  (try rw [cxK2]);(try rw [cxK1])
  refine ⟨_,rfl,x,ad.Web,dx,_,_,rfl,hx,tt.cl_Web,tt.na_Web_words,flds_w _ _,tp,_,_,T m0,rfl,rfl,SqT.of htp,atI_nat (j:=0) (by rw [List.getElem?_map,h0];rfl),m0,rfl,⟨by omega,by omega⟩,?_⟩
  refine ⟨_,rfl,x,ad.Web,dx,_,_,rfl,hx,tt.cl_Web,tt.na_Web_words,flds_w _ _,tp,_,rfl,.inr (SqT.of htp),_,rfl,(by omega),(by rw [List.length_map];omega),?_⟩
  rw [List.length_map,Int.toNat_natCast]
  refine for_range (fun i σ G=>KpL kvs H G∧∃ (Oi:List Nat->List (List Nat)) (at':List Nat) (done:List (List Nat)) (v4 v5:Option V),done.length=i∧done++Wd.walkO (ms.length-i) Oi at'=Wd.walkO ms.length O (Wd.beg m0)∧WaysAt G Oi ps kvs∧(∀ p,p∉ps->Oi p=[])∧(∀ p,(Oi p).length<=1000∧∀ w∈Oi p,1<=w.length∧w.length<=1000)∧σ=[some (.ref x),some (.ref D),some (T (firstT done)),some (T at'),v4,v5])
   ⟨fun b o e _=>e,O,Wd.beg m0,[],none,none,rfl,rfl,hwa,hout,hO,rfl⟩ ?_ ?_
  ·rintro i σ G hi ⟨kG,Oi,at',done,v4,v5,hdl,hdw,hwG,houti,hOi,rfl⟩
   have hrest:(Wd.walkO (ms.length-i) Oi at').length=ms.length-i:=by
    have:=congrArg List.length hdw
    rw [List.length_append,hlen] at this
    omega
   obtain ⟨k,hk⟩:∃ k,ms.length-i=k+1:=⟨ms.length-i-1,by omega⟩
   rw [hk] at hrest hdw
   cases e:Oi at' with
   | nil =>
    unfold Wd.walkO at hrest
    rw [e] at hrest
    cases hrest
   | cons w r =>
    have hat:at'∈ps:=by
     apply Classical.byContradiction
     intro z
     rw [houti at' z] at e
     cases e
    obtain ⟨b,hb1,hb2⟩:=hwG.get hat
    have hwl:=(hOi at').2 w (by rw [e];exact List.mem_cons_self ..)
    have hrl:=(hOi at').1
    rw [e] at hb2 hrl
    have hbk:V.ref b∈kvs.map (·.2):=valV_mem hb1
    have hbD:b≠D:=fun z=>hDk (z▸hbk)
    refine ⟨_,rfl,_,rfl,D,.ref b,rfl,.inl ⟨kvs,Sum.inr (tx at'),.inl (kG D _ hD hDk),rfl,hb1.symm⟩,.inl ⟨rfl,_,SqL.of hb2⟩,b,_,0,0,T w,rfl,rfl,hb2,(by decide),(by decide),?_,rfl,?_⟩
    ·have z9:=PySem.StrLaws.seqIndex_nonneg (n:=((w::r).map T).length) (i:=(0:Int)) (by decide) (by rw [List.length_map,List.length_cons];omega)
     exact z9
    rw [show ((w::r).map T).eraseIdx 0=r.map T from rfl]
    have hlt:=firstT_len done
    obtain ⟨c,w',rfl⟩:∃ c w',w=c::w':=by cases w with | nil=>exact absurd hwl.1 (by decide) | cons c w'=>exact ⟨c,w',rfl⟩
    refine ⟨_,rfl,_,rfl,c::w',rfl,0,rfl,(by omega),c,atI_nat (j:=0) rfl,_,rfl,_,rfl,(by show (firstT done).length+1<=sizeLine;omega),?_⟩
    refine ⟨_,rfl,c::w',rfl,⟨by omega,by omega⟩,?_⟩
    have hst:done++[c::w']++Wd.walkO (ms.length-(i+1)) (Wd.upO Oi at' r) (Wd.fin (c::w'))=Wd.walkO ms.length O (Wd.beg m0):=by
     rw [<- hdw,show ms.length-(i+1)=k by omega]
     conv=>rhs;unfold Wd.walkO
     rw [e,List.append_assoc]
     rfl
    refine ⟨fun d o he hn=>?_,Wd.upO Oi at' r,Wd.fin (c::w'),done++[c::w'],some (.int (0+(i:Int))),some (T (c::w')),by rw [List.length_append,hdl];rfl,hst,?_,fun p hp=>?_,fun p=>?_,?_⟩
    ·rw [upd_ne (fun (z:d=b)=>hn (by rw [z];exact hbk))]
     exact kG d o he hn
    ·exact hwG.setL hpn hkn hat hb1
    ·unfold Wd.upO
     rw [if_neg (fun (z:p=at')=>hp (by rw [z];exact hat))]
     exact houti p hp
    ·unfold Wd.upO
     split
     ·refine ⟨by rw [List.length_cons] at hrl;omega,fun y hy=>(hOi at').2 y (by rw [e];exact List.mem_cons_of_mem _ hy)⟩
     ·exact hOi p
    ·rw [firstT_snoc]
     rfl
  ·rintro σ G ⟨kG,Oi,at',done,v4,v5,hdl,hdw,hwG,houti,hOi,rfl⟩
   rw [Nat.sub_self] at hdw
   have hdw:done++[]=_:=hdw
   rw [List.append_nil] at hdw
   rw [hdw]
   exact ⟨_,rfl,q G kG⟩
theorem Pcs.un1 {ms ps qs:List (List Nat)}(h:Pcs ms ps)(g:Pcs ms qs):qs=ps:=Wd.sorted_same ((List.perm_ext_iff_of_nodup g.2.1 h.2.1).mpr fun z=>by rw [g.2.2,h.2.2]) g.1 h.1
theorem Pcs.few {ms ps:List (List Nat)}{n:Nat}(h:Pcs ms ps)(hok:WebOk ms n):ps.length<=62:=few_len1 (p:=[]) hok.2.2.1.2 h.2.1 fun z hz=>.inr ((h.2.2 z).mp hz)
theorem Pcs.beg {ms ps:List (List Nat)}(h:Pcs ms ps){w:List Nat}(hw:w∈ms):Wd.beg w∈ps:=(h.2.2 _).mpr ⟨w,hw,.inl rfl⟩
theorem nodup_put {kvs:List (Key×V)}{k:Key}{v:V}(h:(kvs.map (·.2)).Nodup)(hv:v∉kvs.map (·.2))(hk:(kvs.map (·.1)).Nodup):((putK kvs k v).map (·.2)).Nodup∧∀ u∈(putK kvs k v).map (·.2),u=v∨u∈kvs.map (·.2):=by
 unfold putK
 split
 ·rename_i hany
  clear hany
  induction kvs with
  | nil=>exact ⟨List.nodup_nil,fun u hu=>(nomatch hu)⟩
  | cons kv kvs ih =>
   rw [List.map_cons,List.nodup_cons] at h hk
   rw [List.map_cons,List.mem_cons] at hv
   obtain ⟨ih1,ih2⟩:=ih h.2 (fun z=>hv (.inr z)) hk.2
   rw [List.map_cons,List.map_cons,List.nodup_cons]
   by_cases e:kv.1=k
   ·rw [if_pos e]
    have hno:(kvs.map fun kv=>if kv.1=k then (kv.1,v) else kv)=kvs:=by
     rw [show kvs=kvs.map id from (List.map_id _).symm,List.map_map]
     refine List.map_congr_left fun y hy=>?_
     show (if y.1=k then _ else _)=y
     rw [if_neg fun z=>hk.1 (by rw [e,<- z];exact List.mem_map_of_mem hy)]
     rfl
    rw [hno]
    refine ⟨⟨fun z=>hv (.inr z),h.2⟩,fun u hu=>?_⟩
    rcases List.mem_cons.mp hu with z | z
    ·exact .inl z
    ·exact .inr (List.mem_cons_of_mem _ z)
   ·rw [if_neg e]
    refine ⟨⟨fun z=>?_,ih1⟩,fun u hu=>?_⟩
    ·rcases ih2 _ z with z | z
     ·exact hv (.inl z.symm)
     ·exact h.1 z
    ·rcases List.mem_cons.mp hu with z | z
     ·exact .inr (z▸List.mem_cons_self ..)
     ·exact (ih2 u z).imp id (List.mem_cons_of_mem _)
 ·rw [List.map_append]
  refine ⟨List.nodup_append.mpr ⟨h,by simp,fun a ha c hc z=>hv (by have hc:c=v:=List.mem_singleton.mp hc;rw [<- hc,<- z];exact ha)⟩,fun u hu=>?_⟩
  rcases List.mem_append.mp hu with z | z
  ·exact .inr z
  ·exact .inl (List.mem_singleton.mp z)
theorem WaysAt.new {H:Hp}{g:List Nat->List (List Nat)}{ls:List (List Nat)}{kvs:List (Key×V)}{b:Addr}(h:WaysAt H g ls kvs)(hb:H b=none):V.ref b∉kvs.map (·.2):=fun z=>by
 obtain ⟨l,e⟩:=h.at_ref z
 rw [hb] at e
 cases e
theorem WaysAt.kn {H:Hp}{g:List Nat->List (List Nat)}{ls:List (List Nat)}{kvs:List (Key×V)}(h:WaysAt H g ls kvs)(hn:ls.Nodup):(kvs.map (·.1)).Nodup:=by
 rw [h.keys]
 exact List.pairwise_map.mpr (hn.imp fun h e=>h (tx_inj (Sum.inr.inj e)))
def OrdsAt (K:PySem.W.Frag)(H:Hp)(fs:List (List (List Nat)))(bs:List Addr):Prop:=Dt.R2 (fun f b=>SqA K H b (f.map T)) fs bs
theorem OrdsAt.on {K:PySem.W.Frag}{H H':Hp}{fs:List (List (List Nat))}{bs:List Addr}(h:OrdsAt K H fs bs)(s:Same H H'):OrdsAt K H' fs bs:=Dt.R2.mono h fun f b _ z=>SqA.on z s
def Given (K:PySem.W.Frag)(C:Addr)(H:Hp)(x tp a o n:Nat)(ms ps:List (List Nat))(m0:List Nat)(O:List Nat->List (List Nat)):Prop :=
 WebAt C H x tp n ms∧WebOk ms n∧ms[0]?=some m0∧Pcs ms ps∧Wd.Whl ms m0 O∧(∀ p∈ps,O p≠[])∧(ms.Pairwise (fun a b=>¬ b<a)∧Dt.cmT (ps.filter fun p=>decide (p≠Wd.beg m0)) (Wd.lsO O)=true)∧SqA K H a ((Wd.ptT (Wd.beg m0) O ps).map T)∧∃ bs,SqL K H o (bs.map V.ref)∧OrdsAt K H (ps.map (Wd.ptO (Wd.beg m0) O)) bs
theorem Given.on {K:PySem.W.Frag}{C:Addr}{H H':Hp}{x tp a o n:Nat}{ms ps:List (List Nat)}{m0:List Nat}{O:List Nat->List (List Nat)}(h:Given K C H x tp a o n ms ps m0 O)(s:Same H H'):Given K C H' x tp a o n ms ps m0 O:=by
 obtain ⟨hW,hok,h0,hP,hw,ho,hc,hA,bs,hB,hO⟩:=h
 exact ⟨hW.on s,hok,h0,hP,hw,ho,hc,SqA.on hA s,bs,s.seq hB,hO.on s⟩
def spWholeO (K:PySem.W.Frag)(C:Addr):Sp:=fun vs H Q _=>∃ (x tp a o n:Nat) (ms ps:List (List Nat)) (m0:List Nat) (O:List Nat->List (List Nat)),vs=[.ref x,.ref a,.ref o]∧Given K C H x tp a o n ms ps m0 O ∧
 ∀ (D:Addr) (kvs:List (Key×V)) (H':Hp),H D=none->Same H H'->H' D=some (.dK kvs)->WaysAt H' O ps kvs->(kvs.map (·.2)).Nodup->(∀ b,V.ref b∈kvs.map (·.2)->H b=none)->Q (.ref D) H'
theorem pt_words {ms ps:List (List Nat)}{m0:List Nat}{O:List Nat->List (List Nat)}(hw:Wd.Whl ms m0 O)(ho:∀ p∈ps,O p≠[]):∀ w∈Wd.ptT (Wd.beg m0) O ps,w∈ms:=fun w h=>by
 obtain ⟨p,hp,rfl⟩:=List.mem_map.mp h
 exact (hw.last (ho p (List.mem_filter.mp hp).1)).1
theorem pt_len {ps:List (List Nat)}{h:List Nat}{O:List Nat->List (List Nat)}:(Wd.ptT h O ps).length<=ps.length:=by
 unfold Wd.ptT
 rw [List.length_map]
 exact List.length_filter_le ..
theorem whl_len {ms:List (List Nat)}{m0:List Nat}{O:List Nat->List (List Nat)}(hw:Wd.Whl ms m0 O)(p:List Nat):(O p).length<=ms.length:=by
 rw [(hw.1 p).length_eq]
 exact List.length_filter_le ..
theorem ok_whole_orders {f:Addr}{fd:FuncData}(F:Fun K "whole_orders" "whole_orders" s_whole_orders f fd)(tt:Txt K mg ad)(C_by_begin:Cal P w K mg base (CX1 P w) "by_begin" 2 ["words"] (spByB K))(C_pieces:Cal P w K mg base (CX1 P w) "pieces" 2 ["web"] (spPieces ad.Web))(C_begin_of:Cal P w K mg base (CX1 P w) "begin_of" 1 ["word"] spBegin):FnOk P w K mg base (CX1 P w) 3 f fd ["web", "tree", "orders"] (spWholeO K ad.Web):=by
 refine F.okN sc_whole_orders (fun vs H Q E h=>?_) (fun cdv A outer s H vs Q E hr h=>?_)
 ·obtain ⟨x,tp,a,o,n,ms,ps,m0,O,rfl,_⟩:=h
  rfl
 ·obtain ⟨x,tp,a,o,n,ms,ps,m0,O,rfl,⟨hW,hok,h0,hP,hw,ho,_,hA,bs,hB,hO⟩,q⟩:=h
  have hs:sizeLine=16777216:=sizeLine_eq
  obtain ⟨hne,h60,⟨hn,_⟩,hxs,hnd⟩:=id hok
  have hm0:=hxs m0 (List.mem_of_getElem? h0)
  have hps:=hP.few hok
  have hol:=whl_len hw
  have hpt:=pt_len (ps:=ps) (h:=Wd.beg m0) (O:=O)
  refine ⟨_,(pss_cons (ps_set (i:=3) sc_whole_orders.nd rfl (Or.inl rfl) (pe_cal C_by_begin hr pass1 (pa_cons (pv 1) pa_nil)))
   (pss_cons (ps_set (i:=4) sc_whole_orders.nd rfl (Or.inl rfl) pe_dnewK)
   (pss_cons (ps_for PassesOwn.never rfl (pi_zip (by rfl) tt.b_zip (pa_cons (pe_cal C_pieces hr pass1 (pa_cons (pv 0) pa_nil)) (pa_cons (pv 2) pa_nil))) (pg_tup rfl (pgs_cons (pg_name (i:=5) sc_whole_orders.nd rfl (Or.inl rfl)) (pgs_cons (pg_name (i:=6) sc_whole_orders.nd rfl (Or.inl rfl)) pgs_nil))) (pss_one (ps_dput (hu_of hr) (pv 4) (pv 5) (pe_op op_catL (pe_callTy call_list_of (by rfl) tt.b_list (by decide +kernel) (pa_cons (pv 6) pa_nil)) (pe_dget2 (hu_of hr) (pv 3) (pv 5) (pe_lst pa_nil) ⟨rfl,rfl,rfl,rfl⟩)) rfl)))
   (pss_cons (ps_set (i:=7) sc_whole_orders.nd rfl (Or.inl rfl) (pe_ix ix_tup (pe_fld (pv 0) rfl) pe_int (fun _ _=>rfl)))
   (pss_cons (ps_dput (hu_of hr) (pv 4) (pe_cal C_begin_of hr pass1 (pa_cons (pv 7) pa_nil)) (pe_op op_catL (pe_lst (pa_cons (pv 7) pa_nil)) (pe_dget (hu_of hr) (pv 4) (pe_cal C_begin_of hr pass1 (pa_cons (pv 7) pa_nil)) (fun _ _=>rfl))) rfl)
   (pss_one (ps_ret (pv 4)))))))),?_⟩
  (try rw [cxK2]);(try rw [cxK1])
  refine ⟨_,rfl,a,_,rfl,hA,⟨by omega,fun w hw'=>by have:=(hxs w (pt_words hw ho w hw')).1;omega⟩,fun D1 kv1 ts1 H1 hD1 s1 hd1 hwa1 hn1 hm1=>?_⟩
  refine fun D2 hD2=>?_
  have s2:=same_upd (o:=.dK []) hD2
  have hd2:upd H1 D2 (.dK []) D2=some (.dK []):=upd_same
  have hDH:H D2=none:=back_none31 s1 hD2
  have hd12:=s2 _ _ hd1
  have hwa2:=hwa1.mono s2
  have sH2:=s1.trans s2
  have h21:D1≠D2:=fun z=>by rw [z,hD2] at hd1;cases hd1
  generalize upd H1 D2 (.dK [])=H2 at s2 hd2 hd12 hwa2 sH2 ⊢
  refine ⟨_,rfl,x,tp,n,ms,rfl,hW.on sH2,hok,fun D3 ps' H3 hD3 s3 hd3 hp1 hp2 hp3=>?_⟩
  obtain rfl:ps'=ps:=hP.un1 ⟨hp1,hp2,hp3⟩
  have sH3:=sH2.trans s3
  have h32:D3≠D2:=fun z=>by rw [z,hd2] at hD3;cases hD3
  refine ⟨_,rfl,D3,o,rfl,⟨_,SqL.of hd3⟩,⟨_,sH3.seq hB⟩,?_⟩
  have hg3:H3 D2=some (.dK []):=s3 _ _ hd2
  have hon:∀ {G:Hp},Kp D2 H3 G->Same H G:=fun {G} k b u e=>k b u (ne_of_none e hDH) (sH3 b u e)
  have hbl:bs.length=ps'.length:=by have:=hO.len;rw [List.length_map] at this;exact this.symm
  refine for_zip (K:=K) (a:=D3) (b:=o) (xs:=ps'.map T) (ys:=bs.map V.ref) (fun i σ G=>Kp D2 H3 G∧∃ (kvs:List (Key×V)) (v5 v6:Option V),G D2=some (.dK kvs)∧WaysAt G (fun p=>if p=Wd.beg m0 then (O p).drop 1 else O p) (ps'.take i) kvs∧(kvs.map (·.2)).Nodup∧(∀ b,V.ref b∈kvs.map (·.2)->H b=none)∧σ=[some (.ref x),some (.ref a),some (.ref o),some (.ref D1),some (.ref D2),v5,v6,none])
   ⟨fun b u _ e=>e,[],none,none,hg3,.nil,List.nodup_nil,fun b h=>(nomatch h),rfl⟩ (by rw [List.length_map,List.length_map,hbl]) (fun i σ G _ h=>⟨SqL.of (h.1 _ _ h32 hd3),(hon h.1).seq hB⟩) ?_ ?_
  ·rintro i y1 y2 S σ G hy1 hy2 hS ⟨kG,kvs,v5,v6,hd,hwa,nv,hf,rfl⟩
   obtain ⟨p,hp,rfl⟩:∃ p,ps'[i]?=some p∧T p=y1:=by rw [List.getElem?_map] at hy1;exact Option.map_eq_some_iff.mp hy1
   obtain ⟨b,hb,rfl⟩:∃ b,bs[i]?=some b∧V.ref b=y2:=by rw [List.getElem?_map] at hy2;exact Option.map_eq_some_iff.mp hy2
   obtain ⟨fo,hf1,hf2⟩:=hO.get hb
   obtain rfl:Wd.ptO (Wd.beg m0) O p=fo:=by rw [List.getElem?_map,hp] at hf1;exact Option.some.inj hf1
   have hpm:=List.mem_of_getElem? hp
   have hil:=(List.getElem?_eq_some_iff.mp hp).1
   have t1:=same_upd (o:=.tup [T p,.ref b]) hS
   refine ⟨S,_,rfl,SqT.of upd_same,rfl,_,_,rfl,_,_,rfl,rfl,?_⟩
   have hd1':=t1 _ _ hd
   have hwb:=hwa.mono t1
   have sHG:=(hon kG).trans t1
   have hda:upd G S (.tup [T p,.ref b]) D1=some (.dK kv1):=t1 _ _ (kG _ _ h21 (s3 _ _ hd12))
   have hwc:WaysAt (upd G S (.tup [T p,.ref b])) (Dt.og (Wd.ptT (Wd.beg m0) O ps')) ts1 kv1:=((hwa2.mono s3).on hg3 kG).mono t1
   have kG1:Kp D2 H3 (upd G S (.tup [T p,.ref b])):=fun b u h e=>t1 _ _ (kG b u h e)
   generalize upd G S (.tup [T p,.ref b])=G1 at hd1' hwb sHG hda hwc kG1 ⊢
   refine ⟨_,rfl,b,_,rfl,SqA.on hf2 sHG,fun l hl=>?_⟩
   have t2:=same_upd (o:=.lst ((Wd.ptO (Wd.beg m0) O p).map T)) hl
   have hlv:upd G1 l (.lst ((Wd.ptO (Wd.beg m0) O p).map T)) l=some (.lst ((Wd.ptO (Wd.beg m0) O p).map T)):=upd_same
   generalize upd G1 l (.lst ((Wd.ptO (Wd.beg m0) O p).map T))=G2 at t2 hlv ⊢
   refine ⟨_,rfl,D1,rfl,.inl ⟨_,.inl (t2 _ _ hda)⟩,_,rfl,(by show 0<=sizeLine;omega),fun e he=>?_⟩
   have t3:=same_upd (o:=.lst []) he
   have hev:upd G2 e (.lst []) e=some (.lst []):=upd_same
   generalize upd G2 e (.lst [])=G3 at t3 hev ⊢
   have t23:=t2.trans t3
   obtain ⟨c,hc1,hc2⟩:∃ c,(valV kv1 (Sum.inr (tx p))).getD (.ref e) = .ref c∧G3 c=some (.lst ((Dt.og (Wd.ptT (Wd.beg m0) O ps') p).map T)):=by
    by_cases ht:p∈ts1
    ·obtain ⟨c,h1,h2⟩:=hwc.get ht
     rw [h1]
     exact ⟨c,rfl,t23 _ _ h2⟩
    ·rw [valV_ways hwc ht]
     refine ⟨e,rfl,?_⟩
     rw [hev,show Dt.og (Wd.ptT (Wd.beg m0) O ps') p=[] from List.filter_eq_nil_iff.mpr fun u hu z=>ht ((hm1 _).mpr ⟨u,hu,of_decide_eq_true z⟩)]
     rfl
   refine ⟨_,.inl ⟨_,Sum.inr (tx p),.inl (t23 _ _ hda),rfl,rfl⟩,?_⟩
   rw [hc1]
   have hput:=hw.put hp2 ho hpm
   have hcl:(Wd.ptO (Wd.beg m0) O p).length+(Dt.og (Wd.ptT (Wd.beg m0) O ps') p).length<=60:=by
    rw [<- List.length_append,hput]
    have:=hol p
    split
    ·rw [List.length_drop];omega
    ·omega
   refine ⟨l,c,_,_,rfl,rfl,SqL.of (t3 _ _ hlv),SqL.of hc2,(by rw [List.length_map,List.length_map];omega),fun d hd'=>?_⟩
   rw [<- List.map_append,hput]
   have t4:=same_upd (o:=.lst ((if p=Wd.beg m0 then (O p).drop 1 else O p).map T)) hd'
   have hdv:upd G3 d (.lst ((if p=Wd.beg m0 then (O p).drop 1 else O p).map T)) d=some (.lst ((if p=Wd.beg m0 then (O p).drop 1 else O p).map T)):=upd_same
   have t14:=t23.trans t4
   have hdn:V.ref d∉kvs.map (·.2):=(hwb.mono t23).new hd'
   have hdH:H d=none:=back_none31 (sHG.trans t23) hd'
   generalize upd G3 d (.lst ((if p=Wd.beg m0 then (O p).drop 1 else O p).map T))=G4 at t4 hdv t14 ⊢
   have hd4:=t14 _ _ hd1'
   refine ⟨_,rfl,_,rfl,D2,_,rfl,.inl ⟨kvs,Sum.inr (tx p),hd4,rfl,by rw [hwa.len,List.length_take];omega,rfl⟩,?_⟩
   have hnt:p∉ps'.take i:=fun z=>by
    obtain ⟨j,hj⟩:=List.getElem?_of_mem z
    rw [List.getElem?_take] at hj
    split at hj
    ·rename_i hji
     have:=(List.getElem?_inj (by omega:j<ps'.length) hp2).mp (hj.trans hp.symm)
     omega
    ·cases hj
   have hput2:=(hwb.mono t14).put hnt (a:=d) hdv
   obtain ⟨n1,n2⟩:=nodup_put (k:=Sum.inr (tx p)) (v:=V.ref d) nv hdn (hwa.kn (hp2.sublist (List.take_sublist ..)))
   refine ⟨fun b' u h e'=>by rw [upd_ne h];exact t14 _ _ (kG1 b' u h e'),_,_,_,upd_same,?_,n1,fun b' hb'=>?_,rfl⟩
   ·rw [List.take_add_one,hp]
    exact hput2.updD hd4
   ·rcases n2 _ hb' with z | z
    ·cases z;exact hdH
    ·exact hf b' z
  ·rintro σ G ⟨kG,kvs,v5,v6,hd,hwa,nv,hf,rfl⟩
   rw [List.length_map,List.take_length] at hwa
   have sHG:=hon kG
   obtain ⟨⟨dx,hx⟩,htp⟩:=hW.on sHG
   have hbm:Wd.beg m0∈ps':=hP.beg (List.mem_of_getElem? h0)
   refine ⟨_,rfl,x,ad.Web,dx,_,_,rfl,hx,tt.cl_Web,tt.na_Web_words,flds_w _ _,tp,_,_,T m0,rfl,rfl,SqT.of htp,atI_nat (j:=0) (by rw [List.getElem?_map,h0];rfl),?_⟩
   refine ⟨_,rfl,(by show 1<=sizeLine;omega),fun l hl=>?_⟩
   have t1:=same_upd (o:=.lst [T m0]) hl
   have hlv:upd G l (.lst [T m0]) l=some (.lst [T m0]):=upd_same
   generalize upd G l (.lst [T m0])=G1 at t1 hlv ⊢
   obtain ⟨c,hc1,hc2⟩:=hwa.get hbm
   rw [if_pos rfl] at hc2
   refine ⟨_,rfl,_,rfl,m0,rfl,⟨by omega,by omega⟩,D2,.ref c,rfl,.inl ⟨kvs,Sum.inr (tx (Wd.beg m0)),.inl (t1 _ _ hd),rfl,hc1.symm⟩,?_⟩
   have hol0:=hol (Wd.beg m0)
   refine ⟨l,c,_,_,rfl,rfl,SqL.of hlv,SqL.of (t1 _ _ hc2),(by rw [List.length_map,List.length_drop];show 1+_<=_;omega),fun d hd'=>?_⟩
   rw [show [T m0]++((O (Wd.beg m0)).drop 1).map T=(O (Wd.beg m0)).map T by rw [show [T m0]++((O (Wd.beg m0)).drop 1).map T=(m0::(O (Wd.beg m0)).drop 1).map T from rfl,hw.head]]
   have t4:=same_upd (o:=.lst ((O (Wd.beg m0)).map T)) hd'
   have hdv:upd G1 d (.lst ((O (Wd.beg m0)).map T)) d=some (.lst ((O (Wd.beg m0)).map T)):=upd_same
   have t14:=t1.trans t4
   have hdn:V.ref d∉kvs.map (·.2):=(hwa.mono t1).new hd'
   have hdH:H d=none:=back_none31 (sHG.trans t1) hd'
   generalize upd G1 d (.lst ((O (Wd.beg m0)).map T))=G4 at t4 hdv t14 ⊢
   have hd4:=t14 _ _ hd
   refine ⟨_,rfl,_,rfl,m0,rfl,⟨by omega,by omega⟩,D2,_,rfl,.inl ⟨kvs,Sum.inr (tx (Wd.beg m0)),hd4,rfl,by rw [hwa.len];omega,rfl⟩,?_⟩
   obtain ⟨n1,n2⟩:=nodup_put (k:=Sum.inr (tx (Wd.beg m0))) (v:=V.ref d) nv hdn (hwa.kn hp2)
   have hrep:=(hwa.mono t14).repl hp2 hbm hdv
   have hfin:=(hrep.updD (o:=.dK (putK kvs (Sum.inr (tx (Wd.beg m0))) (.ref d))) hd4).cong (g':=O) fun t _=>by
    by_cases e:t=Wd.beg m0
    ·rw [if_pos e,e]
    ·rw [if_neg e,if_neg e]
   refine ⟨_,rfl,q D2 _ _ hDH (fun b' u e'=>?_) upd_same hfin n1 fun b' hb'=>?_⟩
   ·rw [upd_ne (ne_of_none e' hDH)]
    exact t14 _ _ (sHG b' u e')
   ·rcases n2 _ hb' with z | z
    ·cases z;exact hdH
    ·exact hf b' z
theorem tree_in {ms ps ts:List (List Nat)}{m0:List Nat}{O:List Nat->List (List Nat)}(hw:Wd.Whl ms m0 O)(hP:Pcs ms ps)(ho:∀ p∈ps,O p≠[])(hc:Dt.cmT (ps.filter fun p=>decide (p≠Wd.beg m0)) (Wd.lsO O)=true)(hts:TsOf ms (Wd.beg m0) ts):Wd.ptT (Wd.beg m0) O ps∈Dt.trs ts ts (outL ms):=by
 obtain rfl:ts=ps.filter fun p=>decide (p≠Wd.beg m0):=(ts_of hP.1 hP.2.1 hP.2.2).uniq hts
 have hb:∀ p∈ps.filter (fun p=>decide (p≠Wd.beg m0)),Wd.beg (Wd.lsO O p)=p:=fun p hp=>(hw.last (ho p (List.mem_filter.mp hp).1)).2
 rw [trs_iff hts.nd]
 refine ⟨?_,pt_words hw ho,?_⟩
 ·unfold Wd.ptT
  rw [List.map_map]
  conv=>rhs;rw [<- List.map_id (ps.filter fun p=>decide (p≠Wd.beg m0))]
  exact List.map_congr_left fun p hp=>hb p hp
 ·rw [<- hc]
  exact Dt.cmT_congr fun t ht=>Dt.pk_map hb t ht
def spAreP (K:PySem.W.Frag)(C:Addr):Sp:=fun vs H Q _=>∃ (x tp a o n:Nat) (ms ps:List (List Nat)) (m0:List Nat) (O:List Nat->List (List Nat)),vs=[.ref x,.ref a,.ref o]∧Given K C H x tp a o n ms ps m0 O∧∀ H':Hp,Same H H'->Q (.bl true) H'
theorem ok_are_parts {f:Addr}{fd:FuncData}(F:Fun K "are_parts" "are_parts" s_are_parts f fd)(tt:Txt K mg ad)(C_is_tree:Cal P w K mg base (CX1 P w) "is_tree" 4 ["web", "piece", "tree"] (spIsTree K ad.Web ad))(C_whole_orders:Cal P w K mg base (CX1 P w) "whole_orders" 3 ["web", "tree", "orders"] (spWholeO K ad.Web))(C_pieces:Cal P w K mg base (CX1 P w) "pieces" 2 ["web"] (spPieces ad.Web))(C_outs:Cal P w K mg base (CX1 P w) "outs" 2 ["web", "piece"] (spOuts ad.Web))(C_begin_of:Cal P w K mg base (CX1 P w) "begin_of" 1 ["word"] spBegin):FnOk P w K mg base (CX1 P w) 5 f fd ["web", "tree", "orders"] (spAreP K ad.Web):=by
 refine F.okX sc_are_parts (fun vs H Q E h=>?_) (fun cdv A outer s H vs Q E hr h=>?_)
 ·obtain ⟨x,tp,a,o,n,ms,ps,m0,O,rfl,_⟩:=h
  rfl
 ·obtain ⟨x,tp,a,o,n,ms,ps,m0,O,rfl,hgv,q⟩:=h
  obtain ⟨hW,hok,h0,hP,hw,ho,⟨hso,hc⟩,hA,bs,hB,hO⟩:=id hgv
  have hs:sizeLine=16777216:=sizeLine_eq
  have hu:=Nat.lt_of_succ_lt (hu_of hr)
  obtain ⟨⟨dx,hx⟩,htp⟩:=id hW
  obtain ⟨hne,h60,⟨hn,_⟩,hxs,hnd⟩:=id hok
  have hm0m:=List.mem_of_getElem? h0
  have hm0:=hxs m0 hm0m
  have hps:=hP.few hok
  have hpt:=pt_len (ps:=ps) (h:=Wd.beg m0) (O:=O)
  have hip:IsP ms (Wd.beg m0):=⟨m0,hm0m,.inl rfl⟩
  refine ⟨_,(pss_cons (ps_if (PW.pt (pw_or (pt_not (pt_val (pe_cal C_is_tree hr passX (pa_cons (pv 0) (pa_cons (pe_cal C_begin_of hr pass1 (pa_cons (pe_ix ix_tup (pe_fld (pv 0) rfl) pe_int (fun _ _=>rfl)) pa_nil)) (pa_cons (pv 1) pa_nil)))))) (pw_or1 (pt_cmpR op_ne_I (pe_callB call_len_seq (by rfl) tt.b_len PySem.boot_len (pa_cons (pv 2) pa_nil)) (pe_callB call_len_seq (by rfl) tt.b_len PySem.boot_len (pa_cons (pe_cal C_pieces hr pass1 (pa_cons (pv 0) pa_nil)) pa_nil)) (nomark _))))) (pss_one (ps_ret pe_bl)) pss_nil)
   (pss_cons (ps_set (i:=3) sc_are_parts.nd rfl (Or.inr rfl) (pe_cal C_whole_orders hr pass1 (pa_cons (pv 0) (pa_cons (pv 1) (pa_cons (pv 2) pa_nil)))))
   (pss_one (ps_ret (pe_callB (call_allB rfl) (by rfl) tt.b_all PyProof.Rows.boot_all (pa_cons (pe_comp cs_are_parts_0 rfl (pi_dict (pv 3)) (fun cl C s' H' fp=>(pe_cmpR (op_eq_LTK K rfl hu) (pe_callB (call_sortedTK K rfl) (by rfl) tt.b_sorted PyProof.Rows.boot_sorted (pa_cons (pe_dget (hu_of hr) (pv 4) (pv 0) (fun _ _=>rfl)) pa_nil)) (pe_cal C_outs hr pass1 (pa_cons (pv 1) (pa_cons (pv 0) pa_nil))) (nomark _)))) pa_nil)))))),?_⟩
  (try rw [cxK2]);(try rw [cxK1])
  refine ⟨_,rfl,_,rfl,x,ad.Web,dx,_,_,rfl,hx,tt.cl_Web,tt.na_Web_words,flds_w _ _,tp,_,_,T m0,rfl,rfl,SqT.of htp,atI_nat (j:=0) (by rw [List.getElem?_map,h0];rfl),m0,rfl,⟨by omega,by omega⟩,_,rfl,x,tp,n,ms,Wd.beg m0,a,_,rfl,hW,hok,hA,⟨by omega,fun w hw'=>by have:=(hxs w (pt_words hw ho w hw')).1;omega⟩,fun z=>absurd hip z,fun _ ts b H1 hts s1 hb=>?_⟩
  obtain rfl:b=true:=hb.mpr (tree_in hw hP ho hc hts)
  refine ⟨_,rfl,iteF ?_⟩
  refine ⟨_,rfl,o,_,rfl,.inl (s1.seq hB),_,rfl,x,tp,n,ms,rfl,hW.on s1,hok,fun D3 ps' H3 hD3 s3 hd3 hp1 hp2 hp3=>?_⟩
  obtain rfl:ps'=ps:=hP.un1 ⟨hp1,hp2,hp3⟩
  have hbl:bs.length=ps'.length:=by have:=hO.len;rw [List.length_map] at this;exact this.symm
  refine ⟨D3,_,rfl,.inl (SqL.of hd3),_,rfl,_,rfl,_,rfl,iteNS (by rw [List.length_map,List.length_map,hbl]) ?_⟩
  have s13:=s1.trans s3
  refine ⟨_,rfl,_,rfl,_,rfl,x,tp,a,o,n,ms,ps',m0,O,rfl,hgv.on s13,fun D kvs H4 hD s4 hd hwa nv hf=>?_⟩
  have hDH:H D=none:=back_none31 s13 hD
  have s14:=s13.trans s4
  refine ⟨_,rfl,D,kvs,rfl,hd,fun ob=>?_⟩
  have hfr:upd H4 D (.frz ob (.dK kvs)) D=some (.frz ob (.dK kvs)):=upd_same
  have sF:Same H (upd H4 D (.frz ob (.dK kvs))):=fun b u e=>by rw [upd_ne (ne_of_none e hDH)];exact s14 b u e
  have hwF:WaysAt (upd H4 D (.frz ob (.dK kvs))) O ps' kvs:=hwa.updD hd
  generalize upd H4 D (.frz ob (.dK kvs))=HF at hfr sF hwF
  have hkl:=hwF.len
  refine compAtF.un (compf_dict (fun _=>true) (fun _=>V.bl true) hfr (by omega) (fun kv G hkv sg N hN=>hN G (Same.refl _)) (fun kv G hkv _ sg N hN=>?_) fun D5 H5 hD5 s5 hd5=>?_)
  ·obtain ⟨p,hp,e⟩:∃ p∈ps',kv.1=Sum.inr (tx p):=by
    have:kv.1∈kvs.map (·.1):=List.mem_map_of_mem hkv
    rw [hwF.keys] at this
    obtain ⟨p,h1,h2⟩:=List.mem_map.mp this
    exact ⟨p,h1,h2.symm⟩
   rw [e]
   obtain ⟨c,hc1,hc2⟩:=(hwF.mono sg).get hp
   have hlen:=whl_len hw p
   refine ⟨_,rfl,_,rfl,D,.ref c,rfl,.inl ⟨kvs,Sum.inr (tx p),.inr ⟨ob,sg D _ hfr⟩,rfl,hc1.symm⟩,c,O p,rfl,SqL.of hc2,by omega,fun ls D6 hD6 hl1 hl2=>?_⟩
   have t6:=same_upd (o:=.lst (ls.map T)) hD6
   have hd6:upd G D6 (.lst (ls.map T)) D6=some (.lst (ls.map T)):=upd_same
   generalize upd G D6 (.lst (ls.map T))=G6 at t6 hd6 ⊢
   refine ⟨_,rfl,_,rfl,x,tp,n,ms,p,rfl,hW.on (sF.trans (sg.trans t6)),hok,fun D7 G7 hD7 s7 hd7=>?_⟩
   have hls:ls=outL ms p:=Wd.sorted_same (hl1.trans (hw.1 p)) hl2 (hso.filter _)
   refine ⟨D6,D7,ls,outL ms p,rfl,rfl,SqL.of (s7 _ _ hd6),SqL.of hd7,?_⟩
   rw [decide_eq_true hls]
   exact hN G7 (t6.trans s7)
  have hd5':H5 D5=some (.lst ((kvs.map fun _=>true).map V.bl)):=by
   rw [hd5,List.map_map,List.filter_eq_self.mpr (fun _ _=>rfl),List.map_map]
   rfl
  refine ⟨D5,_,rfl,SqL.of hd5',?_⟩
  rw [show (kvs.map fun _=>true).all id=true by rw [List.all_map];exact List.all_eq_true.mpr fun _ _=>rfl]
  exact q H5 (sF.trans s5)
def spRingOf (K:PySem.W.Frag)(C:Addr):Sp:=fun vs H Q _=>∃ (x tp a o n:Nat) (ms ps:List (List Nat)) (m0:List Nat) (O:List Nat->List (List Nat)),vs=[.ref x,.ref a,.ref o]∧Given K C H x tp a o n ms ps m0 O∧(∃ us p,WayOf us ms p p)∧∀ H':Hp,Same H H'->Q (T (firstT (Wd.walkO ms.length O (Wd.beg m0)))) H'
theorem ok_ring_of {f:Addr}{fd:FuncData}(F:Fun K "ring_of" "ring_of" s_ring_of f fd)(tt:Txt K mg ad)(C_why_no_ring:Cal P w K mg base (CX1 P w) "why_no_ring" 5 ["web"] (spWhyR ad.Web))(C_are_parts:Cal P w K mg base (CX1 P w) "are_parts" 5 ["web", "tree", "orders"] (spAreP K ad.Web))(C_whole_orders:Cal P w K mg base (CX1 P w) "whole_orders" 3 ["web", "tree", "orders"] (spWholeO K ad.Web))(C_gone_round:Cal P w K mg base (CX1 P w) "gone_round" 2 ["web", "whole"] (spGoneR ad.Web)):FnOk P w K mg base (CX1 P w) 6 f fd ["web", "tree", "orders"] (spRingOf K ad.Web):=by
 refine F.okX sc_ring_of (fun vs H Q E h=>?_) (fun cdv A outer s H vs Q E hr h=>?_)
 ·obtain ⟨x,tp,a,o,n,ms,ps,m0,O,rfl,_⟩:=h
  rfl
 ·obtain ⟨x,tp,a,o,n,ms,ps,m0,O,rfl,hgv,⟨us,p,hway⟩,q⟩:=h
  obtain ⟨hW,hok,h0,hP,hw,ho,⟨hso,hc⟩,hA,bs,hB,hO⟩:=id hgv
  obtain ⟨hne,h60,⟨hn,_⟩,hxs,hnd⟩:=id hok
  refine ⟨_,(pss_cons (ps_set (i:=3) sc_ring_of.nd rfl (Or.inl rfl) (pe_cal C_why_no_ring hr pass1 (pa_cons (pv 0) pa_nil)))
   (pss_cons (ps_if (pt_cmp (pc_notN (pv 3))) (pss_one ps_false) pss_nil)
   (pss_cons (ps_if (pt_not (pt_val (pe_cal C_are_parts hr passX (pa_cons (pv 0) (pa_cons (pv 1) (pa_cons (pv 2) pa_nil)))))) (pss_one ps_false) pss_nil)
   (pss_one (ps_ret (pe_cal C_gone_round hr pass1 (pa_cons (pv 0) (pa_cons (pe_cal C_whole_orders hr pass1 (pa_cons (pv 0) (pa_cons (pv 1) (pa_cons (pv 2) pa_nil)))) pa_nil)))))))),?_⟩
  (try rw [cxK2]);(try rw [cxK1])
  refine ⟨_,rfl,x,tp,n,ms,rfl,hW,hok,fun ev r v H1 hpc hwy hv s1=>?_⟩
  obtain rfl:=whyR_none (show Tr p us p from hway.1) hway.2.symm hpc hwy
  obtain rfl:v = .non:=hv
  refine ⟨_,rfl,_,rfl,iteF ?_⟩
  refine ⟨_,rfl,_,rfl,_,rfl,x,tp,a,o,n,ms,ps,m0,O,rfl,hgv.on s1,fun H2 s2=>⟨_,rfl,iteF ?_⟩⟩
  have s12:=s1.trans s2
  refine ⟨_,rfl,_,rfl,_,rfl,_,rfl,x,tp,a,o,n,ms,ps,m0,O,rfl,hgv.on s12,fun D kvs H3 hD s3 hd hwa nv hf=>?_⟩
  have hwlen:∃ r,Wd.walkO ms.length O (Wd.beg m0)=m0::r∧(m0::r).Perm ms∧Hg.Tr Wd.beg Wd.fin (Wd.beg m0) (m0::r) (Wd.beg m0)∧Dt.og (m0::r)=O:=hw.ring (((Wd.tr_bal hway.1).perm hway.2).turn _) (fun w h=>hP.beg h) hc hne
  refine ⟨x,tp,D,n,ms,ps,m0,kvs,O,rfl,hW.on (s12.trans s3),hok,h0,hd,hwa,hP.2.1,nv,fun p hp=>?_,fun p=>⟨by have:=whl_len hw p;omega,fun y hy=>?_⟩,?_,fun H4 k4=>?_⟩
  ·refine List.eq_nil_iff_forall_not_mem.mpr fun y hy=>hp ?_
   obtain ⟨h1,h2⟩:=hw.mem.mp hy
   rw [<- h2]
   exact hP.beg h1
  ·have:=(hxs y (hw.mem.mp hy).1).1
   omega
  ·obtain ⟨r,h1,h2,_⟩:=hwlen
   rw [h1]
   exact h2.length_eq
  ·refine q H4 fun b u e=>?_
   have e2:=s12 b u e
   exact k4 b u (s3 b u e2) fun z=>by rw [hf b z] at e2;cases e2
theorem cutW_from {ls:List (List Nat)}{k:Nat}(h:k<=ls.length):cutV (ls.map T) (some (k:Int)) none=(ls.drop k).map T:=by
 unfold cutV
 rw [HT.sIx_nat,HT.sIx_none,List.length_map,Nat.min_eq_left h,<- List.map_drop,<- List.map_take,List.take_of_length_le (by rw [List.length_drop];omega)]
theorem cutW_to {ls:List (List Nat)}{k:Nat}(h:k<=ls.length):cutV (ls.map T) none (some (k:Int))=(ls.take k).map T:=by
 unfold cutV
 rw [HT.sIx_nat,HT.sIx_none,List.length_map,Nat.min_eq_left h,List.drop_zero,Nat.sub_zero,List.map_take]
theorem cutW_init {ls:List (List Nat)}:cutV (ls.map T) none (some (-1))=ls.dropLast.map T:=by
 unfold cutV
 rw [HT.sIx_none,List.drop_zero,Nat.sub_zero,List.length_map,List.dropLast_eq_take,List.map_take]
 show (ls.map T).take (if (-1:Int)<0 then ((-1:Int)+(ls.length:Int)).toNat else min (-1:Int).toNat ls.length)=_
 rw [if_pos (by decide),show ((-1:Int)+(ls.length:Int)).toNat=ls.length-1 by omega]
theorem atW_end {O:List Nat->List (List Nat)}{p:List Nat}(h:O p≠[]):atI ((O p).map T) (-1)=some (T (Wd.lsO O p)):=by
 conv=>lhs;rw [<- Wd.drop_last h,List.map_append]
 exact atI_last _ _
theorem firstT_hd {ws:List (List Nat)}(h:∀ w∈ws,1<=w.length):firstT ws=ws.map Wd.hd:=by
 unfold firstT
 induction ws with
 | nil=>rfl
 | cons w ws ih =>
  rw [List.map_cons,List.flatten_cons,ih fun y hy=>h y (List.mem_cons_of_mem _ hy),List.map_cons]
  cases w with
  | nil=>exact absurd (h [] (List.mem_cons_self ..)) (by decide)
  | cons c w=>rfl
theorem ptT_snoc {h p:List Nat}{O:List Nat->List (List Nat)}{qs:List (List Nat)}:Wd.ptT h O (qs++[p])=if p=h then Wd.ptT h O qs else Wd.ptT h O qs++[Wd.lsO O p]:=by
 unfold Wd.ptT
 rw [List.filter_append,List.map_append]
 by_cases e:p=h
 ·rw [if_pos e,List.filter_cons,if_neg (fun z=>(of_decide_eq_true z:p≠h) e)]
  exact List.append_nil _
 ·rw [if_neg e,List.filter_cons,if_pos (decide_eq_true e)]
  rfl
def PInv (H G:Hp)(a o:Addr)(h:List Nat)(O:List Nat->List (List Nat))(qs:List (List Nat))(bs:List Addr):Prop :=
 (∀ b u,b≠a->b≠o->H b=some u->G b=some u)∧G a=some (.lst ((Wd.ptT h O qs).map T))∧G o=some (.lst (bs.map V.ref))∧Dt.R2 (fun f b=>G b=some (.tup (f.map T))) (qs.map (Wd.ptO h O)) bs
theorem PInv.next {H G G':Hp}{a o c:Addr}{h p:List Nat}{O:List Nat->List (List Nat)}{qs:List (List Nat)}{bs:List Addr}(I:PInv H G a o h O qs bs)(k:∀ b u,b≠a->b≠o->G b=some u->G' b=some u)(h1:G' a=some (.lst ((Wd.ptT h O (qs++[p])).map T)))(h2:G' o=some (.lst (bs.map V.ref++[V.ref c])))(h3:G' c=some (.tup ((Wd.ptO h O p).map T))):PInv H G' a o h O (qs++[p]) (bs++[c]):=by
 obtain ⟨i1,i2,i3,i4⟩:=I
 refine ⟨fun b u n1 n2 e=>k b u n1 n2 (i1 b u n1 n2 e),h1,?_,?_⟩
 ·rw [h2,List.map_append]
  rfl
 ·rw [List.map_append]
  refine Dt.R2.snoc (i4.mono fun f b _ e=>k b _ (fun z=>?_) (fun z=>?_) e) h3
  ·rw [z,i2] at e;cases e
  ·rw [z,i3] at e;cases e
def PtAt (H:Hp)(q a o:Addr)(us:List (List Nat))(fs:List (List (List Nat)))(bs:List Addr):Prop:=H q=some (.tup [.ref a,.ref o])∧H a=some (.lst (us.map T))∧H o=some (.lst (bs.map V.ref))∧Dt.R2 (fun f b=>H b=some (.tup (f.map T))) fs bs
theorem PtAt.on {H H':Hp}{q a o:Addr}{us:List (List Nat)}{fs:List (List (List Nat))}{bs:List Addr}(h:PtAt H q a o us fs bs)(s:Same H H'):PtAt H' q a o us fs bs:=⟨s _ _ h.1,s _ _ h.2.1,s _ _ h.2.2.1,h.2.2.2.mono fun f b _ e=>s _ _ e⟩
def Rng (ms:List (List Nat))(m0:List Nat)(R:List (List Nat)):Prop:=(∃ r,R=m0::r)∧R.Perm ms∧Hg.Tr Wd.beg Wd.fin (Wd.beg m0) R (Wd.beg m0)
theorem Rng.out {ms R ps:List (List Nat)}{m0:List Nat}(h:Rng ms m0 R)(hP:Pcs ms ps):∀ p∈ps,Dt.og R p≠[]:=fun p hp=>by
 obtain ⟨⟨r,rfl⟩,hp2,ht⟩:=h
 obtain ⟨w,hw,e⟩:=(hP.2.2 p).mp hp
 exact Wd.out_ring ht (List.mem_cons_self ..) (hp2.mem_iff.mpr hw) e
theorem Rng.win {ms R:List (List Nat)}{m0:List Nat}{n:Nat}(h:Rng ms m0 R)(hok:WebOk ms n):Wd.ringW (firstT R) n=R∧(firstT R).length=ms.length:=by
 have hl:∀ w∈R,w.length=n:=fun w hw=>(hok.2.2.2.1 w (h.2.1.mem_iff.mp hw)).1
 have hn:=hok.2.2.1.1.1
 rw [firstT_hd fun w hw=>by rw [hl w hw];exact hn]
 exact ⟨Wd.ring_tr hn hl h.2.2,by rw [List.length_map];exact h.2.1.length_eq⟩
def spParts (C:Addr):Sp:=fun vs H Q _=>∃ (x tp n:Nat) (ms ps R:List (List Nat)) (m0:List Nat),vs=[.ref x,T (firstT R)]∧WebAt C H x tp n ms∧WebOk ms n∧ms.Pairwise (fun a b=>¬ b<a)∧ms[0]?=some m0∧Pcs ms ps∧Rng ms m0 R ∧
 ∀ (q a o:Addr) (bs:List Addr) (H':Hp),H a=none->H o=none->a≠o->Same H H'->PtAt H' q a o (Wd.ptT (Wd.beg m0) (Dt.og R) ps) (ps.map (Wd.ptO (Wd.beg m0) (Dt.og R))) bs->Q (.ref q) H'
theorem ok_parts_of {f:Addr}{fd:FuncData}(F:Fun K "parts_of" "parts_of" s_parts_of f fd)(tt:Txt K mg ad)(C_is_ring:Cal P w K mg base (CX1 P w) "is_ring" 4 ["web", "text"] (spIsRing ad.Web))(C_windows:Cal P w K mg base (CX1 P w) "windows" 2 ["text", "length", "ring"] spWin)(C_by_begin:Cal P w K mg base (CX1 P w) "by_begin" 2 ["words"] (spByB K))(C_pieces:Cal P w K mg base (CX1 P w) "pieces" 2 ["web"] (spPieces ad.Web))(C_begin_of:Cal P w K mg base (CX1 P w) "begin_of" 1 ["word"] spBegin):FnOk P w K mg base (CX1 P w) 5 f fd ["web", "ring"] (spParts ad.Web):=by
 refine F.okX sc_parts_of (fun vs H Q E h=>?_) (fun cdv A outer s H vs Q E hr h=>?_)
 ·obtain ⟨x,tp,n,ms,ps,R,m0,rfl,_⟩:=h
  rfl
 ·obtain ⟨x,tp,n,ms,ps,R,m0,rfl,hW,hok,hso,h0,hP,hR,q⟩:=h
  have hs:sizeLine=16777216:=sizeLine_eq
  obtain ⟨hne,h60,⟨hn,_⟩,hxs,hnd⟩:=id hok
  have hm0:=hxs m0 (List.mem_of_getElem? h0)
  have hps:=hP.few hok
  obtain ⟨hwin,hwl⟩:=hR.win hok
  have hpos:0<ms.length:=List.length_pos_iff.mpr hne
  have hw:=Wd.whl_ring hR.2.1 hR.1.choose_spec
  have ho:=hR.out hP
  refine ⟨_,(pss_cons (ps_if (pt_not (pt_val (pe_cal C_is_ring hr pass1 (pa_cons (pv 0) (pa_cons (pv 1) pa_nil))))) (pss_one ps_false) pss_nil)
   (pss_cons (ps_set (i:=2) sc_parts_of.nd rfl (Or.inl rfl) (pe_cal C_by_begin hr pass1 (pa_cons (pe_cal C_windows hr pass1 (pa_cons (pv 1) (pa_cons (pe_fld (pv 0) rfl) (pa_cons pe_bl pa_nil)))) pa_nil)))
   (pss_cons (ps_set (i:=3) sc_parts_of.nd rfl (Or.inl rfl) (pe_cal C_begin_of hr pass1 (pa_cons (pe_ix ix_tup (pe_fld (pv 0) rfl) pe_int (fun _ _=>rfl)) pa_nil)))
   (pss_cons (ps_set (i:=4) sc_parts_of.nd rfl (Or.inl rfl) (pe_lst pa_nil))
   (pss_cons (ps_set (i:=5) sc_parts_of.nd rfl (Or.inl rfl) (pe_lst pa_nil))
   (pss_cons (ps_for PassesOwn.leaving rfl (pi_list (pe_cal C_pieces hr pass1 (pa_cons (pv 0) pa_nil))) (pg_name (i:=6) sc_parts_of.nd rfl (Or.inl rfl)) (pss_one (ps_if (pt_cmpR op_eq_T (pv 6) (pv 3) (nomark _)) (pss_one (ps_expr (pe_bm PySem.F.plainAttrs_list PySem.F.slot_list_append PySem.F.type_list_append mt_append (pv 5) (pa_cons (pe_callTy call_tuple_of (by rfl) tt.b_tuple (by decide +kernel) (pa_cons (pe_slice sl_list (pe_dget (hu_of hr) (pv 2) (pv 6) (fun _ _=>rfl)) (po_some pe_int) po_none) pa_nil)) pa_nil)))) (pss_cons (ps_expr (pe_bm PySem.F.plainAttrs_list PySem.F.slot_list_append PySem.F.type_list_append mt_append (pv 5) (pa_cons (pe_callTy call_tuple_of (by rfl) tt.b_tuple (by decide +kernel) (pa_cons (pe_slice sl_list (pe_dget (hu_of hr) (pv 2) (pv 6) (fun _ _=>rfl)) po_none (po_some (pe_un un_neg pe_int))) pa_nil)) pa_nil)))
   (pss_one (ps_expr (pe_bm PySem.F.plainAttrs_list PySem.F.slot_list_append PySem.F.type_list_append mt_append (pv 4) (pa_cons (pe_ix ix_list (pe_dget (hu_of hr) (pv 2) (pv 6) (fun _ _=>rfl)) (pe_un un_neg pe_int) (fun _ _=>rfl)) pa_nil))))))))
   (pss_one (ps_ret (pe_tup (pa_cons (pv 4) (pa_cons (pv 5) pa_nil))))))))))),?_⟩
  (try rw [cxK2]);(try rw [cxK1])
  refine ⟨_,rfl,_,rfl,x,tp,firstT R,m0,n,ms,rfl,hW,hso,⟨by omega,by omega,by omega⟩,h0,fun b H1 s1 hb=>?_⟩
  obtain rfl:b=true:=hb.mpr ⟨by unfold RingOf;rw [hwin];exact hR.2.1,by
   have h1:=Wd.ringW_get (t:=firstT R) (n:=n) (i:=0) (by omega)
   obtain ⟨r,hr'⟩:=hR.1
   rw [hwin] at h1
   conv at h1=>lhs;rw [hr']
   exact (Option.some.inj h1).symm⟩
  refine ⟨_,rfl,iteF ?_⟩
  obtain ⟨⟨dx,hx⟩,htp⟩:=hW.on s1
  refine ⟨_,rfl,_,rfl,x,ad.Web,dx,_,_,rfl,hx,tt.cl_Web,tt.na_Web_length,flds_l _ _,firstT R,n,true,rfl,⟨by omega,by omega,by omega⟩,fun D2 H2 hD2 s2 hd2=>?_⟩
  rw [show Wd.win (firstT R) n true=R from hwin] at hd2
  refine ⟨D2,R,rfl,.inl (SqL.of hd2),⟨by rw [hR.2.1.length_eq];omega,fun y hy=>by have:=(hxs y (hR.2.1.mem_iff.mp hy)).1;omega⟩,fun D3 kvs ts H3 hD3 s3 hd3 hwa hn3 hm3=>?_⟩
  have s23:=s2.trans s3
  refine ⟨_,rfl,x,ad.Web,dx,_,_,rfl,s23 _ _ hx,tt.cl_Web,tt.na_Web_words,flds_w _ _,tp,_,_,T m0,rfl,rfl,SqT.of (s23 _ _ htp),atI_nat (j:=0) (by rw [List.getElem?_map,h0];rfl),m0,rfl,⟨by omega,by omega⟩,?_⟩
  refine ⟨(by show 0<=sizeLine;omega),fun a ha=>?_⟩
  have ta:=same_upd (o:=.lst []) ha
  have hav:upd H3 a (.lst []) a=some (.lst []):=upd_same
  have haH:H a=none:=back_none31 (s1.trans s23) ha
  generalize upd H3 a (.lst [])=Ha at ta hav ⊢
  refine ⟨(by show 0<=sizeLine;omega),fun o hoo=>?_⟩
  have to:=same_upd (o:=.lst []) hoo
  have hov:upd Ha o (.lst []) o=some (.lst []):=upd_same
  have hoH:H o=none:=back_none31 ((s1.trans s23).trans ta) hoo
  have hao:a≠o:=fun z=>by rw [z,hoo] at hav;cases hav
  generalize upd Ha o (.lst [])=Ho at to hov ⊢
  have s3o:=ta.trans to
  have s1o:=(s1.trans s23).trans s3o
  refine ⟨_,rfl,x,tp,n,ms,rfl,hW.on s1o,hok,fun D4 ps' H4 hD4 s4 hd4 hp1 hp2 hp3=>?_⟩
  obtain rfl:ps'=ps:=hP.un1 ⟨hp1,hp2,hp3⟩
  have hd4a:D4≠a:=fun z=>by rw [z,to _ _ hav] at hD4;cases hD4
  have hd4o:D4≠o:=fun z=>by rw [z,hov] at hD4;cases hD4
  have hd3a:D3≠a:=fun z=>by rw [z,ha] at hd3;cases hd3
  have hd34:=(s3o.trans s4) _ _ hd3
  have hd3o:D3≠o:=fun z=>by rw [z,s4 _ _ hov] at hd34;cases hd34
  have hwa4:=hwa.mono (s3o.trans s4)
  have sH4:=s1o.trans s4
  refine ⟨D4,rfl,⟨_,SqL.of hd4⟩,?_⟩
  refine for_list (K:=K) (a:=D4) (xs:=ps'.map T) (fun i σ G=>∃ (bs:List Addr) (v6:Option V),PInv H4 G a o (Wd.beg m0) (Dt.og R) (ps'.take i) bs∧bs.length=i∧σ=[some (.ref x),some (T (firstT R)),some (.ref D3),some (T (Wd.beg m0)),some (.ref a),some (.ref o),v6])
   ⟨[],none,⟨fun b u _ _ e=>e,s4 _ _ (to _ _ hav),s4 _ _ hov,.nil⟩,rfl,rfl⟩ (fun i σ G _ h=>by obtain ⟨bs,v6,I,_⟩:=h;exact SqL.of (I.1 _ _ hd4a hd4o hd4)) ?_ ?_
  ·rintro i y σ G hy ⟨bs,v6,I,hbl,rfl⟩
   obtain ⟨p,hp,rfl⟩:∃ p,ps'[i]?=some p∧T p=y:=by rw [List.getElem?_map] at hy;exact Option.map_eq_some_iff.mp hy
   have hpm:=List.mem_of_getElem? hp
   have hil:=(List.getElem?_eq_some_iff.mp hp).1
   have htk:ps'.take (i+1)=ps'.take i++[p]:=by rw [List.take_add_one,hp];rfl
   have hpo:=ho p hpm
   have hpts:p∈ts:=by
    obtain ⟨w,hw'⟩:=List.exists_mem_of_ne_nil _ hpo
    obtain ⟨h1,h2⟩:=List.mem_filter.mp hw'
    exact (hm3 p).mpr ⟨w,h1,of_decide_eq_true h2⟩
   obtain ⟨c,hc1,hc2⟩:=hwa4.get hpts
   have hlen:(Dt.og R p).length<=60:=Nat.le_trans (whl_len hw p) h60
   have hco:c≠o:=fun z=>by
    obtain ⟨b',e1,e2⟩:=hwa.get hpts
    obtain rfl:b'=c:=by rw [e1] at hc1;exact V.ref.inj (Option.some.inj hc1)
    rw [z] at e2
    rw [ta _ _ e2] at hoo;cases hoo
   have hca:c≠a:=fun z=>by
    obtain ⟨b',e1,e2⟩:=hwa.get hpts
    obtain rfl:b'=c:=by rw [e1] at hc1;exact V.ref.inj (Option.some.inj hc1)
    rw [z,ha] at e2;cases e2
   have hdG:=I.1 _ _ hd3a hd3o hd34
   have hcG:=I.1 _ _ hca hco hc2
   obtain ⟨_,iA,iO,_⟩:=id I
   by_cases e:p=Wd.beg m0
   ·refine ⟨_,rfl,_,rfl,_,rfl,_,rfl,_,rfl,itP (decide_eq_true e) ?_⟩
    refine ⟨_,rfl,.inl ⟨rfl,_,SqL.of iO⟩,_,rfl,_,rfl,D3,.ref c,rfl,.inl ⟨kvs,Sum.inr (tx p),.inl hdG,rfl,hc1.symm⟩,_,rfl,c,_,rfl,SqL.of hcG,fun l hl=>?_⟩
    have t1:=same_upd (o:=.lst ((Wd.ptO (Wd.beg m0) (Dt.og R) p).map T)) hl
    rw [show cutV ((Dt.og R p).map T) (some 1) none=(Wd.ptO (Wd.beg m0) (Dt.og R) p).map T by unfold Wd.ptO;rw [if_pos e];exact cutW_from (k:=1) (List.length_pos_iff.mpr hpo)]
    have hlv:upd G l (.lst ((Wd.ptO (Wd.beg m0) (Dt.og R) p).map T)) l=some (.lst ((Wd.ptO (Wd.beg m0) (Dt.og R) p).map T)):=upd_same
    generalize upd G l (.lst ((Wd.ptO (Wd.beg m0) (Dt.og R) p).map T))=G1 at t1 hlv ⊢
    refine ⟨l,_,rfl,.inl ⟨SqL.of hlv,fun d hd=>?_⟩⟩
    have t2:=same_upd (o:=.tup ((Wd.ptO (Wd.beg m0) (Dt.og R) p).map T)) hd
    have hdv:upd G1 d (.tup ((Wd.ptO (Wd.beg m0) (Dt.og R) p).map T)) d=some (.tup ((Wd.ptO (Wd.beg m0) (Dt.og R) p).map T)):=upd_same
    generalize upd G1 d (.tup ((Wd.ptO (Wd.beg m0) (Dt.og R) p).map T))=G2 at t2 hdv ⊢
    have t12:=t1.trans t2
    have hdo:d≠o:=fun z=>by rw [z,t12 _ _ iO] at hdv;cases hdv
    refine ⟨o,_,_,rfl,rfl,t12 _ _ iO,(by rw [List.length_map];omega),?_⟩
    refine ⟨bs++[d],_,by rw [htk];exact I.next (p:=p) (c:=d) (fun b u n1 n2 e'=>by rw [upd_ne n2];exact t12 _ _ e') (by rw [upd_ne hao,t12 _ _ iA,ptT_snoc,if_pos e]) upd_same (by rw [upd_ne hdo];exact hdv),by rw [List.length_append,hbl];rfl,rfl⟩
   ·refine ⟨_,rfl,_,rfl,_,rfl,_,rfl,_,rfl,itN (by rw [decide_eq_false e];exact Bool.false_ne_true) ?_⟩
    refine ⟨_,rfl,.inl ⟨rfl,_,SqL.of iO⟩,_,rfl,_,rfl,D3,.ref c,rfl,.inl ⟨kvs,Sum.inr (tx p),.inl hdG,rfl,hc1.symm⟩,_,rfl,_,rfl,c,_,rfl,SqL.of hcG,fun l hl=>?_⟩
    have t1:=same_upd (o:=.lst ((Wd.ptO (Wd.beg m0) (Dt.og R) p).map T)) hl
    rw [show cutV ((Dt.og R p).map T) none (some (-1))=(Wd.ptO (Wd.beg m0) (Dt.og R) p).map T by unfold Wd.ptO;rw [if_neg e];exact cutW_init]
    have hlv:upd G l (.lst ((Wd.ptO (Wd.beg m0) (Dt.og R) p).map T)) l=some (.lst ((Wd.ptO (Wd.beg m0) (Dt.og R) p).map T)):=upd_same
    generalize upd G l (.lst ((Wd.ptO (Wd.beg m0) (Dt.og R) p).map T))=G1 at t1 hlv ⊢
    refine ⟨l,_,rfl,.inl ⟨SqL.of hlv,fun d hd=>?_⟩⟩
    have t2:=same_upd (o:=.tup ((Wd.ptO (Wd.beg m0) (Dt.og R) p).map T)) hd
    have hdv:upd G1 d (.tup ((Wd.ptO (Wd.beg m0) (Dt.og R) p).map T)) d=some (.tup ((Wd.ptO (Wd.beg m0) (Dt.og R) p).map T)):=upd_same
    generalize upd G1 d (.tup ((Wd.ptO (Wd.beg m0) (Dt.og R) p).map T))=G2 at t2 hdv ⊢
    have t12:=t1.trans t2
    have hdo:d≠o:=fun z=>by rw [z,t12 _ _ iO] at hdv;cases hdv
    have hda:d≠a:=fun z=>by rw [z,t12 _ _ iA] at hdv;cases hdv
    refine ⟨o,_,_,rfl,rfl,t12 _ _ iO,(by rw [List.length_map];omega),?_⟩
    have hA2:upd G2 o (.lst (bs.map V.ref++[.ref d])) a=some (.lst ((Wd.ptT (Wd.beg m0) (Dt.og R) (ps'.take i)).map T)):=by rw [upd_ne hao];exact t12 _ _ iA
    have hO2:upd G2 o (.lst (bs.map V.ref++[.ref d])) o=some (.lst (bs.map V.ref++[.ref d])):=upd_same
    have hD2':upd G2 o (.lst (bs.map V.ref++[.ref d])) d=some (.tup ((Wd.ptO (Wd.beg m0) (Dt.og R) p).map T)):=by rw [upd_ne hdo];exact hdv
    have k2:∀ b u,b≠a->b≠o->G b=some u->upd G2 o (.lst (bs.map V.ref++[.ref d])) b=some u:=fun b u _ n2 e'=>by rw [upd_ne n2];exact t12 _ _ e'
    generalize upd G2 o (.lst (bs.map V.ref++[.ref d]))=G3 at hA2 hO2 hD2' k2 ⊢
    have hptl:=pt_len (ps:=ps'.take i) (h:=Wd.beg m0) (O:=Dt.og R)
    rw [List.length_take] at hptl
    refine ⟨_,rfl,.inl ⟨rfl,_,SqL.of hA2⟩,_,rfl,_,rfl,D3,.ref c,rfl,.inl ⟨kvs,Sum.inr (tx p),.inl (k2 _ _ hd3a hd3o hdG),rfl,hc1.symm⟩,_,rfl,c,_,_,_,rfl,rfl,SqL.of (k2 _ _ hca hco hcG),atW_end hpo,a,_,_,rfl,rfl,hA2,(by rw [List.length_map];omega),?_⟩
    refine ⟨bs++[d],_,by rw [htk];exact I.next (p:=p) (c:=d) (fun b u n1 n2 e'=>by rw [upd_ne n1];exact k2 b u n1 n2 e') (by rw [upd_same,ptT_snoc,if_neg e,List.map_append];rfl) (by rw [upd_ne hao.symm];exact hO2) (by rw [upd_ne hda];exact hD2'),by rw [List.length_append,hbl];rfl,rfl⟩
  ·rintro σ G ⟨bs,v6,I,hbl,rfl⟩
   rw [List.length_map,List.take_length] at I
   obtain ⟨i1,iA,iO,iR⟩:=id I
   refine ⟨_,rfl,_,rfl,(by show 2<=sizeLine;omega),fun qq hq=>?_⟩
   have t9:=same_upd (o:=.tup [.ref a,.ref o]) hq
   refine q qq a o bs _ haH hoH hao (fun b u e'=>?_) ⟨upd_same,t9 _ _ iA,t9 _ _ iO,iR.mono fun f b _ e'=>t9 _ _ e'⟩
   exact t9 _ _ (i1 b u (ne_of_none e' haH) (ne_of_none e' hoH) (sH4 b u e'))
theorem Rng.pcs {ms R ps ts:List (List Nat)}{m0:List Nat}(h:Rng ms m0 R)(hm:∀ t,t∈ts↔∃ x∈R,beg x=t)(hn:ts.Nodup)(hp:ps.Perm ts)(hs:ps.Pairwise (fun a b=>¬ b<a)):Pcs ms ps:=⟨hs,hp.nodup_iff.mpr hn,fun z=>by
 rw [hp.mem_iff,hm]
 obtain ⟨⟨r,rfl⟩,hp2,ht⟩:=h
 constructor
 ·rintro ⟨w,h1,rfl⟩
  exact ⟨w,hp2.mem_iff.mp h1,.inl rfl⟩
 ·rintro ⟨w,hw,e⟩
  obtain ⟨v,hv⟩:=List.exists_mem_of_ne_nil _ (Wd.out_ring ht (List.mem_cons_self ..) (hp2.mem_iff.mpr hw) e)
  obtain ⟨h1,h2⟩:=List.mem_filter.mp hv
  exact ⟨v,h1,of_decide_eq_true h2⟩⟩
def spDue (K:PySem.W.Frag):Sp:=fun vs H Q _=>∃ (d n:Nat) (ms R:List (List Nat)) (m0:List Nat),vs=[.ref d]∧H d=some (.lst (R.map T))∧WebOk ms n∧Rng ms m0 R ∧
 ∀ (ps:List (List Nat)) (q a o:Addr) (bs:List Addr) (H':Hp),Pcs ms ps->Same H H'->PtAt H' q a o (Wd.ptT (Wd.beg m0) (Dt.og R) ps) (ps.map (Wd.ptO (Wd.beg m0) (Dt.og R))) bs->Q (.ref q) H'
theorem ok__law_due {f:Addr}{fd:FuncData}(F:Fun K "_law_due" "_law_due" s__law_due f fd)(tt:Txt K mg ad):FnOk P w K mg base (CX1 P w) 1 f fd ["order"] (spDue K):=by
 refine F.okN sc__law_due (fun vs H Q E h=>?_) (fun cdv A outer s H vs Q E hr h=>?_)
 ·obtain ⟨d,n,ms,R,m0,rfl,_⟩:=h
  rfl
 ·obtain ⟨dR,n,ms,R,m0,rfl,hdR,hok,hR,q⟩:=h
  have hs:sizeLine=16777216:=sizeLine_eq
  obtain ⟨hne,h60,⟨hn,_⟩,hxs,hnd⟩:=id hok
  obtain ⟨⟨r0,hr0⟩,hRp,hRt⟩:=id hR
  have hm0R:m0∈R:=by rw [hr0];exact List.mem_cons_self ..
  have hm0:=hxs m0 (hRp.mem_iff.mp hm0R)
  have hRl:=hRp.length_eq
  have hRx:∀ y∈R,y.length=n:=fun y hy=>(hxs y (hRp.mem_iff.mp hy)).1
  have hw:=Wd.whl_ring hRp hr0
  refine ⟨_,(pss_cons (ps_set (i:=1) sc__law_due.nd rfl (Or.inl rfl) (pe_ix ix_list (pv 0) pe_int (fun _ _=>rfl)))
   (pss_cons (ps_set (i:=2) sc__law_due.nd rfl (Or.inl rfl) pe_dnewK)
   (pss_cons (ps_for PassesOwn.never rfl (pi_list (pv 0)) (pg_name (i:=3) sc__law_due.nd rfl (Or.inl rfl)) (pss_one (ps_dput (hu_of hr) (pv 2) (pe_slice sl_T (pv 3) po_none (po_some (pe_un un_neg pe_int))) (pe_op op_catL (pe_dget2 (hu_of hr) (pv 2) (pe_slice sl_T (pv 3) po_none (po_some (pe_un un_neg pe_int))) (pe_lst pa_nil) ⟨rfl,rfl,rfl,rfl⟩) (pe_lst (pa_cons (pv 3) pa_nil))) rfl)))
   (pss_cons (ps_set (i:=4) sc__law_due.nd rfl (Or.inl rfl) (pe_lst pa_nil))
   (pss_cons (ps_set (i:=5) sc__law_due.nd rfl (Or.inl rfl) (pe_lst pa_nil))
   (pss_cons (ps_for PassesOwn.never rfl (pi_list (pe_callB (call_sortedDS rfl) (by rfl) tt.b_sorted PyProof.Rows.boot_sorted (pa_cons (pv 2) pa_nil))) (pg_name (i:=6) sc__law_due.nd rfl (Or.inl rfl)) (pss_one (ps_if (pt_cmpR op_eq_T (pv 6) (pe_slice sl_T (pv 1) po_none (po_some (pe_un un_neg pe_int))) (nomark _)) (pss_one (ps_expr (pe_bm PySem.F.plainAttrs_list PySem.F.slot_list_append PySem.F.type_list_append mt_append (pv 5) (pa_cons (pe_callTy call_tuple_of (by rfl) tt.b_tuple (by decide +kernel) (pa_cons (pe_slice sl_list (pe_dget (hu_of hr) (pv 2) (pv 6) (fun _ _=>rfl)) (po_some pe_int) po_none) pa_nil)) pa_nil)))) (pss_cons (ps_expr (pe_bm PySem.F.plainAttrs_list PySem.F.slot_list_append PySem.F.type_list_append mt_append (pv 4) (pa_cons (pe_ix ix_list (pe_dget (hu_of hr) (pv 2) (pv 6) (fun _ _=>rfl)) (pe_un un_neg pe_int) (fun _ _=>rfl)) pa_nil)))
   (pss_one (ps_expr (pe_bm PySem.F.plainAttrs_list PySem.F.slot_list_append PySem.F.type_list_append mt_append (pv 5) (pa_cons (pe_callTy call_tuple_of (by rfl) tt.b_tuple (by decide +kernel) (pa_cons (pe_slice sl_list (pe_dget (hu_of hr) (pv 2) (pv 6) (fun _ _=>rfl)) po_none (po_some (pe_un un_neg pe_int))) pa_nil)) pa_nil))))))))
   (pss_one (ps_ret (pe_tup (pa_cons (pv 4) (pa_cons (pv 5) pa_nil))))))))))),?_⟩
  (try rw [cxK2]);(try rw [cxK1])
  refine ⟨_,rfl,dR,_,_,_,rfl,rfl,SqL.of hdR,atI_nat (j:=0) (v:=T m0) (by rw [hr0];rfl),?_⟩
  refine fun D hD=>?_
  have sD:=same_upd (o:=.dK []) hD
  have hDv:upd H D (.dK []) D=some (.dK []):=upd_same
  have hDR:dR≠D:=ne_of_none hdR hD
  generalize upd H D (.dK [])=HD at sD hDv ⊢
  refine ⟨_,rfl,dR,rfl,⟨_,SqL.of (sD _ _ hdR)⟩,?_⟩
  refine for_list (K:=K) (a:=dR) (xs:=R.map T) (fun i σ G=>Same H G∧∃ (kvs:List (Key×V)) (ts:List (List Nat)) (v3:Option V),G D=some (.dK kvs)∧WaysAt G (Dt.og (R.take i)) ts kvs∧ts.Nodup∧ts.length<=i∧(∀ t,t∈ts↔∃ x∈R.take i,beg x=t)∧σ=[some (.ref dR),some (T m0),some (.ref D),v3,none,none,none])
   ⟨sD,[],[],none,hDv,.nil,List.nodup_nil,Nat.le_refl _,fun t=>⟨fun h=>(nomatch h),fun ⟨x,h,_⟩=>by rw [List.take_zero] at h;cases h⟩,rfl⟩ (fun i σ G _ h=>SqL.of (h.1 _ _ hdR)) ?_ ?_
  ·rintro i y σ G hy ⟨sG,kvs,ts,v3,hd,hwa,nd,hlt,hm,rfl⟩
   obtain ⟨x,hxi,rfl⟩:∃ x,R[i]?=some x∧T x=y:=by rw [List.getElem?_map] at hy;exact Option.map_eq_some_iff.mp hy
   have hil:=(List.getElem?_eq_some_iff.mp hxi).1
   have hxn:=hRx x (List.mem_of_getElem? hxi)
   have htk:R.take (i+1)=R.take i++[x]:=by rw [List.take_add_one,hxi];rfl
   refine ⟨_,rfl,D,rfl,.inl ⟨_,.inl hd⟩,_,rfl,_,rfl,_,rfl,_,rfl,(by omega),?_⟩
   rw [show -(1:Int) = -1 from rfl,cut_begin (t:=x) (by omega)]
   refine ⟨(by show 0<=sizeLine;omega),fun e he=>?_⟩
   have t1:=same_upd (o:=.lst []) he
   have hev:upd G e (.lst []) e=some (.lst []):=upd_same
   generalize upd G e (.lst [])=G1 at t1 hev ⊢
   obtain ⟨c,hc1,hc2⟩:∃ c,(valV kvs (Sum.inr (tx (beg x)))).getD (.ref e) = .ref c∧G1 c=some (.lst ((Dt.og (R.take i) (beg x)).map T)):=by
    by_cases ht:beg x∈ts
    ·obtain ⟨c,h1,h2⟩:=hwa.get ht
     rw [h1]
     exact ⟨c,rfl,t1 _ _ h2⟩
    ·rw [valV_ways hwa ht]
     refine ⟨e,rfl,?_⟩
     rw [hev,show Dt.og (R.take i) (beg x)=[] from List.filter_eq_nil_iff.mpr fun u hu z=>ht ((hm _).mpr ⟨u,hu,of_decide_eq_true z⟩)]
     rfl
   refine ⟨_,.inl ⟨_,Sum.inr (tx (beg x)),.inl (t1 _ _ hd),rfl,rfl⟩,?_⟩
   rw [hc1]
   refine ⟨_,rfl,(by show 1<=sizeLine;omega),fun l hl=>?_⟩
   have t2:=same_upd (o:=.lst [T x]) hl
   have hlv:upd G1 l (.lst [T x]) l=some (.lst [T x]):=upd_same
   generalize upd G1 l (.lst [T x])=G2 at t2 hlv ⊢
   have hgl:(Dt.og (R.take i) (beg x)).length<=60:=Nat.le_trans (List.length_filter_le ..) (by rw [List.length_take];omega)
   refine ⟨c,l,_,_,rfl,rfl,SqL.of (t2 _ _ hc2),SqL.of hlv,(by rw [List.length_map];show _+1<=_;omega),fun d hd'=>?_⟩
   rw [show (Dt.og (R.take i) (beg x)).map T++[T x]=(Dt.og (R.take (i+1)) (beg x)).map T by rw [htk,og_snoc,if_pos rfl,List.map_append];rfl]
   have t3:=same_upd (o:=.lst ((Dt.og (R.take (i+1)) (beg x)).map T)) hd'
   have hdv:upd G2 d (.lst ((Dt.og (R.take (i+1)) (beg x)).map T)) d=some (.lst ((Dt.og (R.take (i+1)) (beg x)).map T)):=upd_same
   generalize upd G2 d (.lst ((Dt.og (R.take (i+1)) (beg x)).map T))=G3 at t3 hdv ⊢
   have t13:=t1.trans (t2.trans t3)
   have hd3:=t13 _ _ hd
   refine ⟨_,rfl,_,rfl,_,rfl,_,rfl,_,rfl,(by omega),?_⟩
   rw [show -(1:Int) = -1 from rfl,cut_begin (t:=x) (by omega)]
   refine ⟨D,_,rfl,.inl ⟨kvs,Sum.inr (tx (beg x)),hd3,rfl,by rw [hwa.len];omega,rfl⟩,?_⟩
   have hw3:WaysAt G3 (Dt.og (R.take i)) ts kvs:=hwa.mono t13
   have hm2:∀ t,(∃ y∈R.take (i+1),beg y=t)↔(∃ y∈R.take i,beg y=t)∨t=beg x:=fun t=>by
    rw [htk]
    constructor
    ·rintro ⟨y,h1,h2⟩
     rcases List.mem_append.mp h1 with z | z
     ·exact .inl ⟨y,z,h2⟩
     ·rw [List.mem_singleton.mp z] at h2
      exact .inr h2.symm
    ·rintro (⟨y,h1,h2⟩ | h)
     ·exact ⟨y,List.mem_append_left _ h1,h2⟩
     ·exact ⟨x,List.mem_append_right _ (List.mem_singleton.mpr rfl),h.symm⟩
   have sG3:Same H (upd G3 D (.dK (putK kvs (Sum.inr (tx (beg x))) (.ref d)))):=fun b u e'=>by
    rw [upd_ne (ne_of_none e' hD)]
    exact t13 _ _ (sG b u e')
   by_cases hol:beg x∈ts
   ·refine ⟨sG3,_,ts,_,upd_same,?_,nd,by omega,fun t=>?_,rfl⟩
    ·refine ((hw3.repl nd hol hdv).updD hd3).cong fun t _=>?_
     rw [htk,og_snoc,og_snoc,if_pos rfl]
     by_cases z:t=beg x
     ·rw [if_pos z,if_pos z,z]
     ·rw [if_neg z,if_neg z]
    ·rw [hm2,hm]
     exact ⟨.inl,fun h=>h.elim id fun z=>z▸(hm _).mp hol⟩
   ·have hw4:WaysAt G3 (Dt.og (R.take (i+1))) ts kvs:=hw3.cong fun t ht=>by
     rw [htk,og_snoc,if_neg (fun (z:t=beg x)=>hol (by rw [<- z];exact ht))]
    refine ⟨sG3,_,ts++[beg x],_,upd_same,(hw4.put hol hdv).updD hd3,?_,by rw [List.length_append];show _+1<=_;omega,fun t=>?_,rfl⟩
    ·exact List.nodup_append.mpr ⟨nd,by simp,fun a' ha c' hc' z=>hol (by rw [<- List.mem_singleton.mp hc',<- z];exact ha)⟩
    ·rw [hm2,List.mem_append,hm,List.mem_singleton]
  ·rintro σ G ⟨sG,kvs,ts,v3,hd,hwa,nd,hlt,hm,rfl⟩
   rw [List.length_map,List.take_length] at hwa
   rw [List.length_map,List.take_length] at hm
   rw [List.length_map] at hlt
   refine ⟨(by show 0<=sizeLine;omega),fun a ha=>?_⟩
   have ta:=same_upd (o:=.lst []) ha
   have hav:upd G a (.lst []) a=some (.lst []):=upd_same
   have haH:H a=none:=back_none31 sG ha
   generalize upd G a (.lst [])=Ha at ta hav ⊢
   refine ⟨(by show 0<=sizeLine;omega),fun o hoo=>?_⟩
   have to:=same_upd (o:=.lst []) hoo
   have hov:upd Ha o (.lst []) o=some (.lst []):=upd_same
   have hoH:H o=none:=back_none31 (sG.trans ta) hoo
   have hao:a≠o:=fun z=>by rw [z,hoo] at hav;cases hav
   generalize upd Ha o (.lst [])=Ho at to hov ⊢
   have s3o:=ta.trans to
   refine ⟨_,rfl,D,ts,kvs,rfl,s3o _ _ hd,hwa.keys,by omega,fun ps' D4 hD4 hl1 hl2=>?_⟩
   have hP:Pcs ms ps':=hR.pcs hm nd hl1 hl2
   have hps:=hP.few hok
   have ho:=hR.out hP
   have hpt:=hl1
   have s4:=same_upd (o:=.lst (ps'.map T)) hD4
   have hd4:upd Ho D4 (.lst (ps'.map T)) D4=some (.lst (ps'.map T)):=upd_same
   generalize upd Ho D4 (.lst (ps'.map T))=H4 at s4 hd4 ⊢
   have hd4a:D4≠a:=fun z=>by rw [z,to _ _ hav] at hD4;cases hD4
   have hd4o:D4≠o:=fun z=>by rw [z,hov] at hD4;cases hD4
   have hd3a:D≠a:=fun z=>by rw [z,ha] at hd;cases hd
   have hd34:=(s3o.trans s4) _ _ hd
   have hd3o:D≠o:=fun z=>by rw [z,s4 _ _ hov] at hd34;cases hd34
   have hwa4:=hwa.mono (s3o.trans s4)
   have sH4:=sG.trans (s3o.trans s4)
   refine ⟨D4,rfl,⟨_,SqL.of hd4⟩,?_⟩
   refine for_list (K:=K) (a:=D4) (xs:=ps'.map T) (fun i σ G=>∃ (bs:List Addr) (v6:Option V),PInv H4 G a o (Wd.beg m0) (Dt.og R) (ps'.take i) bs∧bs.length=i∧σ=[some (.ref dR),some (T m0),some (.ref D),v3,some (.ref a),some (.ref o),v6])
    ⟨[],none,⟨fun b u _ _ e=>e,s4 _ _ (to _ _ hav),s4 _ _ hov,.nil⟩,rfl,rfl⟩ (fun i σ G _ h=>by obtain ⟨bs,v6,I,_⟩:=h;exact SqL.of (I.1 _ _ hd4a hd4o hd4)) ?_ ?_
   ·clear hwa
    rintro i y σ G' hy ⟨bs,v6,I,hbl,rfl⟩
    obtain ⟨p,hp,rfl⟩:∃ p,ps'[i]?=some p∧T p=y:=by rw [List.getElem?_map] at hy;exact Option.map_eq_some_iff.mp hy
    have hpm:=List.mem_of_getElem? hp
    have hil:=(List.getElem?_eq_some_iff.mp hp).1
    have htk:ps'.take (i+1)=ps'.take i++[p]:=by rw [List.take_add_one,hp];rfl
    have hpo:=ho p hpm
    have hpts:p∈ts:=hpt.mem_iff.mp hpm
    obtain ⟨c,hc1,hc2⟩:=hwa4.get hpts
    have hlen:(Dt.og R p).length<=60:=Nat.le_trans (whl_len hw p) h60
    have hlp:0<(Dt.og R p).length:=List.length_pos_iff.mpr hpo
    have hco:c≠o:=fun z=>by
     rw [z,s4 _ _ hov] at hc2
     have:=congrArg List.length (HO.lst.inj (Option.some.inj hc2))
     rw [List.length_map] at this
     rw [<- this] at hlp
     exact absurd hlp (by decide)
    have hca:c≠a:=fun z=>by
     rw [z,s4 _ _ (to _ _ hav)] at hc2
     have:=congrArg List.length (HO.lst.inj (Option.some.inj hc2))
     rw [List.length_map] at this
     rw [<- this] at hlp
     exact absurd hlp (by decide)
    have hdG:=I.1 _ _ hd3a hd3o hd34
    have hcG:=I.1 _ _ hca hco hc2
    obtain ⟨_,iA,iO,_⟩:=id I
    refine ⟨_,rfl,_,rfl,_,rfl,_,rfl,_,rfl,(by omega),?_⟩
    rw [show -(1:Int) = -1 from rfl,cut_begin (t:=m0) (by omega)]
    by_cases e:p=Wd.beg m0
    ·refine ⟨_,rfl,_,rfl,_,rfl,itP (decide_eq_true e) ?_⟩
     refine ⟨_,rfl,.inl ⟨rfl,_,SqL.of iO⟩,_,rfl,_,rfl,D,.ref c,rfl,.inl ⟨kvs,Sum.inr (tx p),.inl hdG,rfl,hc1.symm⟩,_,rfl,c,_,rfl,SqL.of hcG,fun l hl=>?_⟩
     have t1:=same_upd (o:=.lst ((Wd.ptO (Wd.beg m0) (Dt.og R) p).map T)) hl
     rw [show cutV ((Dt.og R p).map T) (some 1) none=(Wd.ptO (Wd.beg m0) (Dt.og R) p).map T by unfold Wd.ptO;rw [if_pos e];exact cutW_from (k:=1) (List.length_pos_iff.mpr hpo)]
     have hlv:upd G' l (.lst ((Wd.ptO (Wd.beg m0) (Dt.og R) p).map T)) l=some (.lst ((Wd.ptO (Wd.beg m0) (Dt.og R) p).map T)):=upd_same
     generalize upd G' l (.lst ((Wd.ptO (Wd.beg m0) (Dt.og R) p).map T))=G1 at t1 hlv ⊢
     refine ⟨l,_,rfl,.inl ⟨SqL.of hlv,fun d hd=>?_⟩⟩
     have t2:=same_upd (o:=.tup ((Wd.ptO (Wd.beg m0) (Dt.og R) p).map T)) hd
     have hdv:upd G1 d (.tup ((Wd.ptO (Wd.beg m0) (Dt.og R) p).map T)) d=some (.tup ((Wd.ptO (Wd.beg m0) (Dt.og R) p).map T)):=upd_same
     generalize upd G1 d (.tup ((Wd.ptO (Wd.beg m0) (Dt.og R) p).map T))=G2 at t2 hdv ⊢
     have t12:=t1.trans t2
     have hdo:d≠o:=fun z=>by rw [z,t12 _ _ iO] at hdv;cases hdv
     refine ⟨o,_,_,rfl,rfl,t12 _ _ iO,(by rw [List.length_map];omega),?_⟩
     refine ⟨bs++[d],_,by rw [htk];exact I.next (p:=p) (c:=d) (fun b u n1 n2 e'=>by rw [upd_ne n2];exact t12 _ _ e') (by rw [upd_ne hao,t12 _ _ iA,ptT_snoc,if_pos e]) upd_same (by rw [upd_ne hdo];exact hdv),by rw [List.length_append,hbl];rfl,rfl⟩
    ·refine ⟨_,rfl,_,rfl,_,rfl,itN (fun z=>e (of_decide_eq_true z)) ?_⟩
     have hptl:=pt_len (ps:=ps'.take i) (h:=Wd.beg m0) (O:=Dt.og R)
     rw [List.length_take] at hptl
     refine ⟨_,rfl,.inl ⟨rfl,_,SqL.of iA⟩,_,rfl,_,rfl,D,.ref c,rfl,.inl ⟨kvs,Sum.inr (tx p),.inl hdG,rfl,hc1.symm⟩,_,rfl,c,_,_,_,rfl,rfl,SqL.of hcG,atW_end hpo,a,_,_,rfl,rfl,iA,(by rw [List.length_map];omega),?_⟩
     have hA1:upd G' a (.lst ((Wd.ptT (Wd.beg m0) (Dt.og R) (ps'.take i)).map T++[T (Wd.lsO (Dt.og R) p)])) a=some (.lst ((Wd.ptT (Wd.beg m0) (Dt.og R) (ps'.take i++[p])).map T)):=by rw [upd_same,ptT_snoc,if_neg e,List.map_append];rfl
     have k1:∀ b u,b≠a->G' b=some u->upd G' a (.lst ((Wd.ptT (Wd.beg m0) (Dt.og R) (ps'.take i)).map T++[T (Wd.lsO (Dt.og R) p)])) b=some u:=fun b u n1 e'=>by rw [upd_ne n1];exact e'
     generalize upd G' a (.lst ((Wd.ptT (Wd.beg m0) (Dt.og R) (ps'.take i)).map T++[T (Wd.lsO (Dt.og R) p)]))=Ga at hA1 k1 ⊢
     have iO1:=k1 _ _ hao.symm iO
     refine ⟨_,rfl,.inl ⟨rfl,_,SqL.of iO1⟩,_,rfl,_,rfl,D,.ref c,rfl,.inl ⟨kvs,Sum.inr (tx p),.inl (k1 _ _ hd3a hdG),rfl,hc1.symm⟩,_,rfl,_,rfl,c,_,rfl,SqL.of (k1 _ _ hca hcG),fun l hl=>?_⟩
     have t1:=same_upd (o:=.lst ((Wd.ptO (Wd.beg m0) (Dt.og R) p).map T)) hl
     rw [show cutV ((Dt.og R p).map T) none (some (-1))=(Wd.ptO (Wd.beg m0) (Dt.og R) p).map T by unfold Wd.ptO;rw [if_neg e];exact cutW_init]
     have hlv:upd Ga l (.lst ((Wd.ptO (Wd.beg m0) (Dt.og R) p).map T)) l=some (.lst ((Wd.ptO (Wd.beg m0) (Dt.og R) p).map T)):=upd_same
     generalize upd Ga l (.lst ((Wd.ptO (Wd.beg m0) (Dt.og R) p).map T))=G1 at t1 hlv ⊢
     refine ⟨l,_,rfl,.inl ⟨SqL.of hlv,fun d hd=>?_⟩⟩
     have t2:=same_upd (o:=.tup ((Wd.ptO (Wd.beg m0) (Dt.og R) p).map T)) hd
     have hdv:upd G1 d (.tup ((Wd.ptO (Wd.beg m0) (Dt.og R) p).map T)) d=some (.tup ((Wd.ptO (Wd.beg m0) (Dt.og R) p).map T)):=upd_same
     generalize upd G1 d (.tup ((Wd.ptO (Wd.beg m0) (Dt.og R) p).map T))=G2 at t2 hdv ⊢
     have t12:=t1.trans t2
     have hdo:d≠o:=fun z=>by rw [z,t12 _ _ iO1] at hdv;cases hdv
     refine ⟨o,_,_,rfl,rfl,t12 _ _ iO1,(by rw [List.length_map];omega),?_⟩
     refine ⟨bs++[d],_,by rw [htk];exact I.next (p:=p) (c:=d) (fun b u n1 n2 e'=>by rw [upd_ne n2];exact t12 _ _ (k1 b u n1 e')) (by rw [upd_ne hao];exact t12 _ _ hA1) upd_same (by rw [upd_ne hdo];exact hdv),by rw [List.length_append,hbl];rfl,rfl⟩
   ·rintro σ G9 ⟨bs,v6,I,hbl,rfl⟩
    rw [List.length_map,List.take_length] at I
    obtain ⟨i1,iA,iO,iR⟩:=id I
    refine ⟨_,rfl,_,rfl,(by show 2<=sizeLine;omega),fun qq hq=>?_⟩
    have t9:=same_upd (o:=.tup [.ref a,.ref o]) hq
    refine q ps' qq a o bs _ hP (fun b u e'=>?_) ⟨upd_same,t9 _ _ iA,t9 _ _ iO,iR.mono fun f b _ e'=>t9 _ _ e'⟩
    exact t9 _ _ (i1 b u (ne_of_none e' haH) (ne_of_none e' hoH) (sH4 b u e'))
theorem pts_alike {K:PySem.W.Frag}{H:Hp}{q a o q' a' o':Addr}{us:List (List Nat)}{fs:List (List (List Nat))}{bs bs':List Addr}(h:PtAt H q a o us fs bs)(g:PtAt H q' a' o' us fs bs'):AlikeP K H q q':=by
 refine ⟨a,a',o,o',us,SqT.of h.1,SqT.of g.1,SqL.of h.2.1,SqL.of g.2.1,bs,bs',SqL.of h.2.2.1,SqL.of g.2.2.1,h.2.2.2.len.symm.trans g.2.2.2.len,fun i h1 h2=>?_⟩
 obtain ⟨f1,e1,e2⟩:=h.2.2.2.get (List.getElem?_eq_getElem h1)
 obtain ⟨f2,e3,e4⟩:=g.2.2.2.get (List.getElem?_eq_getElem h2)
 obtain rfl:f1=f2:=Option.some.inj (e1.symm.trans e3)
 exact ⟨f1,SqT.of e2,SqT.of e4⟩
def spTold (K:PySem.W.Frag)(C:Addr):Sp:=fun vs H Q _=>∃ (x tp n q a o:Nat) (ms ps R:List (List Nat)) (m0:List Nat) (bs:List Addr),vs=[.ref x,T (firstT R),.ref q]∧WebAt C H x tp n ms∧WebOk ms n∧ms.Pairwise (fun a b=>¬ b<a)∧ms[0]?=some m0∧Pcs ms ps∧Rng ms m0 R ∧
 PtAt H q a o (Wd.ptT (Wd.beg m0) (Dt.og R) ps) (ps.map (Wd.ptO (Wd.beg m0) (Dt.og R))) bs∧∀ H':Hp,Same H H'->Q (.bl true) H'
theorem ok__law_told {f:Addr}{fd:FuncData}(F:Fun K "_law_told" "_law_told" s__law_told f fd)(tt:Txt K mg ad)(C_parts_of:Cal P w K mg base (CX1 P w) "parts_of" 5 ["web", "ring"] (spParts ad.Web)):FnOk P w K mg base (CX1 P w) 6 f fd ["web", "ring", "due"] (spTold K ad.Web):=by
 refine F.okN sc__law_told (fun vs H Q E h=>?_) (fun cdv A outer s H vs Q E hr h=>?_)
 ·obtain ⟨x,tp,n,q,a,o,ms,ps,R,m0,bs,rfl,_⟩:=h
  rfl
 ·obtain ⟨x,tp,n,qd,ad',od,ms,ps,R,m0,bd,rfl,hW,hok,hso,h0,hP,hR,hdue,q⟩:=h
  have hs:sizeLine=16777216:=sizeLine_eq
  have hps:=hP.few hok
  refine ⟨_,(pss_cons (ps_set (i:=3) sc__law_told.nd rfl (Or.inl rfl) (pe_cal C_parts_of hr pass1 (pa_cons (pv 0) (pa_cons (pv 1) pa_nil))))
   (pss_cons (ps_if (PW.pt (pw_or (pt_not (pt_val (pe_callB call_isinst (by rfl) tt.b_isinstance PyProof.Rows.boot_isinstance (pa_cons (pv 3) (pa_cons (pe_bltn (v:=.ty "tuple") (u:=.type "tuple") (by rfl) tt.b_tuple (by decide +kernel) rfl) pa_nil))))) (pw_or (pt_cmpR op_ne_I (pe_callB call_len_seq (by rfl) tt.b_len PySem.boot_len (pa_cons (pv 3) pa_nil)) pe_int (nomark _)) (pw_or (pt_not (pt_val (pe_callB call_isinst (by rfl) tt.b_isinstance PyProof.Rows.boot_isinstance (pa_cons (pe_ix ix_tup (pv 3) pe_int (fun _ _=>rfl)) (pa_cons (pe_bltn (v:=.ty "list") (u:=.type "list") (by rfl) tt.b_list (by decide +kernel) rfl) pa_nil))))) (pw_or1 (pt_cmpR (op_ne_PO (hu2_of hr)) (pv 3) (pv 2) (nomark _))))))) (pss_one (ps_ret pe_bl)) pss_nil)
   (pss_cons (ps_if (pt_not (pt_val (pe_callB call_isinst (by rfl) tt.b_isinstance PyProof.Rows.boot_isinstance (pa_cons (pe_ix ix_tup (pv 3) pe_int (fun _ _=>rfl)) (pa_cons (pe_bltn (v:=.ty "list") (u:=.type "list") (by rfl) tt.b_list (by decide +kernel) rfl) pa_nil))))) (pss_one (ps_ret pe_bl)) pss_nil)
   (pss_cons (ps_for PassesOwn.never rfl (pi_list (pe_ix ix_tup (pv 3) pe_int (fun _ _=>rfl))) (pg_name (i:=4) sc__law_told.nd rfl (Or.inl rfl)) (pss_one (ps_if (pt_not (pt_val (pe_callB call_isinst (by rfl) tt.b_isinstance PyProof.Rows.boot_isinstance (pa_cons (pv 4) (pa_cons (pe_bltn (v:=.ty "tuple") (u:=.type "tuple") (by rfl) tt.b_tuple (by decide +kernel) rfl) pa_nil))))) (pss_one (ps_ret pe_bl)) pss_nil)))
   (pss_cons (ps_expr (pe_bm PySem.F.plainAttrs_list PySem.F.slot_list_append PySem.F.type_list_append mt_append (pe_ix ix_tup (pv 3) pe_int (fun _ _=>rfl)) (pa_cons (pe_strT [97] (by decide +kernel)) pa_nil)))
   (pss_cons (ps_expr (pe_bm PySem.F.plainAttrs_list PySem.F.slot_list_append PySem.F.type_list_append mt_append (pe_ix ix_tup (pv 3) pe_int (fun _ _=>rfl)) (pa_cons (pe_tup pa_nil) pa_nil)))
   (pss_one (ps_ret pe_bl)))))))),?_⟩
  (try rw [cxK2]);(try rw [cxK1])
  refine ⟨_,rfl,_,rfl,x,tp,n,ms,ps,R,m0,rfl,hW,hok,hso,h0,hP,hR,fun q' a o bs H1 ha ho hao s1 hpt=>?_⟩
  obtain ⟨p1,p2,p3,p4⟩:=id hpt
  have hptl:=pt_len (ps:=ps) (h:=Wd.beg m0) (O:=Dt.og R)
  have hbl:bs.length=ps.length:=by have:=p4.len;rw [List.length_map] at this;exact this.symm
  refine ⟨_,rfl,_,_,_,_,rfl,.tup p1,kit_same _,_,rfl,iteF ?_⟩
  refine ⟨_,rfl,q',_,rfl,.inr (SqT.of p1),_,rfl,_,rfl,_,rfl,iteF ?_⟩
  refine ⟨_,rfl,q',_,_,_,rfl,rfl,SqT.of p1,atI_nat (j:=0) rfl,_,_,_,_,rfl,.lst p2,kit_same _,_,rfl,iteF ?_⟩
  refine ⟨_,rfl,_,rfl,q',qd,rfl,rfl,pts_alike hpt (hdue.on s1),_,rfl,iteF ?_⟩
  refine ⟨_,rfl,q',_,_,_,rfl,rfl,SqT.of p1,atI_nat (j:=1) rfl,_,_,_,_,rfl,.lst p3,kit_same _,_,rfl,iteF ?_⟩
  refine ⟨_,rfl,q',_,_,_,rfl,rfl,SqT.of p1,atI_nat (j:=1) rfl,o,rfl,⟨_,SqL.of p3⟩,?_⟩
  refine for_list (K:=K) (a:=o) (xs:=bs.map V.ref) (fun i σ G=>G=H1∧∃ v4:Option V,σ=[some (.ref x),some (T (firstT R)),some (.ref qd),some (.ref q'),v4]) ⟨rfl,none,rfl⟩ (fun i σ G _ h=>by rw [h.1];exact SqL.of p3) ?_ ?_
  ·rintro i y σ G hy ⟨rfl,v4,rfl⟩
   obtain ⟨b,hb,rfl⟩:∃ b,bs[i]?=some b∧V.ref b=y:=by rw [List.getElem?_map] at hy;exact Option.map_eq_some_iff.mp hy
   obtain ⟨fo,_,hf2⟩:=p4.get hb
   exact ⟨_,rfl,_,_,_,_,rfl,.tup hf2,kit_same _,_,rfl,iteF ⟨rfl,_,rfl⟩⟩
  ·rintro σ G ⟨rfl,v4,rfl⟩
   refine ⟨_,rfl,q',_,_,_,rfl,rfl,SqT.of p1,atI_nat (j:=0) rfl,.inl ⟨rfl,_,SqL.of p2⟩,a,_,_,rfl,rfl,p2,(by rw [List.length_map];omega),?_⟩
   have n1:q'≠a:=fun z=>by rw [z,p2] at p1;cases p1
   have n2:q'≠o:=fun z=>by rw [z,p3] at p1;cases p1
   have e1:upd G a (.lst ((Wd.ptT (Wd.beg m0) (Dt.og R) ps).map T++[T [97]])) q'=some (.tup [.ref a,.ref o]):=by rw [upd_ne n1];exact p1
   have e3:upd G a (.lst ((Wd.ptT (Wd.beg m0) (Dt.og R) ps).map T++[T [97]])) o=some (.lst (bs.map V.ref)):=by rw [upd_ne hao.symm];exact p3
   have s2:Same H (upd G a (.lst ((Wd.ptT (Wd.beg m0) (Dt.og R) ps).map T++[T [97]]))):=fun b u e=>by rw [upd_ne (ne_of_none e ha)];exact s1 b u e
   generalize upd G a (.lst ((Wd.ptT (Wd.beg m0) (Dt.og R) ps).map T++[T [97]]))=G2 at e1 e3 s2 ⊢
   refine ⟨_,rfl,q',_,_,_,rfl,rfl,SqT.of e1,atI_nat (j:=1) rfl,.inl ⟨rfl,_,SqL.of e3⟩,(by show 0<=sizeLine;omega),fun tp' htp'=>?_⟩
   have t3:=same_upd (o:=.tup []) htp'
   refine ⟨o,_,_,rfl,rfl,t3 _ _ e3,(by rw [List.length_map];omega),?_⟩
   refine q _ fun b u e=>?_
   rw [upd_ne (ne_of_none e ho)]
   exact t3 _ _ (s2 b u e)
theorem WebOk.permF {ls ms:List (List Nat)}{n:Nat}(h:WebOk ls n)(p:ms.Perm ls):WebOk ms n:=⟨fun z=>h.1 (List.length_eq_zero_iff.mp (by rw [<- p.length_eq,z];rfl)),by rw [p.length_eq];exact h.2.1,⟨h.2.2.1.1,h.2.2.1.2.sub fun w hw=>p.mem_iff.mp hw⟩,fun x hx=>h.2.2.2.1 x (p.mem_iff.mp hx),p.nodup_iff.mpr h.2.2.2.2⟩
theorem few_ring {ls:List (List Nat)}{f0:List Nat}(h:Hg.Tr Wd.beg Wd.fin f0 ls f0):FewN ls.length ls:=by
 refine ⟨ls.map Wd.beg,by rw [List.length_map];exact Nat.le_refl _,fun w hw=>⟨List.mem_map.mpr ⟨w,hw,rfl⟩,?_⟩⟩
 obtain ⟨vs,h1,h2⟩:=Wd.tr_turn h (List.Perm.refl _) hw
 obtain ⟨v,hv⟩:=List.exists_mem_of_ne_nil _ (Wd.out_ring h1 (List.mem_cons_self ..) (List.mem_cons_self ..) (.inr rfl) (p:=Wd.fin w))
 obtain ⟨h3,h4⟩:=List.mem_filter.mp hv
 exact List.mem_map.mpr ⟨v,h2.mem_iff.mp h3,of_decide_eq_true h4⟩
theorem firstAt_ex {a:List Nat}:∀ {ls:List (List Nat)},a∈ls->∃ j:Nat,ls[j]?=some a∧∀ i:Nat,i<j->ls[i]?≠some a
 | x::ls,h=>by
  by_cases e:x=a
  ·exact ⟨0,by rw [e];rfl,fun i hi=>absurd hi (Nat.not_lt_zero _)⟩
  ·have h':a∈ls:=by
    rcases List.mem_cons.mp h with z | z
    ·exact absurd z.symm e
    ·exact z
   obtain ⟨j,h1,h2⟩:=firstAt_ex h'
   refine ⟨j+1,by rw [List.getElem?_cons_succ];exact h1,fun i hi=>?_⟩
   cases i with
   | zero=>rw [List.getElem?_cons_zero];exact fun z=>e (Option.some.inj z)
   | succ i=>rw [List.getElem?_cons_succ];exact h2 i (by omega)
def tupOf (H:Hp):V->List V
 | .ref b=>match H b with
  | some (.tup xs)=>xs
  | _=>[]
 | _=>[]
theorem tupOf_eq {H:Hp}{b:Addr}{xs:List V}(h:H b=some (.tup xs)):tupOf H (.ref b)=xs:=by
 show (match H b with | some (.tup xs)=>xs | _=>[])=xs
 rw [h]
theorem ords_lists {K:PySem.W.Frag}{H H':Hp}{D:Addr}{fs:List (List (List Nat))}{bs:List Addr}(h:Dt.R2 (fun f b=>H b=some (.tup (f.map T))) fs bs):∀ {bl:List Addr},Dt.R2 (fun v b=>b≠D∧H b=none∧H' b=some (.lst (tupOf H v))) (bs.map V.ref) bl->OrdsAt K H' fs bl:=by
 induction h with
 | nil=>intro bl g;cases g;exact .nil
 | @cons f b fs bs e _ ih =>
  intro bl g
  rw [List.map_cons] at g
  cases g with
  | cons e2 g=>exact .cons (.inl (SqL.of (by rw [e2.2.2,tupOf_eq e]))) (ih g)
theorem ords_tup {K:PySem.W.Frag}{H:Hp}{fs:List (List (List Nat))}{bs:List Addr}(h:Dt.R2 (fun f b=>H b=some (.tup (f.map T))) fs bs):OrdsAt K H fs bs:=h.mono fun f b _ e=>.inr (SqT.of e)
theorem modk (z:Int)(l:Nat):∃ k:Nat,z % (if (l:Int)>1 then (l:Int) else 1)=(k:Int)∧k<=l:=by
 by_cases h:(l:Int)>1
 ·rw [if_pos h]
  have h1:=Int.emod_nonneg z (b:=(l:Int)) (by omega)
  have h2:=Int.emod_lt_of_pos z (b:=(l:Int)) (by omega)
  exact ⟨(z % (l:Int)).toNat,by omega,by omega⟩
 ·rw [if_neg h,Int.emod_one]
  exact ⟨0,rfl,Nat.zero_le _⟩
def spLaw (K:PySem.W.Frag):Sp:=fun vs H Q _=>∃ (a:Addr) (ns:List Int),vs=[.ref a]∧SqL K H a (ns.map V.int)∧ns.length<=63∧∀ H',Q (.bl true) H'
theorem ok_law {f:Addr}{fd:FuncData}(F:Fun K "law" "law" s_law f fd)(tt:Txt K mg ad)(C__law_cell_at:Cal P w K mg base (CX1 P w) "_law_cell_at" 1 ["script", "k"] (spCell K))(C__law_ring_words:Cal P w K mg base (CX1 P w) "_law_ring_words" 2 ["script", "at", "most"] (spRingWd K))(C_Web_init:Cam P w K mg base (CX1 P w) "Web" ad.Web 5 ["self", "words"] (spWebI K ad.Web))(C__law_due:Cal P w K mg base (CX1 P w) "_law_due" 1 ["order"] (spDue K))(C__law_told:Cal P w K mg base (CX1 P w) "_law_told" 6 ["web", "ring", "due"] (spTold K ad.Web))(C_ring_of:Cal P w K mg base (CX1 P w) "ring_of" 6 ["web", "tree", "orders"] (spRingOf K ad.Web))(C__law_around:Cal P w K mg base (CX1 P w) "_law_around" 1 ["text", "length"] spAround)(C_parts_of:Cal P w K mg base (CX1 P w) "parts_of" 5 ["web", "ring"] (spParts ad.Web)) :
  FnOk P w K mg base (CX1 P w) 8 f fd ["script"] (spLaw K):=by
 refine F.okN sc_law (fun vs H Q E h=>?_) (fun cdv A outer s H vs Q E hr h=>?_)
 ·obtain ⟨a,ns,rfl,_⟩:=h
  rfl
 ·obtain ⟨sa,ns,rfl,hS,hlen,q⟩:=h
  have hs:sizeLine=16777216:=sizeLine_eq
  have hu:=Nat.lt_of_succ_lt (hu_of hr)
  refine ⟨_,(pss_cons (ps_set (i:=1) sc_law.nd rfl (Or.inl rfl) (pe_cal C__law_ring_words hr pass1 (pa_cons (pv 0) (pa_cons pe_int (pa_cons pe_int pa_nil)))))
   (pss_cons (ps_set (i:=2) sc_law.nd rfl (Or.inl rfl) (pe_mak C_Web_init hr pass1 (pa_cons (pv 1) pa_nil)))
   (pss_cons (ps_set (i:=3) sc_law.nd rfl (Or.inl rfl) (pe_bm PySem.F.plainAttrs_list PySem.F.slot_list_index PySem.F.type_list_index mt_index (pv 1) (pa_cons (pe_callB (call_minT rfl) (by rfl) tt.b_min PyProof.Rows.boot_min (pa_cons (pv 1) pa_nil)) pa_nil)))
   (pss_cons (ps_set (i:=4) sc_law.nd rfl (Or.inl rfl) (pe_op op_catL (pe_slice sl_list (pv 1) (po_some (pv 3)) po_none) (pe_slice sl_list (pv 1) po_none (po_some (pv 3)))))
   (pss_cons (ps_set (i:=5) sc_law.nd rfl (Or.inl rfl) (pe_bm PySem.F.plainAttrs_str PySem.F.slot_str_join PySem.F.type_str_join mt_join (pe_strT [] (by decide +kernel)) (pa_cons (pe_comp cs_law_0 rfl (pi_list (pv 4)) (fun cl C s' H' fp=>(pe_ix ix_T (pv 0) pe_int (fun _ _=>rfl)))) pa_nil)))
   (pss_cons (ps_set (i:=6) sc_law.nd rfl (Or.inl rfl) (pe_cal C__law_due hr pass1 (pa_cons (pv 4) pa_nil)))
   (pss_cons (ps_if (PW.pt (pw_or (pt_not (pt_val (pe_cal C__law_told hr pass1 (pa_cons (pv 2) (pa_cons (pv 5) (pa_cons (pv 6) pa_nil)))))) (pw_or1 (pt_not (pt_val (pe_cal C__law_told hr pass1 (pa_cons (pv 2) (pa_cons (pv 5) (pa_cons (pv 6) pa_nil))))))))) (pss_one (ps_ret pe_bl)) pss_nil)
   (pss_cons (ps_setComp (i:=7) cs_law_1 rfl (pi_list (pe_ix ix_tup (pv 6) pe_int (fun _ _=>rfl))) (fun cl C s' H' fp=>(pe_callTy (call_list_ofK K rfl) (by rfl) tt.b_list (by decide +kernel) (pa_cons (pv 0) pa_nil))) sc_law.nd rfl rfl)
   (pss_cons (ps_if (PW.pt (pw_or (pt_cmpR op_ne_T (pe_cal C_ring_of hr pass1 (pa_cons (pv 2) (pa_cons (pe_ix ix_tup (pv 6) pe_int (fun _ _=>rfl)) (pa_cons (pe_ix ix_tup (pv 6) pe_int (fun _ _=>rfl)) pa_nil)))) (pv 5) (nomark _)) (pw_or1 (pt_cmpR op_ne_T (pe_cal C_ring_of hr pass1 (pa_cons (pv 2) (pa_cons (pe_callTy call_tuple_of (by rfl) tt.b_tuple (by decide +kernel) (pa_cons (pe_ix ix_tup (pv 6) pe_int (fun _ _=>rfl)) pa_nil)) (pa_cons (pv 7) pa_nil)))) (pv 5) (nomark _))))) (pss_one (ps_ret pe_bl)) pss_nil)
   (pss_cons (ps_set (i:=8) sc_law.nd rfl (Or.inl rfl) (pe_lst pa_nil))
   (pss_cons (ps_for PassesOwn.never rfl (pi_range1 (by rfl) tt.b_range (pa_cons (pe_callB call_len_seq (by rfl) tt.b_len PySem.boot_len (pa_cons (pe_ix ix_tup (pv 6) pe_int (fun _ _=>rfl)) pa_nil)) pa_nil)) (pg_name (i:=9) sc_law.nd rfl (Or.inl rfl)) (pss_cons (ps_set (i:=10) sc_law.nd rfl (Or.inl rfl) (pe_callTy call_list_of (by rfl) tt.b_list (by decide +kernel) (pa_cons (pe_ix ix_list (pe_ix ix_tup (pv 6) pe_int (fun _ _=>rfl)) (pv 9) (fun _ _=>rfl)) pa_nil)))
   (pss_cons (ps_set (i:=11) sc_law.nd rfl (Or.inl rfl) (pe_op op_mod (pe_cal C__law_cell_at hr pass1 (pa_cons (pv 0) (pa_cons (pv 9) pa_nil))) (pe_callB (call_max2 rfl) (by rfl) tt.b_max PyProof.Rows.boot_max (pa_cons pe_int (pa_cons (pe_callB call_len_seq (by rfl) tt.b_len PySem.boot_len (pa_cons (pv 10) pa_nil)) pa_nil)))))
   (pss_cons (ps_set (i:=10) sc_law.nd rfl (Or.inl rfl) (pe_op op_catL (pe_slice sl_list (pv 10) (po_some (pv 11)) po_none) (pe_slice sl_list (pv 10) po_none (po_some (pv 11)))))
   (pss_cons (ps_if (pt_cmpR op_eq_I (pe_op op_mod (pe_op op_fdiv (pe_cal C__law_cell_at hr pass1 (pa_cons (pv 0) (pa_cons (pv 9) pa_nil))) pe_int) pe_int) pe_int (nomark _)) (pss_one (ps_set (i:=10) sc_law.nd rfl (Or.inl rfl) (pe_listrev rfl (by rfl) tt.b_list (by rfl) tt.b_reversed (pv 10)))) pss_nil)
   (pss_one (ps_expr (pe_bm PySem.F.plainAttrs_list PySem.F.slot_list_append PySem.F.type_list_append mt_append (pv 8) (pa_cons (pe_callTy call_tuple_of (by rfl) tt.b_tuple (by decide +kernel) (pa_cons (pv 10) pa_nil)) pa_nil)))))))))
   (pss_cons (ps_set (i:=12) sc_law.nd rfl (Or.inl rfl) (pe_cal C_ring_of hr pass1 (pa_cons (pv 2) (pa_cons (pe_ix ix_tup (pv 6) pe_int (fun _ _=>rfl)) (pa_cons (pv 8) pa_nil)))))
   (pss_cons (ps_if (PW.pt (pw_or (pt_not (pt_val (pe_callB call_isinst (by rfl) tt.b_isinstance PyProof.Rows.boot_isinstance (pa_cons (pv 12) (pa_cons (pe_bltn (v:=.ty "str") (u:=.type "str") (by rfl) tt.b_str (by decide +kernel) rfl) pa_nil))))) (pw_or1 (pt_cmpR op_ne_I (pe_callB call_len_T (by rfl) tt.b_len PySem.boot_len (pa_cons (pv 12) pa_nil)) (pe_callB call_len_seq (by rfl) tt.b_len PySem.boot_len (pa_cons (pv 1) pa_nil)) (nomark _))))) (pss_one (ps_ret pe_bl)) pss_nil)
   (pss_cons (ps_set (i:=4) sc_law.nd rfl (Or.inl rfl) (pe_cal C__law_around hr pass1 (pa_cons (pv 12) (pa_cons (pe_callB call_len_T (by rfl) tt.b_len PySem.boot_len (pa_cons (pe_ix ix_list (pv 1) pe_int (fun _ _=>rfl)) pa_nil)) pa_nil))))
   (pss_cons (ps_if (PW.pt (pw_or (pt_cmpR (op_ne_LT hu) (pe_callB call_sortedT (by rfl) tt.b_sorted PyProof.Rows.boot_sorted (pa_cons (pv 4) pa_nil)) (pe_callB call_sortedT (by rfl) tt.b_sorted PyProof.Rows.boot_sorted (pa_cons (pv 1) pa_nil)) (nomark _)) (pw_or1 (pt_cmpR op_ne_T (pe_ix ix_list (pv 4) pe_int (fun _ _=>rfl)) (pe_callB (call_minT rfl) (by rfl) tt.b_min PyProof.Rows.boot_min (pa_cons (pv 1) pa_nil)) (nomark _))))) (pss_one (ps_ret pe_bl)) pss_nil)
   (pss_one (ps_ret (pe_cmpR (op_eq_PO (hu2_of hr)) (pe_cal C_parts_of hr pass1 (pa_cons (pv 2) (pa_cons (pv 12) pa_nil))) (pe_tup (pa_cons (pe_ix ix_tup (pv 6) pe_int (fun _ _=>rfl)) (pa_cons (pv 8) pa_nil))) (nomark _))))))))))))))))))),?_⟩
  (try rw [cxK2]);(try rw [cxK1])
  refine ⟨_,rfl,sa,ns,40,rfl,by decide,hS,fun D ls n H1 s1 hd hwl hn hne hl40 htr=>?_⟩
  obtain ⟨f0,htr⟩:=htr
  have hll:ls.length<=40:=by omega
  have hok:WebOk ls n:=⟨hne,by omega,⟨⟨by omega,by omega⟩,(few_ring htr).mono (by omega)⟩,hwl.1,hwl.2⟩
  refine ⟨_,rfl,?_⟩
  intro x dx nx ndx nex
  have s2:Same H1 (upd (upd H1 dx (.own x)) x (.ins ad.Web dx [])):=fun b o e=>by
   rw [upd_ne (ne_of_none e nx),upd_ne (ne_of_none e ndx)]
   exact e
  refine ⟨x,dx,D,ls,n,rfl,upd_same,.inl (SqL.of (s2 D _ hd)),hok,fun tp ms H2 hp2 hw2 k2 hx2 ht2=>⟨rfl,?_⟩⟩
  have s2:Same H1 H2:=fun b o e=>k2 b o (s2 b o e) (ne_of_none e nx)
  have hW:WebAt ad.Web H2 x tp n ms:=⟨⟨dx,hx2⟩,ht2⟩
  have hokm:=hok.permF hp2
  have hd2:=s2 D _ hd
  have hS2:=(s1.trans s2).seq hS
  obtain ⟨m0,hm0⟩:∃ m0,ms[0]?=some m0:=⟨ms[0]'(List.length_pos_iff.mpr hokm.1),List.getElem?_eq_getElem _⟩
  have hm0m:=List.mem_of_getElem? hm0
  have hmsn:=hokm.2.2.2.2
  have hmsl:∀ w∈ms,w.length=n:=fun w hw=>(hokm.2.2.2.1 w hw).1
  have hml:=hp2.length_eq
  have hmin:∀ y∈ls,¬ y<m0:=fun y hy=>by
   have hy:=hp2.mem_iff.mpr hy
   cases hms:ms with
   | nil=>rw [hms] at hy;cases hy
   | cons z ms' =>
    rw [hms] at hy hw2 hm0
    obtain rfl:z=m0:=Option.some.inj hm0
    rcases List.mem_cons.mp hy with z | z
    ·rw [z];exact List.lt_irrefl _
    ·exact (List.pairwise_cons.mp hw2).1 y z
  have hm0l:m0∈ls:=hp2.mem_iff.mp hm0m
  obtain ⟨jj,hj1,hj2⟩:=firstAt_ex hm0l
  have hjl:jj<ls.length:=(List.getElem?_eq_some_iff.mp hj1).1
  have hturn:∃ ws,ls.drop jj++ls.take jj=m0::ws∧(m0::ws).Perm ms∧Hg.Tr Wd.beg Wd.fin (Wd.beg m0) (m0::ws) (Wd.beg m0):=by
   have hdj:ls.drop jj=m0::ls.drop (jj+1):=by
    obtain ⟨i1,i2⟩:=List.getElem?_eq_some_iff.mp hj1
    rw [List.drop_eq_getElem_cons i1,i2]
   refine ⟨ls.drop (jj+1)++ls.take jj,by rw [hdj];rfl,?_,?_⟩
   ·show (m0::ls.drop (jj+1)++ls.take jj).Perm ms
    rw [<- hdj]
    refine (List.perm_append_comm).trans ?_
    rw [List.take_append_drop]
    exact hp2.symm
   ·have h1:Hg.Tr Wd.beg Wd.fin f0 (ls.take jj++ls.drop jj) f0:=by rw [List.take_append_drop];exact htr
    obtain ⟨r,h2,h3⟩:=Dt.tr_app.mp h1
    rw [hdj] at h3
    have hr:Wd.beg m0=r:=h3.1
    subst hr
    exact ⟨rfl,Dt.tr_app.mpr ⟨f0,h3.2,h2⟩⟩
  obtain ⟨ws,hws,hwp,hwt⟩:=hturn
  have hR:Rng ms m0 (m0::ws):=⟨⟨ws,rfl⟩,hwp,hwt⟩
  have hwpl:=hwp.length_eq
  refine ⟨_,rfl,.inl ⟨rfl,_,SqL.of hd2⟩,_,rfl,D,ls,rfl,SqL.of hd2,hne,fun m1 hm1 hmin1=>?_⟩
  obtain rfl:m1=m0:=Std.Trichotomous.trichotomous m1 m0 (hmin m1 hm1) (hmin1 m0 hm0l)
  refine ⟨D,ls,m1,jj,rfl,rfl,SqL.of hd2,hj1,hj2,?_⟩
  refine ⟨_,rfl,_,rfl,_,rfl,D,_,rfl,SqL.of hd2,fun p5 hp5=>?_⟩
  rw [cutW_from (k:=jj) (by omega)]
  have s5:=same_upd (o:=.lst ((ls.drop jj).map T)) hp5
  have h5:upd H2 p5 (.lst ((ls.drop jj).map T)) p5=some (.lst ((ls.drop jj).map T)):=upd_same
  generalize upd H2 p5 (.lst ((ls.drop jj).map T))=H5 at s5 h5 ⊢
  refine ⟨_,rfl,_,rfl,_,rfl,D,_,rfl,SqL.of (s5 D _ hd2),fun p6 hp6=>?_⟩
  rw [cutW_to (k:=jj) (by omega)]
  have s6:=same_upd (o:=.lst ((ls.take jj).map T)) hp6
  have h6:upd H5 p6 (.lst ((ls.take jj).map T)) p6=some (.lst ((ls.take jj).map T)):=upd_same
  generalize upd H5 p6 (.lst ((ls.take jj).map T))=H6 at s6 h6 ⊢
  refine ⟨p5,p6,_,_,rfl,rfl,SqL.of (s6 p5 _ h5),SqL.of h6,(by rw [List.length_map,List.length_map,List.length_drop,List.length_take];omega),fun p7 hp7=>?_⟩
  rw [<- List.map_append,hws]
  have s7:=same_upd (o:=.lst ((m1::ws).map T)) hp7
  have h7:upd H6 p7 (.lst ((m1::ws).map T)) p7=some (.lst ((m1::ws).map T)):=upd_same
  generalize upd H6 p7 (.lst ((m1::ws).map T))=H7 at s7 h7 ⊢
  have s57:=s5.trans (s6.trans s7)
  have hRl:∀ w∈m1::ws,w.length=n:=fun w hw=>hmsl w (hwp.mem_iff.mp hw)
  refine ⟨rfl,_,rfl,p7,rfl,⟨_,SqL.of h7⟩,?_⟩
  refine compG (fun v=>T [Wd.hd (unT v)]) (reads_list (SqL.of h7)) (by rw [List.length_map];omega) (fun v G2 hv s8 N hN=>?_) fun D8 H8 hD8 s8 hd8=>?_
  ·obtain ⟨l,hl,rfl⟩:=List.mem_map.mp hv
   have hll:=hRl l hl
   have z:=hN G2 (Same.refl _)
   rw [unT_T] at z
   refine ⟨_,rfl,_,rfl,_,rfl,(by omega),Wd.hd l,atI_nat (j:=0) ?_,z⟩
   unfold Wd.hd
   rw [List.getD_eq_getElem?_getD,List.getElem?_eq_getElem (show 0<l.length by omega)]
   rfl
  rw [map_unT (f:=fun l=>T [Wd.hd l]),show (m1::ws).map (fun l=>T [Wd.hd l])=((m1::ws).map fun l=>[Wd.hd l]).map T by rw [List.map_map];rfl] at hd8
  have hflat:((m1::ws).map fun l=>[Wd.hd l]).flatten=firstT (m1::ws):=by
   rw [firstT_hd fun w hw=>by rw [hRl w hw];omega]
   generalize m1::ws=l
   induction l with
   | nil=>rfl
   | cons y l ih=>rw [List.map_cons,List.flatten_cons,ih];rfl
  refine ⟨rfl,D8,_,rfl,SqL.of hd8,(by rw [hflat];have:=firstT_len (m1::ws);omega),?_⟩
  rw [hflat]
  have s28:=s57.trans s8
  refine ⟨_,rfl,p7,n,ms,m1::ws,m1,rfl,s8 _ _ h7,hokm,hR,fun ps qd a o bs H9 hP s9 hpt=>?_⟩
  have hps:=hP.few hokm
  have s29:=s28.trans s9
  refine ⟨_,rfl,_,rfl,_,rfl,x,tp,n,qd,a,o,ms,ps,m1::ws,m1,bs,rfl,hW.on s29,hokm,hw2,hm0,hP,hR,hpt,fun H10 s10=>⟨_,rfl,iteF ?_⟩⟩
  refine ⟨_,rfl,_,rfl,_,rfl,x,tp,n,qd,a,o,ms,ps,m1::ws,m1,bs,rfl,hW.on (s29.trans s10),hokm,hw2,hm0,hP,hR,hpt.on s10,fun H11 s11=>⟨_,rfl,iteF ?_⟩⟩
  have hpt:=hpt.on (s10.trans s11)
  have s2b:=s29.trans (s10.trans s11)
  clear s29 s10 s11 s28 s57 s9 hd8
  obtain ⟨p1,p2,p3,p4⟩:=id hpt
  have hbl:bs.length=ps.length:=by have:=p4.len;rw [List.length_map] at this;exact this.symm
  have hway:WayOf (m1::ws) ms (Wd.beg m1) (Wd.beg m1):=⟨hwt,hwp⟩
  have hw:=Wd.whl_ring hR.2.1 (m0:=m1) (R:=m1::ws) (r:=ws) rfl
  have ho:=hR.out hP
  have hcm:=Wd.cm_ring (ps:=ps) hwt ho
  have hwalk:Wd.walkO ms.length (Dt.og (m1::ws)) (Wd.beg m1)=m1::ws:=by rw [<- hwpl];exact Wd.walk_again hwt
  refine ⟨_,rfl,qd,_,_,_,rfl,rfl,SqT.of p1,atI_nat (j:=1) rfl,o,rfl,⟨_,SqL.of p3⟩,compL (tupOf H11) (reads_list (SqL.of p3)) (by rw [List.length_map];omega) (fun v G hv sG N hN=>?_) fun Dl bl H12 hDl s12 hdl hRl2=>?_⟩
  ·obtain ⟨b,hb,rfl⟩:=List.mem_map.mp hv
   obtain ⟨i,hi⟩:=List.getElem?_of_mem hb
   obtain ⟨fo,_,hfo⟩:=p4.get hi
   refine ⟨_,rfl,b,_,rfl,.inr (SqT.of (sG _ _ hfo)),fun l hl=>hN l _ (same_upd hl) hl ?_⟩
   rw [upd_same,tupOf_eq hfo]
  have hol:=ords_lists (K:=K) p4 hRl2
  have hpt:=hpt.on s12
  have s2c:=s2b.trans s12
  obtain ⟨p1,p2,p3,p4⟩:=id hpt
  refine ⟨_,rfl,_,rfl,qd,_,_,_,rfl,rfl,SqT.of p1,atI_nat (j:=0) rfl,_,rfl,qd,_,_,_,rfl,rfl,SqT.of p1,atI_nat (j:=1) rfl,x,tp,a,o,n,ms,ps,m1,Dt.og (m1::ws),rfl,⟨hW.on s2c,hokm,hm0,hP,hw,ho,⟨hw2,hcm⟩,.inl (SqL.of p2),bs,SqL.of p3,ords_tup p4⟩,⟨_,_,hway⟩,fun H13 s13=>?_⟩
  rw [hwalk]
  refine ⟨_,rfl,_,rfl,_,rfl,_,rfl,itN (by rw [decide_eq_true rfl];exact Bool.false_ne_true) ?_⟩
  have hpt:=hpt.on s13
  have s2d:=s2c.trans s13
  have hol:=hol.on s13
  have hdl:=s13 _ _ hdl
  obtain ⟨p1,p2,p3,p4⟩:=id hpt
  refine ⟨_,rfl,_,rfl,qd,_,_,_,rfl,rfl,SqT.of p1,atI_nat (j:=0) rfl,a,_,rfl,.inl ⟨SqL.of p2,fun tp2 htp2=>?_⟩⟩
  have s14:=same_upd (o:=.tup ((Wd.ptT (Wd.beg m1) (Dt.og (m1::ws)) ps).map T)) htp2
  have h14:upd H13 tp2 (.tup ((Wd.ptT (Wd.beg m1) (Dt.og (m1::ws)) ps).map T)) tp2=some (.tup ((Wd.ptT (Wd.beg m1) (Dt.og (m1::ws)) ps).map T)):=upd_same
  generalize upd H13 tp2 (.tup ((Wd.ptT (Wd.beg m1) (Dt.og (m1::ws)) ps).map T))=H14 at s14 h14 ⊢
  have s2e:=s2d.trans s14
  refine ⟨_,rfl,x,tp,tp2,Dl,n,ms,ps,m1,Dt.og (m1::ws),rfl,⟨hW.on s2e,hokm,hm0,hP,hw,ho,⟨hw2,hcm⟩,.inr (SqT.of h14),bl,SqL.of (s14 _ _ hdl),hol.on s14⟩,⟨_,_,hway⟩,fun H15 s15=>?_⟩
  rw [hwalk]
  refine ⟨_,rfl,_,rfl,_,rfl,_,rfl,itN (by rw [decide_eq_true rfl];exact Bool.false_ne_true) ?_⟩
  have hpt:=hpt.on (s14.trans s15)
  have s2f:=s2e.trans s15
  refine ⟨(by show 0<=sizeLine;omega),fun Od hOd0=>?_⟩
  have s16:=same_upd (o:=.lst []) hOd0
  have h16:upd H15 Od (.lst []) Od=some (.lst []):=upd_same
  generalize upd H15 Od (.lst [])=H16 at s16 h16 ⊢
  have hOdH:H15 Od=none:=hOd0
  have hpt15:=hpt
  have hpt:=hpt.on s16
  have hnO:∀ {b u},H15 b=some u->b≠Od:=fun e=>ne_of_none e hOdH
  obtain ⟨p1,p2,p3,p4⟩:=id hpt
  refine ⟨_,rfl,qd,_,_,_,rfl,rfl,SqT.of p1,atI_nat (j:=1) rfl,o,_,rfl,.inl (SqL.of p3),_,rfl,(by omega),(by rw [List.length_map];omega),?_⟩
  rw [List.length_map,Int.toNat_natCast]
  refine for_range (fun i σ G=>Kp Od H16 G∧∃ (gs:List (List (List Nat))) (bs2:List Addr) (v9 v10 v11:Option V),G Od=some (.lst (bs2.map V.ref))∧Dt.R2 (fun f b=>G b=some (.tup (f.map T))) gs bs2∧gs.length=i∧(∀ (j:Nat) (f1 f2:List (List Nat)),gs[j]?=some f1->(ps.map (Wd.ptO (Wd.beg m1) (Dt.og (m1::ws))))[j]?=some f2->f1.Perm f2)∧σ=[some (.ref sa),some (.ref D),some (.ref x),some (.int (jj:Nat)),some (.ref p7),some (T (firstT (m1::ws))),some (.ref qd),some (.ref Dl),some (.ref Od),v9,v10,v11,none])
   ⟨fun b u _ e=>e,[],[],none,none,none,h16,.nil,rfl,(fun j f1 f2 h=>by rw [List.getElem?_nil] at h;cases h),rfl⟩ ?_ ?_
  ·rintro i σ G hi ⟨kG,gs,bs2,v9,v10,v11,hOd,hR2,hgl,hpm,rfl⟩
   have hb2:=hR2.len
   have hb:bs[i]?=some (bs[i]'hi):=List.getElem?_eq_getElem hi
   generalize bs[i]'hi=b at hb
   obtain ⟨fo,hfo,hfb⟩:=p4.get hb
   have nqd:=hnO hpt15.1
   have noO:=hnO hpt15.2.2.1
   have nb:b≠Od:=by
    obtain ⟨_,_,h⟩:=hpt15.2.2.2.get hb
    exact hnO h
   have hSG:SqL K G sa (ns.map V.int):=(show Same H15 G from fun b u e=>kG b u (hnO e) (s16 b u e)).seq (s2f.seq hS2)
   have hfl:fo.length<=60:=by
    rw [List.getElem?_map,Option.map_eq_some_iff] at hfo
    obtain ⟨p,_,rfl⟩:=hfo
    have:=whl_len hw p
    have:=hokm.2.1
    unfold Wd.ptO
    split
    ·rw [List.length_drop];omega
    ·rw [List.length_dropLast];omega
   refine ⟨_,rfl,qd,_,_,_,rfl,rfl,SqT.of (kG _ _ nqd p1),atI_nat (j:=1) rfl,_,rfl,o,_,_,_,rfl,rfl,SqL.of (kG _ _ noO p3),(by rw [Int.zero_add];exact atI_nat (j:=i) (v:=V.ref b) (by rw [List.getElem?_map,hb];rfl)),b,_,rfl,.inr (SqT.of (kG _ _ nb hfb)),fun l1 hl1=>?_⟩
   have t1:=same_upd (o:=.lst (fo.map T)) hl1
   have h1:upd G l1 (.lst (fo.map T)) l1=some (.lst (fo.map T)):=upd_same
   generalize upd G l1 (.lst (fo.map T))=G1 at t1 h1 ⊢
   refine ⟨_,rfl,_,rfl,sa,ns,i,(by rw [Int.zero_add];rfl),t1.seq hSG,_,rfl,l1,_,rfl,.inl (SqL.of h1),_,_,rfl,_,_,rfl,rfl,(by split <;> omega),?_⟩
   obtain ⟨k,hk,hkl⟩:=modk (ns.getD i 0) (fo.map T).length
   have hk':(fun i j:Int=>V.int (i % j)) (ns.getD i 0) (if ((fo.map T).length:Int)>1 then ((fo.map T).length:Int) else 1)=V.int (k:Int):=congrArg V.int hk
   rw [hk']
   rw [List.length_map] at hkl
   refine ⟨_,rfl,_,rfl,_,rfl,l1,_,rfl,SqL.of h1,fun l2 hl2=>?_⟩
   rw [cutW_from (k:=k) hkl]
   have t2:=same_upd (o:=.lst ((fo.drop k).map T)) hl2
   have h2:upd G1 l2 (.lst ((fo.drop k).map T)) l2=some (.lst ((fo.drop k).map T)):=upd_same
   generalize upd G1 l2 (.lst ((fo.drop k).map T))=G2 at t2 h2 ⊢
   refine ⟨_,rfl,_,rfl,_,rfl,l1,_,rfl,SqL.of (t2 _ _ h1),fun l3 hl3=>?_⟩
   rw [cutW_to (k:=k) hkl]
   have t3:=same_upd (o:=.lst ((fo.take k).map T)) hl3
   have h3:upd G2 l3 (.lst ((fo.take k).map T)) l3=some (.lst ((fo.take k).map T)):=upd_same
   generalize upd G2 l3 (.lst ((fo.take k).map T))=G3 at t3 h3 ⊢
   refine ⟨l2,l3,_,_,rfl,rfl,SqL.of (t3 _ _ h2),SqL.of h3,(by rw [List.length_map,List.length_map,List.length_drop,List.length_take];omega),fun l4 hl4=>?_⟩
   rw [<- List.map_append]
   have t4:=same_upd (o:=.lst ((fo.drop k++fo.take k).map T)) hl4
   have h4:upd G3 l4 (.lst ((fo.drop k++fo.take k).map T)) l4=some (.lst ((fo.drop k++fo.take k).map T)):=upd_same
   have hprm:(fo.drop k++fo.take k).Perm fo:=List.perm_append_comm.trans (by rw [List.take_append_drop])
   generalize fo.drop k++fo.take k=f4 at t4 h4 hprm ⊢
   generalize upd G3 l4 (.lst (f4.map T))=G4 at t4 h4 ⊢
   have t14:=t1.trans (t2.trans (t3.trans t4))
   clear t1 t2 t3 t4 h1 h2 h3
   refine ⟨_,rfl,_,rfl,sa,ns,i,(by rw [Int.zero_add];rfl),t14.seq hSG,_,_,rfl,rfl,⟨by decide,by decide⟩,_,_,rfl,rfl,(by show (0:Int)<2;decide),_,rfl,_,rfl,_,rfl,?_⟩
   by_cases hc:decide (ns.getD i 0/7 % 2=1)=true
   ·refine itP hc ?_
    refine ⟨_,rfl,l4,_,rfl,SqL.of h4,fun l5 hl5=>?_⟩
    rw [<- List.map_reverse]
    have t5:=same_upd (o:=.lst (f4.reverse.map T)) hl5
    have h5':upd G4 l5 (.lst (f4.reverse.map T)) l5=some (.lst (f4.reverse.map T)):=upd_same
    generalize upd G4 l5 (.lst (f4.reverse.map T))=G5 at t5 h5' ⊢
    have t15:=t14.trans t5
    refine ⟨_,rfl,.inl ⟨rfl,_,SqL.of (t15 _ _ hOd)⟩,_,rfl,l5,_,rfl,.inl ⟨SqL.of h5',fun e he=>?_⟩⟩
    have te:=same_upd (o:=.tup (f4.reverse.map T)) he
    have hev:upd G5 e (.tup (f4.reverse.map T)) e=some (.tup (f4.reverse.map T)):=upd_same
    generalize upd G5 e (.tup (f4.reverse.map T))=Ge at te hev ⊢
    have t9:=(t15).trans te
    have heo:e≠Od:=fun z=>by rw [z,t9 _ _ hOd] at hev;cases hev
    refine ⟨Od,_,_,rfl,rfl,t9 _ _ hOd,(by rw [List.length_map];omega),?_⟩
    refine ⟨fun b' u n1 e'=>by rw [upd_ne n1];exact t9 _ _ (kG b' u n1 e'),gs++[f4.reverse],bs2++[e],_,_,_,by rw [upd_same,List.map_append];rfl,?_,by rw [List.length_append,hgl];rfl,fun j f1 f2 h1 h2=>?_,rfl⟩
    ·refine Dt.R2.snoc (hR2.mono fun f' b' _ e'=>?_) (by rw [upd_ne heo];exact hev)
     rw [upd_ne (fun z=>by rw [z,hOd] at e';cases e')]
     exact t9 _ _ e'
    ·rcases Nat.lt_or_ge j gs.length with hj | hj
     ·rw [List.getElem?_append_left hj] at h1
      exact hpm j f1 f2 h1 h2
     ·rw [List.getElem?_append_right hj] at h1
      obtain ⟨h3,h4⟩:=List.getElem?_eq_some_iff.mp h1
      have hj0:j=i:=by rw [List.length_singleton] at h3;omega
      subst hj0
      obtain rfl:fo=f2:=Option.some.inj (hfo.symm.trans h2)
      have:f1=f4.reverse:=by rw [<- h4];simp
      rw [this]
      exact ((List.reverse_perm _).trans hprm)
   ·refine itN hc ?_
    refine ⟨_,rfl,.inl ⟨rfl,_,SqL.of (t14 _ _ hOd)⟩,_,rfl,l4,_,rfl,.inl ⟨SqL.of h4,fun e he=>?_⟩⟩
    have te:=same_upd (o:=.tup (f4.map T)) he
    have hev:upd G4 e (.tup (f4.map T)) e=some (.tup (f4.map T)):=upd_same
    generalize upd G4 e (.tup (f4.map T))=Ge at te hev ⊢
    have t9:=(t14).trans te
    have heo:e≠Od:=fun z=>by rw [z,t9 _ _ hOd] at hev;cases hev
    refine ⟨Od,_,_,rfl,rfl,t9 _ _ hOd,(by rw [List.length_map];omega),?_⟩
    refine ⟨fun b' u n1 e'=>by rw [upd_ne n1];exact t9 _ _ (kG b' u n1 e'),gs++[f4],bs2++[e],_,_,_,by rw [upd_same,List.map_append];rfl,?_,by rw [List.length_append,hgl];rfl,fun j f1 f2 h1 h2=>?_,rfl⟩
    ·refine Dt.R2.snoc (hR2.mono fun f' b' _ e'=>?_) (by rw [upd_ne heo];exact hev)
     rw [upd_ne (fun z=>by rw [z,hOd] at e';cases e')]
     exact t9 _ _ e'
    ·rcases Nat.lt_or_ge j gs.length with hj | hj
     ·rw [List.getElem?_append_left hj] at h1
      exact hpm j f1 f2 h1 h2
     ·rw [List.getElem?_append_right hj] at h1
      obtain ⟨h3,h4⟩:=List.getElem?_eq_some_iff.mp h1
      have hj0:j=i:=by rw [List.length_singleton] at h3;omega
      subst hj0
      obtain rfl:fo=f2:=Option.some.inj (hfo.symm.trans h2)
      have:f1=f4:=by rw [<- h4];simp
      rw [this]
      exact hprm
  ·rintro σ G ⟨kG,gs,bs2,v9,v10,v11,hOd,hR2,hgl,hpm,rfl⟩
   have sG:Same H15 G:=fun b u e=>kG b u (hnO e) (s16 b u e)
   have hptG:=hpt15.on sG
   obtain ⟨O',hw',ho',hpo',hls'⟩:=hw.other hP.2.1 ho (fun w h=>hP.beg h) (fs:=gs) (by omega) fun j p f h1 h2=>hpm j f _ h2 (by rw [List.getElem?_map,h1];rfl)
   have hpt':Wd.ptT (Wd.beg m1) O' ps=Wd.ptT (Wd.beg m1) (Dt.og (m1::ws)) ps:=Wd.ptT_cong hls'
   have hcm':Dt.cmT (ps.filter fun p=>decide (p≠Wd.beg m1)) (Wd.lsO O')=true:=by
    rw [<- hcm]
    exact Dt.cmT_congr fun t ht=>hls' t (List.mem_filter.mp ht).1 (of_decide_eq_true (List.mem_filter.mp ht).2)
   obtain ⟨r',hw1,hw2',hw3,hw4⟩:=hw'.ring ((Wd.tr_bal hwt).perm hwp) (fun w h=>hP.beg h) hcm' hokm.1
   refine ⟨_,rfl,_,rfl,qd,_,_,_,rfl,rfl,SqT.of hptG.1,atI_nat (j:=0) rfl,_,rfl,x,tp,a,Od,n,ms,ps,m1,O',rfl,⟨hW.on (s2f.trans sG),hokm,hm0,hP,hw',ho',⟨hw2,hcm'⟩,.inl (SqL.of (by rw [hpt'];exact hptG.2.1)),bs2,SqL.of hOd,by rw [hpo'];exact ords_tup hR2⟩,⟨_,_,hway⟩,fun G2 sG2=>?_⟩
   rw [hw1]
   have hR':Rng ms m1 (m1::r'):=⟨⟨r',rfl⟩,hw2',hw3⟩
   obtain ⟨hwin,hwl2⟩:=hR'.win hokm
   have s2g:=s2f.trans (sG.trans sG2)
   have hd3:=s2g _ _ hd2
   refine ⟨_,rfl,_,_,_,_,rfl,.str _,kit_same _,_,rfl,iteF ?_⟩
   refine ⟨_,rfl,_,rfl,(by omega),_,rfl,D,_,rfl,.inl (SqL.of hd3),_,rfl,_,rfl,_,rfl,iteNS (by rw [List.length_map,hwl2,hml]) ?_⟩
   obtain ⟨w0,hw0⟩:∃ w0,ls[0]?=some w0:=⟨ls[0]'(List.length_pos_iff.mpr hne),List.getElem?_eq_getElem _⟩
   have hw0l:=(hwl.1 w0 (List.mem_of_getElem? hw0)).1
   refine ⟨_,rfl,_,rfl,D,_,_,_,rfl,rfl,SqL.of hd3,atI_nat (j:=0) (v:=T w0) (by rw [List.getElem?_map,hw0];rfl),_,rfl,(by omega),firstT (m1::r'),w0.length,rfl,⟨by omega,by omega⟩,fun D9 G3 hD9 sG3 hd9=>?_⟩
   rw [hw0l,hwin] at hd9
   have hd4:=sG3 _ _ hd3
   have hrl:=hw2'.length_eq
   refine ⟨_,rfl,D9,_,rfl,SqL.of hd9,by omega,fun l1 E1 hE1 hl1 hl1'=>?_⟩
   have t1:=same_upd (o:=.lst (l1.map T)) hE1
   have h1:upd G3 E1 (.lst (l1.map T)) E1=some (.lst (l1.map T)):=upd_same
   generalize upd G3 E1 (.lst (l1.map T))=G4 at t1 h1 ⊢
   refine ⟨_,rfl,D,ls,rfl,SqL.of (t1 _ _ hd4),by omega,fun l2 E2 hE2 hl2 hl2'=>?_⟩
   have t2:=same_upd (o:=.lst (l2.map T)) hE2
   have h2:upd G4 E2 (.lst (l2.map T)) E2=some (.lst (l2.map T)):=upd_same
   generalize upd G4 E2 (.lst (l2.map T))=G5 at t2 h2 ⊢
   have hll2:l1=l2:=Wd.sorted_same (hl1.trans ((hw2'.trans hp2).trans hl2.symm)) hl1' hl2'
   refine ⟨E1,E2,l1,l2,rfl,rfl,SqL.of (t2 _ _ h1),SqL.of h2,_,rfl,itN (by rw [decide_eq_true hll2];exact Bool.false_ne_true) ?_⟩
   have t12:=t1.trans t2
   refine ⟨_,rfl,D9,_,_,_,rfl,rfl,SqL.of (t12 _ _ hd9),atI_nat (j:=0) rfl,_,rfl,D,ls,rfl,SqL.of (t12 _ _ hd4),hne,fun m2 hm2 hmin2=>?_⟩
   obtain rfl:m2=m1:=Std.Trichotomous.trichotomous m2 m1 (hmin m2 hm2) (hmin2 m1 hm0l)
   refine ⟨_,rfl,_,rfl,_,rfl,itN (by rw [decide_eq_true rfl];exact Bool.false_ne_true) ?_⟩
   have s2h:=s2g.trans (sG3.trans t12)
   refine ⟨_,rfl,_,rfl,x,tp,n,ms,ps,m2::r',m2,rfl,hW.on s2h,hokm,hw2,hm0,hP,hR',fun q2 a2 o2 b2 G6 _ _ _ sG6 hpt2=>?_⟩
   rw [hw4,hpt',hpo'] at hpt2
   have sall:=sG2.trans (sG3.trans (t12.trans sG6))
   have hptE:=hptG.on sall
   refine ⟨_,rfl,qd,_,_,_,rfl,rfl,SqT.of hptE.1,atI_nat (j:=0) rfl,_,rfl,(by show 2<=sizeLine;omega),fun tq htq=>?_⟩
   have t9:=same_upd (o:=.tup [.ref a,.ref Od]) htq
   exact ⟨q2,tq,rfl,rfl,pts_alike (hpt2.on t9) (a':=a) (o':=Od) (bs':=bs2) ⟨upd_same,t9 _ _ hptE.2.1,t9 _ _ (sall _ _ hOd),hR2.mono fun f b _ e=>t9 _ _ (sall _ _ e)⟩,q _⟩
end
def HF (K:PySem.W.Frag)(f:Addr)(nm:Str)(st:Stmt):Prop:=∃ (oc:Value) (od:Option Addr) (kV dc pm:Value) (an:Option Addr) (cd ct:Value) (sl:Array (Option Value)),PySem.W.nsIn K mainGlobals nm=some (some (.ref f))∧K.lookup f=some ⟨oc,od,.func (PySem.W.fnOf nm nm (defArgs st) (defBody st) (defScope st) .none kV dc pm an cd ct),sl⟩∧PySem.W.codeIn K cd nm=true∧PySem.W.keepIn K (.ref f)=true
theorem HF.go {K:PySem.W.Frag}{f:Addr}{nm:Str}{st:Stmt}(h:HF K f nm st):∃ fd,Fun K nm nm st f fd∧PySem.W.nsIn K mainGlobals nm=some (some (.ref f)):=by
 obtain ⟨oc,od,kV,dc,pm,an,cd,ct,sl,a,l,c,k⟩:=h
 exact ⟨_,fun_mk (st:=st) l c k,a⟩
theorem hf_mk {K:PySem.W.Frag}{f:Addr}{nm:Str}{st:Stmt}{oc:Value}{od:Option Addr}{kV dc pm:Value}{an:Option Addr}{cd ct:Value}{sl:Array (Option Value)}(a:PySem.W.nsIn K mainGlobals nm=some (some (.ref f)))(l:K.lookup f=some ⟨oc,od,.func (PySem.W.fnOf nm nm (defArgs st) (defBody st) (defScope st) .none kV dc pm an cd ct),sl⟩)(c:PySem.W.codeIn K cd nm=true)(k:PySem.W.keepIn K (.ref f)=true):HF K f nm st:=⟨oc,od,kV,dc,pm,an,cd,ct,sl,a,l,c,k⟩
theorem mkC (P:Program)(w:World){K:PySem.W.Frag}{mg:Str->Option Value}{h:Heap}(base:Heap)(X:K.In h)(G:h.Ns mainGlobals mg){nm:Str}{st:Stmt}{f:Addr}{fd:FuncData}{k:Nat}{ps:List Str}{sp:Sp}(a:PySem.W.nsIn K mainGlobals nm=some (some (.ref f)))(F:Fun K nm nm st f fd)(ok:FnOk P w K mg base (CX1 P w) k f fd ps sp)(b:Binds K fd ps []):Cal P w K mg base (CX1 P w) nm k ps sp:=⟨⟨_,_,ok,PySem.W.mg_of X G a,F.kp,b⟩⟩
def HM (K:PySem.W.Frag)(C f:Addr)(nm qual:Str)(st:Stmt):Prop:=∃ (oc:Value) (od:Option Addr) (kV dc pm:Value) (an:Option Addr) (cd ct:Value) (sl:Array (Option Value)),PySem.W.findIn K (.ref C) nm=some (some (.ref f))∧K.lookup f=some ⟨oc,od,.func (PySem.W.fnOf nm qual (defArgs st) (defBody st) (defScope st) .none kV dc pm an cd ct),sl⟩∧PySem.W.codeIn K cd qual=true∧PySem.W.keepIn K (.ref f)=true∧PySem.W.isFn K (.ref f)=true
theorem HM.go {K:PySem.W.Frag}{C f:Addr}{nm qual:Str}{st:Stmt}(h:HM K C f nm qual st):∃ fd,Fun K nm qual st f fd∧Meth K C nm f:=by
 obtain ⟨oc,od,kV,dc,pm,an,cd,ct,sl,a,l,c,k,i⟩:=h
 exact ⟨_,fun_mk (st:=st) l c k,⟨a,i,k⟩⟩
theorem hm_mk {K:PySem.W.Frag}{C f:Addr}{nm qual:Str}{st:Stmt}{oc:Value}{od:Option Addr}{kV dc pm:Value}{an:Option Addr}{cd ct:Value}{sl:Array (Option Value)}(a:PySem.W.findIn K (.ref C) nm=some (some (.ref f)))(l:K.lookup f=some ⟨oc,od,.func (PySem.W.fnOf nm qual (defArgs st) (defBody st) (defScope st) .none kV dc pm an cd ct),sl⟩)(c:PySem.W.codeIn K cd qual=true)(k:PySem.W.keepIn K (.ref f)=true)(i:PySem.W.isFn K (.ref f)=true):HM K C f nm qual st:=⟨oc,od,kV,dc,pm,an,cd,ct,sl,a,l,c,k,i⟩
theorem bd1 {K:PySem.W.Frag}{x qual:Str}{S:Stmt}{f:Addr}{fd:FuncData}{p:Str}(F:Fun K x qual S f fd)(h:∀ (v w z:Value) (n:Option Addr) (g i a:Value),bindArgs (PySem.W.fnOf x qual (defArgs S) (defBody S) (defScope S) .none v w z n g i) ⟨[a],[]⟩=pure (List.zip [p] [a]):=by intros;rfl):Binds K fd [p] []:=F.binds fun v w z n g i us hl=>L2.on1 (C:=fun us=>bindArgs _ ⟨us,[]⟩=pure (List.zip _ us)) hl (h v w z n g i)
theorem bd2 {K:PySem.W.Frag}{x qual:Str}{S:Stmt}{f:Addr}{fd:FuncData}{p q:Str}(F:Fun K x qual S f fd)(h:∀ (v w z:Value) (n:Option Addr) (g i a b:Value),bindArgs (PySem.W.fnOf x qual (defArgs S) (defBody S) (defScope S) .none v w z n g i) ⟨[a,b],[]⟩=pure (List.zip [p,q] [a,b]):=by intros;rfl):Binds K fd [p,q] []:=F.binds fun v w z n g i us hl=>L2.on2 (C:=fun us=>bindArgs _ ⟨us,[]⟩=pure (List.zip _ us)) hl (h v w z n g i)
theorem bd3 {K:PySem.W.Frag}{x qual:Str}{S:Stmt}{f:Addr}{fd:FuncData}{p q r:Str}(F:Fun K x qual S f fd)(h:∀ (v w z:Value) (n:Option Addr) (g i a b c:Value),bindArgs (PySem.W.fnOf x qual (defArgs S) (defBody S) (defScope S) .none v w z n g i) ⟨[a,b,c],[]⟩=pure (List.zip [p,q,r] [a,b,c]):=by intros;rfl):Binds K fd [p,q,r] []:=F.binds fun v w z n g i us hl=>L2.on3 (C:=fun us=>bindArgs _ ⟨us,[]⟩=pure (List.zip _ us)) hl (h v w z n g i)
theorem all_mk {l:PySem.W.OpenLaw}{w:World}{K:PySem.W.Frag}{h:Heap}{mg:Str->Option Value}{fa:Addr}(X:K.In h)(G:h.Ns mainGlobals mg)(hfa:mg "law" = some (.ref fa))
  {f_0 f_1 f_2 f_3 f_4 f_5 f_6 f_7 f_8 f_9 f_10 f_11 f_12 f_13 f_14 f_15 f_16 f_17 f_18 f_19 f_20 f_21 f_22 f_23 f_24 f_25 f_26 f_27 f_28 f_29 f_30 f_31 f_32 f_33 f_34:Addr}
  {f_35:Addr} {od_35 an_35:Option Addr} {sl_35:Array (Option Value)} {oc_35 kV_35 dc_35 pm_35 cd_35 ct_35:Value}
  {c_BadKinds c_BadWord c_TooMany c_NoSuch c_NotOne c_NoRing c_Web:Addr} {u_LETTERS u_LONGEST u_MOST_OF_A_WEB u_LONGEST_OF_A_WEB:Value}
  (h_0:HF K f_0 "looked_kinds" s_looked_kinds)
  (h_1:HF K f_1 "looked_length" s_looked_length)
  (h_2:HF K f_2 "letters" s_letters)
  (h_3:HF K f_3 "looked" s_looked)
  (h_4:HF K f_4 "row_windows" s_row_windows)
  (h_5:HF K f_5 "ring_windows" s_ring_windows)
  (h_6:HF K f_6 "windows" s_windows)
  (h_7:HF K f_7 "looked_web" s_looked_web)
  (h_8:HM K c_Web f_8 "__init__" "Web.__init__" s_Web_init)
  (h_9:HF K f_9 "begin_of" s_begin_of)
  (h_10:HF K f_10 "end_of" s_end_of)
  (h_11:HF K f_11 "pieces" s_pieces)
  (h_12:HF K f_12 "outs" s_outs)
  (h_13:HF K f_13 "excess" s_excess)
  (h_14:HF K f_14 "hanging_by" s_hanging_by)
  (h_15:HF K f_15 "hanging" s_hanging)
  (h_16:HF K f_16 "why_apart" s_why_apart)
  (h_17:HF K f_17 "why_no_ring" s_why_no_ring)
  (h_18:HF K f_18 "is_turned_ring" s_is_turned_ring)
  (h_19:HF K f_19 "is_ring" s_is_ring)
  (h_20:HF K f_20 "by_begin" s_by_begin)
  (h_21:HF K f_21 "ways_toward" s_ways_toward)
  (h_22:HF K f_22 "coming_to" s_coming_to)
  (h_23:HF K f_23 "is_tree" s_is_tree)
  (h_24:HF K f_24 "parts_of" s_parts_of)
  (h_25:HF K f_25 "whole_orders" s_whole_orders)
  (h_26:HF K f_26 "are_parts" s_are_parts)
  (h_27:HF K f_27 "gone_round" s_gone_round)
  (h_28:HF K f_28 "ring_of" s_ring_of)
  (h_29:HF K f_29 "_law_cell_at" s__law_cell_at)
  (h_30:HF K f_30 "_law_walk" s__law_walk)
  (h_31:HF K f_31 "_law_ring_words" s__law_ring_words)
  (h_32:HF K f_32 "_law_around" s__law_around)
  (h_33:HF K f_33 "_law_due" s__law_due)
  (h_34:HF K f_34 "_law_told" s__law_told)
  (a_35:PySem.W.nsIn K mainGlobals "law" = some (some (.ref f_35))) (l_35:K.lookup f_35=some ⟨oc_35,od_35,.func (PySem.W.fnOf "law" "law" (defArgs s_law) (defBody s_law) (defScope s_law) .none kV_35 dc_35 pm_35 an_35 cd_35 ct_35),sl_35⟩) (c_35:PySem.W.codeIn K cd_35 "law" = true) (k_35:PySem.W.keepIn K (.ref f_35)=true)
  (z_all:PySem.W.nsIn K mainGlobals "all" = some none)
  (z_isinstance:PySem.W.nsIn K mainGlobals "isinstance" = some none)
  (z_len:PySem.W.nsIn K mainGlobals "len" = some none)
  (z_list:PySem.W.nsIn K mainGlobals "list" = some none)
  (z_max:PySem.W.nsIn K mainGlobals "max" = some none)
  (z_min:PySem.W.nsIn K mainGlobals "min" = some none)
  (z_range:PySem.W.nsIn K mainGlobals "range" = some none)
  (z_reversed:PySem.W.nsIn K mainGlobals "reversed" = some none)
  (z_set:PySem.W.nsIn K mainGlobals "set" = some none)
  (z_sorted:PySem.W.nsIn K mainGlobals "sorted" = some none)
  (z_str:PySem.W.nsIn K mainGlobals "str" = some none)
  (z_tuple:PySem.W.nsIn K mainGlobals "tuple" = some none)
  (z_zip:PySem.W.nsIn K mainGlobals "zip" = some none)
  (y_BadKinds:PySem.W.nsIn K mainGlobals "BadKinds" = some (some (.ref c_BadKinds)))
  (y_BadWord:PySem.W.nsIn K mainGlobals "BadWord" = some (some (.ref c_BadWord)))
  (y_TooMany:PySem.W.nsIn K mainGlobals "TooMany" = some (some (.ref c_TooMany)))
  (y_NoSuch:PySem.W.nsIn K mainGlobals "NoSuch" = some (some (.ref c_NoSuch)))
  (y_NotOne:PySem.W.nsIn K mainGlobals "NotOne" = some (some (.ref c_NotOne)))
  (y_NoRing:PySem.W.nsIn K mainGlobals "NoRing" = some (some (.ref c_NoRing)))
  (y_Web:PySem.W.nsIn K mainGlobals "Web" = some (some (.ref c_Web)))
  (e_BadKinds:PySem.W.excIn K c_BadKinds bmVE "ValueError.__new__" = true)
  (e_BadWord:PySem.W.excIn K c_BadWord bmVE "ValueError.__new__" = true)
  (e_TooMany:PySem.W.excIn K c_TooMany bmVE "ValueError.__new__" = true)
  (e_NoSuch:PySem.W.excIn K c_NoSuch bmVE "ValueError.__new__" = true)
  (g_LETTERS:PySem.W.nsIn K mainGlobals "LETTERS" = some (some u_LETTERS)) (r_LETTERS:RelV (T [97,98,99,100,101,102]) u_LETTERS)
  (g_LONGEST:PySem.W.nsIn K mainGlobals "LONGEST" = some (some u_LONGEST)) (r_LONGEST:RelV (.int 24) u_LONGEST)
  (g_MOST_OF_A_WEB:PySem.W.nsIn K mainGlobals "MOST_OF_A_WEB" = some (some u_MOST_OF_A_WEB)) (r_MOST_OF_A_WEB:RelV (.int 64) u_MOST_OF_A_WEB)
  (g_LONGEST_OF_A_WEB:PySem.W.nsIn K mainGlobals "LONGEST_OF_A_WEB" = some (some u_LONGEST_OF_A_WEB)) (r_LONGEST_OF_A_WEB:RelV (.int 8) u_LONGEST_OF_A_WEB)
  (pg_Web:PySem.W.plainGet K c_Web Str.empty=true) (hd_Web:PySem.W.hasDictIn K c_Web=true) (po_Web:PySem.W.plainOver K c_Web=true) (sa_Web:PySem.W.findIn K (.ref c_Web) "__setattr__" = some (some (.builtin "object.__setattr__"))) (mk_Web:PySem.W.makesIn K c_Web=true) (kc_Web:PySem.W.keepIn K (.ref c_Web)=true)
  (na_Web_words:PySem.W.findIn K (.ref c_Web) "words" = some none)
  (na_Web_length:PySem.W.findIn K (.ref c_Web) "length" = some none) :
  ∃ fd:FuncData,(∀ (s:Shared) (v:Value),BindsTo s fd ⟨[v],[]⟩ [("script",v)])∧∀ base:Heap,K.In base->base.Ns mainGlobals mg->FnOk l.prog w K mg base (CX1 l.prog w) 8 fa fd ["script"] (spLaw K):=by
 have e:=hfa.symm.trans (PySem.W.mg_of X G a_35)
 cases e
 obtain ⟨_,F_8,M_Web_init⟩:=h_8.go
 have tt:Txt K mg ⟨c_BadKinds,c_BadWord,c_TooMany,c_NoSuch,c_NotOne,c_NoRing,c_Web,u_LETTERS,u_LONGEST,u_MOST_OF_A_WEB,u_LONGEST_OF_A_WEB⟩:=⟨PySem.W.mg_none_of X G z_all,PySem.W.mg_none_of X G z_isinstance,PySem.W.mg_none_of X G z_len,PySem.W.mg_none_of X G z_list,PySem.W.mg_none_of X G z_max,PySem.W.mg_none_of X G z_min,PySem.W.mg_none_of X G z_range,PySem.W.mg_none_of X G z_reversed,PySem.W.mg_none_of X G z_set,PySem.W.mg_none_of X G z_sorted,PySem.W.mg_none_of X G z_str,PySem.W.mg_none_of X G z_tuple,PySem.W.mg_none_of X G z_zip,PySem.W.mg_of X G y_BadKinds,PySem.W.mg_of X G y_BadWord,PySem.W.mg_of X G y_TooMany,PySem.W.mg_of X G y_NoSuch,PySem.W.mg_of X G y_NotOne,PySem.W.mg_of X G y_NoRing,PySem.W.mg_of X G y_Web,⟨PySem.W.mg_of X G y_BadKinds,e_BadKinds⟩,⟨PySem.W.mg_of X G y_BadWord,e_BadWord⟩,⟨PySem.W.mg_of X G y_TooMany,e_TooMany⟩,⟨PySem.W.mg_of X G y_NoSuch,e_NoSuch⟩,PySem.W.mg_of X G g_LETTERS,r_LETTERS,PySem.W.mg_of X G g_LONGEST,r_LONGEST,PySem.W.mg_of X G g_MOST_OF_A_WEB,r_MOST_OF_A_WEB,PySem.W.mg_of X G g_LONGEST_OF_A_WEB,r_LONGEST_OF_A_WEB,⟨pg_Web,hd_Web,po_Web,sa_Web⟩,na_Web_words,na_Web_length⟩
 obtain ⟨_,F_0,a_0⟩:=h_0.go
 obtain ⟨_,F_1,a_1⟩:=h_1.go
 obtain ⟨_,F_2,a_2⟩:=h_2.go
 obtain ⟨_,F_3,a_3⟩:=h_3.go
 obtain ⟨_,F_4,a_4⟩:=h_4.go
 obtain ⟨_,F_5,a_5⟩:=h_5.go
 obtain ⟨_,F_6,a_6⟩:=h_6.go
 obtain ⟨_,F_7,a_7⟩:=h_7.go
 obtain ⟨_,F_9,a_9⟩:=h_9.go
 obtain ⟨_,F_10,a_10⟩:=h_10.go
 obtain ⟨_,F_11,a_11⟩:=h_11.go
 obtain ⟨_,F_12,a_12⟩:=h_12.go
 obtain ⟨_,F_13,a_13⟩:=h_13.go
 obtain ⟨_,F_14,a_14⟩:=h_14.go
 obtain ⟨_,F_15,a_15⟩:=h_15.go
 obtain ⟨_,F_16,a_16⟩:=h_16.go
 obtain ⟨_,F_17,a_17⟩:=h_17.go
 obtain ⟨_,F_18,a_18⟩:=h_18.go
 obtain ⟨_,F_19,a_19⟩:=h_19.go
 obtain ⟨_,F_20,a_20⟩:=h_20.go
 obtain ⟨_,F_21,a_21⟩:=h_21.go
 obtain ⟨_,F_22,a_22⟩:=h_22.go
 obtain ⟨_,F_23,a_23⟩:=h_23.go
 obtain ⟨_,F_24,a_24⟩:=h_24.go
 obtain ⟨_,F_25,a_25⟩:=h_25.go
 obtain ⟨_,F_26,a_26⟩:=h_26.go
 obtain ⟨_,F_27,a_27⟩:=h_27.go
 obtain ⟨_,F_28,a_28⟩:=h_28.go
 obtain ⟨_,F_29,a_29⟩:=h_29.go
 obtain ⟨_,F_30,a_30⟩:=h_30.go
 obtain ⟨_,F_31,a_31⟩:=h_31.go
 obtain ⟨_,F_32,a_32⟩:=h_32.go
 obtain ⟨_,F_33,a_33⟩:=h_33.go
 obtain ⟨_,F_34,a_34⟩:=h_34.go
 have F_35:=fun_mk (st:=s_law) l_35 c_35 k_35
 refine ⟨PySem.W.fnOf "law" "law" (defArgs s_law) (defBody s_law) (defScope s_law) .none kV_35 dc_35 pm_35 an_35 cd_35 ct_35,fun s v=>.of_eq rfl,fun base _ _=>?_⟩
 have C_0:=mkC l.prog w base X G a_0 F_0 (ok_looked_kinds F_0 tt) (bd1 F_0)
 have C_1:=mkC l.prog w base X G a_1 F_1 (ok_looked_length F_1 tt C_0) (bd2 F_1)
 have C_2:=mkC l.prog w base X G a_2 F_2 (ok_letters F_2 tt C_0) (bd1 F_2)
 have C_3:=mkC l.prog w base X G a_3 F_3 (ok_looked F_3 tt C_1 C_2) (bd2 F_3)
 have C_4:=mkC l.prog w base X G a_4 F_4 (ok_row_windows F_4 tt) (bd2 F_4)
 have C_5:=mkC l.prog w base X G a_5 F_5 (ok_ring_windows F_5 tt) (bd2 F_5)
 have C_6:=mkC l.prog w base X G a_6 F_6 (ok_windows F_6 tt C_4 C_5) (bd3 F_6)
 have C_7:=mkC l.prog w base X G a_7 F_7 (ok_looked_web F_7 tt C_3) (bd1 F_7)
 have C_8:Cam l.prog w K mg base (CX1 l.prog w) "Web" c_Web 5 ["self", "words"] (spWebI K _):=⟨⟨_,_,ok_Web_init F_8 tt C_7,⟨mk_Web,M_Web_init.at_,M_Web_init.fn,kc_Web⟩,PySem.W.mg_of X G y_Web,(bd2 F_8)⟩⟩
 have C_9:=mkC l.prog w base X G a_9 F_9 (ok_begin_of F_9 tt) (bd1 F_9)
 have C_10:=mkC l.prog w base X G a_10 F_10 (ok_end_of F_10 tt) (bd1 F_10)
 have C_11:=mkC l.prog w base X G a_11 F_11 (ok_pieces F_11 tt C_9 C_10) (bd1 F_11)
 have C_12:=mkC l.prog w base X G a_12 F_12 (ok_outs F_12 tt C_9) (bd2 F_12)
 have C_13:=mkC l.prog w base X G a_13 F_13 (ok_excess F_13 tt C_9 C_10) (bd2 F_13)
 have C_14:=mkC l.prog w base X G a_14 F_14 (ok_hanging_by F_14 tt C_9 C_10) (bd2 F_14)
 have C_15:=mkC l.prog w base X G a_15 F_15 (ok_hanging F_15 tt C_11 C_14) (bd2 F_15)
 have C_16:=mkC l.prog w base X G a_16 F_16 (ok_why_apart F_16 tt C_11 C_15) (bd1 F_16)
 have C_17:=mkC l.prog w base X G a_17 F_17 (ok_why_no_ring F_17 tt C_11 C_13 C_16) (bd1 F_17)
 have C_18:=mkC l.prog w base X G a_18 F_18 (ok_is_turned_ring F_18 tt C_6) (bd2 F_18)
 have C_19:=mkC l.prog w base X G a_19 F_19 (ok_is_ring F_19 tt C_18 C_6) (bd2 F_19)
 have C_20:=mkC l.prog w base X G a_20 F_20 (ok_by_begin F_20 tt C_9) (bd1 F_20)
 have C_21:=mkC l.prog w base X G a_21 F_21 (ok_ways_toward F_21 tt C_11 C_12) (bd2 F_21)
 have C_22:=mkC l.prog w base X G a_22 F_22 (ok_coming_to F_22 tt C_10 C_9) (bd2 F_22)
 have C_23:=mkC l.prog w base X G a_23 F_23 (ok_is_tree F_23 tt C_21 C_9 C_22) (bd3 F_23)
 have C_24:=mkC l.prog w base X G a_24 F_24 (ok_parts_of F_24 tt C_19 C_6 C_20 C_11 C_9) (bd2 F_24)
 have C_25:=mkC l.prog w base X G a_25 F_25 (ok_whole_orders F_25 tt C_20 C_11 C_9) (bd3 F_25)
 have C_26:=mkC l.prog w base X G a_26 F_26 (ok_are_parts F_26 tt C_23 C_25 C_11 C_12 C_9) (bd3 F_26)
 have C_27:=mkC l.prog w base X G a_27 F_27 (ok_gone_round F_27 tt C_9 C_10) (bd2 F_27)
 have C_28:=mkC l.prog w base X G a_28 F_28 (ok_ring_of F_28 tt C_17 C_26 C_25 C_27) (bd3 F_28)
 have C_29:=mkC l.prog w base X G a_29 F_29 (ok__law_cell_at F_29 tt) (bd2 F_29)
 have C_30:=mkC l.prog w base X G a_30 F_30 (ok__law_walk F_30 tt) (bd3 F_30)
 have C_31:=mkC l.prog w base X G a_31 F_31 (ok__law_ring_words F_31 tt C_29 C_30) (bd3 F_31)
 have C_32:=mkC l.prog w base X G a_32 F_32 (ok__law_around F_32 tt) (bd2 F_32)
 have C_33:=mkC l.prog w base X G a_33 F_33 (ok__law_due F_33 tt) (bd1 F_33)
 have C_34:=mkC l.prog w base X G a_34 F_34 (ok__law_told F_34 tt C_24) (bd3 F_34)
 exact ok_law F_35 tt C_29 C_31 C_8 C_33 C_34 C_28 C_32 C_24
theorem walk {l : PySem.W.OpenLaw} {q : Program} {loose : List Str} {XP : (Str → Option Value) → Heap → Prop} {YP : World → Heap → Prop} {d : DefRec} {K : Params → PySem.W.Frag} (hn : l.most = some 63) (hdf : d.params.defaults = [])
  (hY : ∀ (w : World) (h : Heap), YP w h → (K w.params).In h)
  (F : ∀ (w : World) (mg : Str → Option Value) (fa : Addr) (h : Heap), (K w.params).In h → h.Ns mainGlobals mg → mg d.name = some (.ref fa) →
   ∃ fd : FuncData, (∀ (s : Shared) (u : Value), BindsTo s fd ⟨[u], []⟩ [("script", u)]) ∧ ∀ base : Heap, (K w.params).In base → base.Ns mainGlobals mg → FnOk l.prog w (K w.params) mg base (CX1 l.prog w) 8 fa fd ["script"] (spLaw (K w.params))) :
  PySem.W.WalkO q loose XP YP l.row.toRowW d [] (fun f vs => PySem.call f vs) :=
 L2.walk_of (n := 63) (k := 8) (x := "script") (CX := fun w => CX1 l.prog w) (sp := fun w => spLaw (K w.params)) hn (by decide) hdf ⟨rfl, by decide, by decide⟩ hY F (fun _ _ a ns hl _ hS => ⟨a, ns, rfl, hS, hl, fun _ => rfl⟩) fun _ _ _ _ _ ⟨_, _, _, _, _, z⟩ => z
end K42
theorem PySem.W.Fast.tw12592178262351674944:True:=trivial
theorem PySem.W.Fast.tw825222153213463328:True:=trivial
theorem PySem.W.Fast.tw1171687899263816608:True:=trivial
theorem PySem.W.Fast.tw1470656445301749185:True:=trivial
theorem PySem.W.Fast.tw9754450277148888929:True:=trivial
theorem PySem.W.Fast.tw5260036907286039457:True:=trivial
theorem PySem.W.Fast.tw3896728922726067522:True:=trivial
theorem PySem.W.Fast.tw14093442714812589442:True:=trivial
theorem PySem.W.Fast.tw11294511267457445506:True:=trivial
theorem PySem.W.Fast.tw17981098745072694050:True:=trivial
theorem PySem.W.Fast.tw10699721381756245059:True:=trivial
theorem PySem.W.Fast.tw6190164832545429187:True:=trivial
theorem PySem.W.Fast.tw9694150902586424484:True:=trivial
theorem PySem.W.Fast.tw1877440429125413156:True:=trivial
theorem PySem.W.Fast.tw7659721647366261028:True:=trivial
theorem PySem.W.Fast.tw12624294341051298148:True:=trivial
theorem PySem.W.Fast.tw6786508214584740452:True:=trivial
theorem PySem.W.Fast.tw3597512212121286244:True:=trivial
theorem PySem.W.Fast.tw7267487990768659108:True:=trivial
theorem PySem.W.Fast.tw8273071750229081924:True:=trivial
theorem PySem.W.Fast.tw5318560961799568260:True:=trivial
theorem PySem.W.Fast.tw13913093819962902404:True:=trivial
theorem PySem.W.Fast.tw3208955124474347749:True:=trivial
theorem PySem.W.Fast.tw3413401568649698597:True:=trivial
theorem PySem.W.Fast.tw15568246621952778885:True:=trivial
theorem PySem.W.Fast.tw15357832285112512133:True:=trivial
theorem PySem.W.Fast.tw6586449636518914949:True:=trivial
theorem PySem.W.Fast.tw4419823897183820934:True:=trivial
theorem PySem.W.Fast.tw12185376291687484550:True:=trivial
theorem PySem.W.Fast.tw11800038697947778278:True:=trivial
theorem PySem.W.Fast.tw9598901028738826566:True:=trivial
theorem PySem.W.Fast.tw13896697029993296294:True:=trivial
theorem PySem.W.Fast.tw12491413561599571718:True:=trivial
theorem PySem.W.Fast.tw13987686282501469990:True:=trivial
theorem PySem.W.Fast.tw14096134954371988262:True:=trivial
theorem PySem.W.Fast.tw10642614589560643430:True:=trivial
theorem PySem.W.Fast.tw333512437512064902:True:=trivial
theorem PySem.W.Fast.tw8986984966096282631:True:=trivial
theorem PySem.W.Fast.tw17066631442789895335:True:=trivial
theorem PySem.W.Fast.tw419628943956053959:True:=trivial
theorem PySem.W.Fast.tw7459503556460248039:True:=trivial
theorem PySem.W.Fast.tw11063135917026390088:True:=trivial
theorem PySem.W.Fast.tw14115395287055543464:True:=trivial
theorem PySem.W.Fast.tw2269083423997769992:True:=trivial
theorem PySem.W.Fast.tw7414658734027720360:True:=trivial
theorem PySem.W.Fast.tw14611843990928857800:True:=trivial
theorem PySem.W.Fast.tw3007479963580128489:True:=trivial
theorem PySem.W.Fast.tw15318596021075720745:True:=trivial
theorem PySem.W.Fast.tw14613437042992523881:True:=trivial
theorem PySem.W.Fast.tw15255748972534601353:True:=trivial
theorem PySem.W.Fast.tw5407533923879177993:True:=trivial
theorem PySem.W.Fast.tw8893450550188124073:True:=trivial
theorem PySem.W.Fast.tw16390906801516897322:True:=trivial
theorem PySem.W.Fast.tw8739999295719013514:True:=trivial
theorem PySem.W.Fast.tw3799342952169499786:True:=trivial
theorem PySem.W.Fast.tw17589421387818627306:True:=trivial
theorem PySem.W.Fast.tw15418912163330377962:True:=trivial
theorem PySem.W.Fast.tw15344515836378642826:True:=trivial
theorem PySem.W.Fast.tw9082771928465093098:True:=trivial
theorem PySem.W.Fast.tw16416069021369267850:True:=trivial
theorem PySem.W.Fast.tw9469644876740641546:True:=trivial
theorem PySem.W.Fast.tw16525046258501718890:True:=trivial
theorem PySem.W.Fast.tw10114641661874199498:True:=trivial
theorem PySem.W.Fast.tw7893647192733953035:True:=trivial
theorem PySem.W.Fast.tw9209997575671527787:True:=trivial
theorem PySem.W.Fast.tw8017597363314142667:True:=trivial
theorem PySem.W.Fast.tw8733690873628545611:True:=trivial
theorem PySem.W.Fast.tw8055398137234084012:True:=trivial
theorem PySem.W.Fast.tw7980821728754168172:True:=trivial
theorem PySem.W.Fast.tw16068171721751022124:True:=trivial
theorem PySem.W.Fast.tw13753509981381425708:True:=trivial
theorem PySem.W.Fast.tw10622165106885810924:True:=trivial
theorem PySem.W.Fast.tw15512365298372878381:True:=trivial
theorem PySem.W.Fast.tw3484069858795114605:True:=trivial
theorem PySem.W.Fast.tw4719565056310920333:True:=trivial
theorem PySem.W.Fast.tw16523739448416670989:True:=trivial
theorem PySem.W.Fast.tw7914961177563698477:True:=trivial
theorem PySem.W.Fast.tw3026033945290082765:True:=trivial
theorem PySem.W.Fast.tw1863242852203032173:True:=trivial
theorem PySem.W.Fast.tw13895786428554262157:True:=trivial
theorem PySem.W.Fast.tw4867921324231690157:True:=trivial
theorem PySem.W.Fast.tw15603037424961022893:True:=trivial
theorem PySem.W.Fast.tw13465135975912760878:True:=trivial
theorem PySem.W.Fast.tw17959960076916179598:True:=trivial
theorem PySem.W.Fast.tw15671545473595482030:True:=trivial
theorem PySem.W.Fast.tw8368384729937746991:True:=trivial
theorem PySem.W.Fast.tw15872084655219179695:True:=trivial
theorem PySem.W.Fast.tw9383010927600274703:True:=trivial
theorem PySem.W.Fast.tw1120562540797401519:True:=trivial
theorem PySem.W.Fast.tw9591817165482329551:True:=trivial
theorem PySem.W.Fast.tw17110139581786994191:True:=trivial
theorem PySem.W.Fast.tw4476677366030491215:True:=trivial
theorem PySem.W.Fast.tw5087327342916606607:True:=trivial
theorem PySem.W.Fast.tw11066129107106749167:True:=trivial
theorem PySem.W.Fast.tw4296582257989608271:True:=trivial
theorem PySem.W.Fast.tw740929772788205423:True:=trivial
theorem PySem.W.Fast.tw10815066530380108751:True:=trivial
theorem PySem.W.Fast.tw13545912859814666672:True:=trivial
theorem PySem.W.Fast.tw96476390780054960:True:=trivial
theorem PySem.W.Fast.tw14229089002639948240:True:=trivial
theorem PySem.W.Fast.tw8172209439101645424:True:=trivial
theorem PySem.W.Fast.tw4430170577122699888:True:=trivial
theorem PySem.W.Fast.tw18218292116183512720:True:=trivial
theorem PySem.W.Fast.tw1368387644252939952:True:=trivial
theorem PySem.W.Fast.tw2620807177295946480:True:=trivial
theorem PySem.W.Fast.tw5576630120217918256:True:=trivial
theorem PySem.W.Fast.tw3680974656469994416:True:=trivial
theorem PySem.W.Fast.tw11202167325804457936:True:=trivial
theorem PySem.W.Fast.tw1245922618697102385:True:=trivial
theorem PySem.W.Fast.tw18237412581212423313:True:=trivial
theorem PySem.W.Fast.tw2490765344058404177:True:=trivial
theorem PySem.W.Fast.tw5873192573483286065:True:=trivial
theorem PySem.W.Fast.tw6200351446881348497:True:=trivial
theorem PySem.W.Fast.tw2198982384327752050:True:=trivial
theorem PySem.W.Fast.tw9182624346383797746:True:=trivial
theorem PySem.W.Fast.tw10869085366664527346:True:=trivial
theorem PySem.W.Fast.tw2049509922730113682:True:=trivial
theorem PySem.W.Fast.tw3312280613793439538:True:=trivial
theorem PySem.W.Fast.tw16950401323102654258:True:=trivial
theorem PySem.W.Fast.tw7199419004555442034:True:=trivial
theorem PySem.W.Fast.tw10538201057821056051:True:=trivial
theorem PySem.W.Fast.tw2411603824221600851:True:=trivial
theorem PySem.W.Fast.tw15794813122972309619:True:=trivial
theorem PySem.W.Fast.tw6755069632777033875:True:=trivial
theorem PySem.W.Fast.tw7080712220152521011:True:=trivial
theorem PySem.W.Fast.tw17362231167264001363:True:=trivial
theorem PySem.W.Fast.tw4254848488680404307:True:=trivial
theorem PySem.W.Fast.tw2252575679395340723:True:=trivial
theorem PySem.W.Fast.tw8718888276769417332:True:=trivial
theorem PySem.W.Fast.tw1031416450452527252:True:=trivial
theorem PySem.W.Fast.tw9691633711559666996:True:=trivial
theorem PySem.W.Fast.tw13101746763754663636:True:=trivial
theorem PySem.W.Fast.tw16612069703695802421:True:=trivial
theorem PySem.W.Fast.tw16673087839162427541:True:=trivial
theorem PySem.W.Fast.tw2127751892856247477:True:=trivial
theorem PySem.W.Fast.tw989793884760816821:True:=trivial
theorem PySem.W.Fast.tw12899293977254370549:True:=trivial
theorem PySem.W.Fast.tw17898372727317094805:True:=trivial
theorem PySem.W.Fast.tw10500238141839117941:True:=trivial
theorem PySem.W.Fast.tw17542519036997209749:True:=trivial
theorem PySem.W.Fast.tw9104794463174565653:True:=trivial
theorem PySem.W.Fast.tw6735053873161273141:True:=trivial
theorem PySem.W.Fast.tw8777491147052947606:True:=trivial
theorem PySem.W.Fast.tw12062941605334460566:True:=trivial
theorem PySem.W.Fast.tw5014887531037168150:True:=trivial
theorem PySem.W.Fast.tw13106538958472783798:True:=trivial
theorem PySem.W.Fast.tw7906009515828247478:True:=trivial
theorem PySem.W.Fast.tw1840749602067267574:True:=trivial
theorem PySem.W.Fast.tw1421104436146452631:True:=trivial
theorem PySem.W.Fast.tw13207081888416537879:True:=trivial
theorem PySem.W.Fast.tw5925263275585883415:True:=trivial
theorem PySem.W.Fast.tw4234519647194209239:True:=trivial
theorem PySem.W.Fast.tw17400192413876785143:True:=trivial
theorem PySem.W.Fast.tw18241848671357823384:True:=trivial
theorem PySem.W.Fast.tw17048174157709261592:True:=trivial
theorem PySem.W.Fast.tw11623598496077882585:True:=trivial
theorem PySem.W.Fast.tw6417014950456124857:True:=trivial
theorem PySem.W.Fast.tw9643739559688237561:True:=trivial
theorem PySem.W.Fast.tw14828680877567272505:True:=trivial
theorem PySem.W.Fast.tw9460965403413625497:True:=trivial
theorem PySem.W.Fast.tw1540039011402913497:True:=trivial
theorem PySem.W.Fast.te6777581437475642201:True:=trivial
theorem PySem.W.Fast.tw12875014287592549594:True:=trivial
theorem PySem.W.Fast.tw14977408445962259834:True:=trivial
theorem PySem.W.Fast.tw7687876768011485594:True:=trivial
theorem PySem.W.Fast.tw5745591367521869626:True:=trivial
theorem PySem.W.Fast.tw17859016378231323707:True:=trivial
theorem PySem.W.Fast.tw17078925957374022203:True:=trivial
theorem PySem.W.Fast.tw4165549096388885243:True:=trivial
theorem PySem.W.Fast.tw6359716726944235515:True:=trivial
theorem PySem.W.Fast.tw14708161155361570940:True:=trivial
theorem PySem.W.Fast.tw12541719905276495100:True:=trivial
theorem PySem.W.Fast.tw439584184855365148:True:=trivial
theorem PySem.W.Fast.tw2621120624558947868:True:=trivial
theorem PySem.W.Fast.tw2620937845456662076:True:=trivial
theorem PySem.W.Fast.tw8333174259484330652:True:=trivial
theorem PySem.W.Fast.tw9818378448886929469:True:=trivial
theorem PySem.W.Fast.tw15858517639695822141:True:=trivial
theorem PySem.W.Fast.tw127138163860893213:True:=trivial
theorem PySem.W.Fast.tw2114893090941591229:True:=trivial
theorem PySem.W.Fast.tw3661724897552692029:True:=trivial
theorem PySem.W.Fast.tw11150219309627160381:True:=trivial
theorem PySem.W.Fast.tw262183149464017885:True:=trivial
theorem PySem.W.Fast.tw9710429362073085086:True:=trivial
theorem PySem.W.Fast.tw10183906338565139806:True:=trivial
theorem PySem.W.Fast.tw10583250628814666110:True:=trivial
theorem PySem.W.Fast.tw18328422044313645534:True:=trivial
theorem PySem.W.Fast.tw948831229986175550:True:=trivial
theorem PySem.W.Fast.tw16492477146811692670:True:=trivial
theorem PySem.W.Fast.tw13933788751162504030:True:=trivial
theorem PySem.W.Fast.tw8742787499373170975:True:=trivial
theorem PySem.W.Fast.tw8188181017481705823:True:=trivial
theorem PySem.W.Fast.tw14454119816533609087:True:=trivial
def PySem.W.Fast.tw3581616274805393789:=PySem.Challenge.pw_onceround_k42_whole_parts_there_and_back
theorem PySem.W.Fast.te3581616274805393789:PySem.Challenge.pw_onceround_k42_whole_parts_there_and_back=PySem.W.Fast.tw3581616274805393789:=rfl
end
open PySem PySem.W PyProof.Rows
set_option maxRecDepth 100000 in
set_option maxHeartbeats 0 in
theorem PySem.Challenge.cw_onceround_k42_whole_parts_there_and_back_holds : PySem.Challenge.rw_onceround_k42_whole_parts_there_and_back.Holds := by
  w_on; o_law; k_head; (case hw => w_witness2)
  k_fill
  refine K42.walk (l := PySem.Challenge.rw_onceround_k42_whole_parts_there_and_back) rfl rfl (fun w h Y => PySem.W.kIn_of Y) ?F
  case F =>
    intro w mg fa h KX G hmg
    refine' K42.all_mk KX G hmg ?h_0 ?h_1 ?h_2 ?h_3 ?h_4 ?h_5 ?h_6 ?h_7 ?h_8 ?h_9 ?h_10 ?h_11 ?h_12 ?h_13 ?h_14 ?h_15 ?h_16 ?h_17 ?h_18 ?h_19 ?h_20 ?h_21 ?h_22 ?h_23 ?h_24 ?h_25 ?h_26 ?h_27 ?h_28 ?h_29 ?h_30 ?h_31 ?h_32 ?h_33 ?h_34 ?a_35 ?l_35 ?c_35 ?k_35 ?z_all ?z_isinstance ?z_len ?z_list ?z_max ?z_min ?z_range ?z_reversed ?z_set ?z_sorted ?z_str ?z_tuple ?z_zip ?y_BadKinds ?y_BadWord ?y_TooMany ?y_NoSuch ?y_NotOne ?y_NoRing ?y_Web ?e_BadKinds ?e_BadWord ?e_TooMany ?e_NoSuch ?g_LETTERS ?r_LETTERS ?g_LONGEST ?r_LONGEST ?g_MOST_OF_A_WEB ?r_MOST_OF_A_WEB ?g_LONGEST_OF_A_WEB ?r_LONGEST_OF_A_WEB ?pg_Web ?hd_Web ?po_Web ?sa_Web ?mk_Web ?kc_Web ?na_Web_words ?na_Web_length
    (case y_Web => k_is)
    (all_goals try (apply K42.hf_mk <;> k_is))
    (case h_8 => apply K42.hm_mk <;> k_is)
    (case a_35 => k_is)
    (case l_35 => k_is)
    (case c_35 => k_is)
    (case k_35 => k_is)
    (case z_all => k_is)
    (case z_isinstance => k_is)
    (case z_len => k_is)
    (case z_list => k_is)
    (case z_max => k_is)
    (case z_min => k_is)
    (case z_range => k_is)
    (case z_reversed => k_is)
    (case z_set => k_is)
    (case z_sorted => k_is)
    (case z_str => k_is)
    (case z_tuple => k_is)
    (case z_zip => k_is)
    (case y_BadKinds => k_is)
    (case y_BadWord => k_is)
    (case y_TooMany => k_is)
    (case y_NoSuch => k_is)
    (case y_NotOne => k_is)
    (case y_NoRing => k_is)
    (case e_BadKinds => kernel_rfl)
    (case e_BadWord => kernel_rfl)
    (case e_TooMany => kernel_rfl)
    (case e_NoSuch => kernel_rfl)
    (case g_LETTERS => k_is)
    (case r_LETTERS => exact ⟨_, rfl⟩)
    (case g_LONGEST => k_is)
    (case r_LONGEST => exact ⟨_, rfl⟩)
    (case g_MOST_OF_A_WEB => k_is)
    (case r_MOST_OF_A_WEB => exact ⟨_, rfl⟩)
    (case g_LONGEST_OF_A_WEB => k_is)
    (case r_LONGEST_OF_A_WEB => exact ⟨_, rfl⟩)
    (case pg_Web => k_is)
    (case hd_Web => k_is)
    (case po_Web => k_is)
    (case sa_Web => k_is)
    (case mk_Web => k_is)
    (case kc_Web => k_is)
    (case na_Web_words => k_is)
    (case na_Web_length => k_is)
#print axioms PySem.Challenge.cw_onceround_k42_whole_parts_there_and_back_holds
