import PyProof.Rows.All
import Wide.All
import OpenK.AllK
import Wide.FinOn
import Lean
import PyProof.EqAt
import PyProof.EqKinds
import PyProof.TupleCall
import PySem.Challenge.RW_onceround_k79_webs_of_pages_refused
set_option genSizeOfSpec false
set_option bootstrap.genMatcherCode false
set_option Elab.async false
set_option linter.all false
set_option maxRecDepth 100000
set_option maxHeartbeats 4000000
noncomputable section
namespace L2
open PySem PySem.Spec PyProof.Rows
abbrev Key:=Sum Int Str
def keyIs:Key->Value->Bool
 | .inl k,v=>Value.isInt k v
 | .inr x,v=>Value.isStrOf x v
def keyH (w:World):Key->Int
 | .inl k=>hashInt k
 | .inr x=>hashStr w x
theorem keyIs_shape:∀ {k:Key} {v:Value},keyIs k v=true->(∃ i t,k=Sum.inl i∧v=Value.int i t)∨(∃ x t,k=Sum.inr x∧v=Value.str x t)
 | .inl i,v,h=>by
  obtain ⟨t,e⟩:=Value.isInt_shape (k:=i) (v:=v) h
  exact .inl ⟨i,t,rfl,e⟩
 | .inr x,v,h=>by
  obtain ⟨t,e⟩:=Value.isStrOf_shape (x:=x) (v:=v) h
  exact .inr ⟨x,t,rfl,e⟩
theorem key_ll (a b:Int):decide ((Sum.inl a:Key)=Sum.inl b)=(a==b):=by
 by_cases e:a=b
 ·subst e;simp
 ·have h:¬ (Sum.inl a:Key)=Sum.inl b:=fun q=>e (Sum.inl.inj q)
  rw [decide_eq_false h]
  exact (beq_eq_false_iff_ne.mpr e).symm
theorem key_rr (a b:Str):decide ((Sum.inr a:Key)=Sum.inr b)=decide (a=b):=by
 by_cases e:a=b
 ·subst e;simp
 ·have h:¬ (Sum.inr a:Key)=Sum.inr b:=fun q=>e (Sum.inr.inj q)
  rw [decide_eq_false h,decide_eq_false e]
theorem key_lr (a:Int)(b:Str):decide ((Sum.inl a:Key)=Sum.inr b)=false:=decide_eq_false (fun q=>nomatch q)
theorem key_rl (a:Str)(b:Int):decide ((Sum.inr a:Key)=Sum.inl b)=false:=decide_eq_false (fun q=>nomatch q)
def mixKind (prog:Program)(w:World):PySem.KeyKind prog w Key where
 is:=keyIs
 hash:=keyH w
 inj:=fun v a b ha hb=>by
  rcases keyIs_shape ha with ⟨i,t,rfl,rfl⟩ | ⟨x,t,rfl,rfl⟩
  ·rcases keyIs_shape hb with ⟨j,u,rfl,e⟩ | ⟨y,u,rfl,e⟩
   ·injection e with e1 _;rw [e1]
   ·exact nomatch e
  ·rcases keyIs_shape hb with ⟨j,u,rfl,e⟩ | ⟨y,u,rfl,e⟩
   ·exact nomatch e
   ·injection e with e1 _;rw [e1]
 byValue:=fun k v h=>by
  rcases keyIs_shape h with ⟨i,t,rfl,rfl⟩ | ⟨x,t,rfl,rfl⟩ <;> rfl
 pyHash:=fun hv h=>by
  rcases keyIs_shape hv with ⟨i,t,rfl,rfl⟩ | ⟨x,t,rfl,rfl⟩
  ·exact wpAny_pyHash_int h
  ·exact wpAny_pyHash_str h
 eqBool:=fun hu hv h=>by
  rcases keyIs_shape hu with ⟨i,t,rfl,rfl⟩ | ⟨x,t,rfl,rfl⟩
  ·rcases keyIs_shape hv with ⟨j,u,rfl,rfl⟩ | ⟨y,u,rfl,rfl⟩
   ·rw [key_ll] at h;exact wpAny_eqBool_int h
   ·rw [key_lr] at h;exact SeqAt.EqAt.int_str i t y u _ _ _ _ h
  ·rcases keyIs_shape hv with ⟨j,u,rfl,rfl⟩ | ⟨y,u,rfl,rfl⟩
   ·rw [key_rl] at h;exact SeqAt.EqAt.str_int x t j u _ _ _ _ h
   ·rw [key_rr] at h;exact wpAny_eqBool_str h
 «strs» := fun k x t v h=>by
  rcases keyIs_shape h with ⟨i,u,rfl,e⟩ | ⟨y,u,rfl,e⟩
  ·exact nomatch e
  ·injection e with e1 _
   subst e1
   cases v <;> rfl
end L2
namespace L2
open PySem PySem.Spec PyProof.Rows
inductive V where
 | non | bl (b:Bool) | int (i:Int) | str (x:Str) | byt (b:Array UInt8) | flt (b:UInt64) | ref (a:Addr) | ty (n:String)
 deriving DecidableEq
def RelV:V->Value->Prop
 | .non,u=>u=Value.none
 | .bl b,u=>u=Value.bool b
 | .int i,u=>∃ t,u=Value.int i t
 | .str x,u=>∃ t,u=Value.str x t
 | .byt b,u=>∃ t,u=Value.bytes b t
 | .flt b,u=>∃ t,u=Value.float b t
 | .ref a,u=>u=Value.ref a
 | .ty n,u=>u=Value.type n
abbrev Vals:List V->List Value->Prop:=Paired RelV
theorem Vals.length {xs:List V}{us:List Value}(r:Vals xs us):xs.length=us.length:=Paired.length r
theorem Vals.get:∀ {xs:List V} {us:List Value} {i:Nat} {x:V},Vals xs us->xs[i]?=some x->∃ u,us[i]?=some u∧RelV x u
 | _,_,_,_,.nil,e=>by simp at e
 | _,_,0,_,.cons r _,e=>by simp at e;subst e;exact ⟨_,rfl,r⟩
 | _,_,i+1,x,.cons _ t,e=>by
  obtain ⟨u,h1,h2⟩:=Vals.get (i:=i) (x:=x) t (by simpa using e)
  exact ⟨u,by simpa using h1,h2⟩
theorem Vals.append:∀ {xs ys:List V} {us ws:List Value},Vals xs us->Vals ys ws->Vals (xs++ys) (us++ws)
 | _,_,_,_,.nil,s=>s
 | _,_,_,_,.cons r t,s=>.cons r (Vals.append t s)
theorem Vals.take:∀ {xs:List V} {us:List Value} (n:Nat),Vals xs us->Vals (xs.take n) (us.take n)
 | _,_,0,_=>.nil
 | _,_,_+1,.nil=>.nil
 | _,_,n+1,.cons r t=>.cons r (Vals.take n t)
theorem Vals.drop:∀ {xs:List V} {us:List Value} (n:Nat),Vals xs us->Vals (xs.drop n) (us.drop n)
 | _,_,0,r=>r
 | _,_,_+1,.nil=>.nil
 | _,_,n+1,.cons _ t=>Vals.drop n t
def RelO:Option V->Option Value->Prop
 | some v,some u=>RelV v u
 | none,none=>True
 | _,_=>False
def KV {κ:Type}:List (κ×V)->List (κ×Value)->Prop:=Paired fun (p:κ×V) (q:κ×Value)=>p.1=q.1∧RelV p.2 q.2
def kV:Key->V
 | .inl i=>.int i
 | .inr x=>.str x
inductive HO where
 | lst (xs:List V)
 | tup (xs:List V)
 | dK (kvs:List (Key×V)) | dT (kvs:List (List Key×V))
 | set (S:Int->Bool) (n:Nat)
 | ins (C dx:Addr) (fs:List (Str×V))
 | own (x:Addr)
 | xd (fs:List (Str×V))
 | met (f x:Addr)
 | rng (lo hi:Int)
 | frz (o:Obj) (u:HO)
 | tbl (ps:Array Value)
 | ext (φ:Heap->Prop)
abbrev Hp:=Addr->Option HO
def upd (H:Hp)(a:Addr)(o:HO):Hp:=fun b=>if b=a then some o else H b
theorem upd_same {H:Hp}{a:Addr}{o:HO}:upd H a o a=some o:=by unfold upd;rw [if_pos rfl]
theorem upd_ne {H:Hp}{a b:Addr}{o:HO}(h:b≠a):upd H a o b=H b:=by unfold upd;rw [if_neg h]
theorem upd_upd {H:Hp}{a:Addr}{o u:HO}:upd (upd H a o) a u=upd H a u:=by
 funext b;unfold upd;split <;> rfl
theorem ne_of_none {H:Hp}{a b:Addr}{o:HO}(h:H a=some o)(h':H b=none):a≠b:=by
 intro e;subst e;rw [h] at h';cases h'
section
variable (P:Program)(w:World)
def ObjOk (H:Hp)(h:Heap)(a:Addr):HO->Prop
 | .lst xs=>xs.length<=sizeLine∧∃ (its:List Value) (n:Nat),Vals xs its∧h.get? a=some { cls:=.type "list",data:=.seq its.toArray n }
 | .tup xs=>xs.length<=sizeLine∧∃ its:List Value,Vals xs its∧IsTup h a its.toArray
 | .dK kvs=>kvs.length<=sizeLine∧(a==sysModules)=false∧∃ vs,KV kvs vs∧h.DictOf (mixKind P w) a vs
 | .dT kvs=>kvs.length<=sizeLine∧(a==sysModules)=false∧∃ xs:List (List Key×Addr×Value),
  Paired (fun (p:List Key×V) (q:List Key×Addr×Value)=>p.1=q.1∧H q.2.1=some (.tup (p.1.map kV))∧RelV p.2 q.2.2) kvs xs ∧
  ∃ o es ep,h.get? a=some o∧o.ExactDict∧o.data = .dict es ep∧es.toList=xs.map (entryOfKey (tupleKind (mixKind P w)))∧(xs.map (·.1)).Nodup
 | .set S n=>h.SetOf (intKind P w) a S n
 | .ins C dx fs=>H dx=some (.own a)∧fs.length<=1000∧dx≠a∧h.get? a=some (PySem.W.instObj C dx) ∧
  ∃ mA,h.Ns1 dx mA∧(∀ f,RelO (fs.lookup f) (mA f))∧PySem.Within mA (fs.map (·.1))
 | .own _=>∃ o,h.get? a=some o
 | .xd fs=>∃ mA,h.Ns1 a mA∧∀ f,RelO (fs.lookup f) (mA f)
 | .rng lo hi=>∃ t u v,h.get? a=some { cls:=.type "range",data:=.fields #[.int lo t,.int hi u,.int 1 v] }
 | .frz o u=>h.get? a=some o∧ObjOk H h a u
 | .tbl ps=>h.get? a=some { cls:=.none,data:=.fields ps }
 | .met f x=>h.get? a=some (PySem.W.methodObj (.ref f) (.ref x))
 | .ext φ=>φ h∧(∃ o,h.get? a=some o)∧∀ h1 h2:Heap,φ h1->(∀ o,h1.get? a=some o->h2.get? a=some o)->φ h2
def HOk (H:Hp)(h:Heap):Prop:=∀ a o,H a=some o->ObjOk P w H h a o
end
section
variable {P:Program}{w:World}{H H':Hp}{h h':Heap}{a:Addr}{o:HO}
theorem ObjOk.lt (x:ObjOk P w H h a o):a<h.objs.size:=by
 cases o with
 | lst xs=>obtain ⟨_,_,_,_,e⟩:=x;exact Heap.lt_size e
 | tup xs=>obtain ⟨_,_,_,p⟩:=x;exact p.lt
 | dK kvs=>obtain ⟨_,_,_,_,o,_,_,e,_⟩:=x;exact Heap.lt_size e
 | dT kvs=>obtain ⟨_,_,_,_,o,_,_,e,_⟩:=x;exact Heap.lt_size e
 | set S n=>obtain ⟨o,_,_,_,e,_⟩:=x;exact Heap.lt_size e
 | ins C dx fs=>obtain ⟨_,_,_,e,_⟩:=x;exact Heap.lt_size e
 | own y=>obtain ⟨_,e⟩:=x;exact Heap.lt_size e
 | xd fs=>obtain ⟨_,⟨_,_,_,e,_⟩,_⟩:=x;exact Heap.lt_size e
 | rng lo hi=>obtain ⟨_,_,_,e⟩:=x;exact Heap.lt_size e
 | frz ob u=>obtain ⟨e,_⟩:=x;exact Heap.lt_size e
 | tbl ps=>exact Heap.lt_size (show h.get? a=some _ from x)
 | met f y=>exact Heap.lt_size (show h.get? a=some _ from x)
 | ext φ=>obtain ⟨_,⟨_,e⟩,_⟩:=x;exact Heap.lt_size e
theorem Paired.mapP {α β:Type}{F G:α->β->Prop}:∀ {l₁:List α} {l₂:List β},Paired F l₁ l₂->(∀ a b,F a b->G a b)->Paired G l₁ l₂
 | _,_,.nil,_=>.nil
 | _,_,.cons r t,f=>.cons (f _ _ r) (Paired.mapP t f)
theorem ObjOk.stay (x:ObjOk P w H h a o)(k:∀ b u,(b=a∨H b=some (.own a))->h.get? b=some u->h'.get? b=some u)
  (ho:∀ b,H b=some (.own a)->H' b=some (.own a)) (ht:∀ b xs,H b=some (.tup xs)->H' b=some (.tup xs)):ObjOk P w H' h' a o:=by
 induction o with
 | lst xs=>obtain ⟨z,its,n,r,e⟩:=x;exact ⟨z,its,n,r,k _ _ (.inl rfl) e⟩
 | tup xs=>obtain ⟨z,its,r,ob,e,c⟩:=x;exact ⟨z,its,r,ob,k _ _ (.inl rfl) e,c⟩
 | dK kvs=>obtain ⟨z,y,vs,r,ob,es,ep,e,c⟩:=x;exact ⟨z,y,vs,r,ob,es,ep,k _ _ (.inl rfl) e,c⟩
 | dT kvs =>
  obtain ⟨z,y,xs,r,ob,es,ep,e,c⟩:=x
  exact ⟨z,y,xs,Paired.mapP r fun p q z=>⟨z.1,ht _ _ z.2.1,z.2.2⟩,ob,es,ep,k _ _ (.inl rfl) e,c⟩
 | set S n=>obtain ⟨ob,es,ep,t,e,c⟩:=x;exact ⟨ob,es,ep,t,k _ _ (.inl rfl) e,c⟩
 | ins C dx fs =>
  obtain ⟨d,z,ne,e,mA,⟨od,es,ep,e2,c⟩,r⟩:=x
  exact ⟨ho _ d,z,ne,k _ _ (.inl rfl) e,mA,⟨od,es,ep,k _ _ (.inr d) e2,c⟩,r⟩
 | own y=>obtain ⟨ob,e⟩:=x;exact ⟨ob,k _ _ (.inl rfl) e⟩
 | xd fs=>obtain ⟨mA,⟨od,es,ep,e,c⟩,r⟩:=x;exact ⟨mA,⟨od,es,ep,k _ _ (.inl rfl) e,c⟩,r⟩
 | rng lo hi=>obtain ⟨t,u,v,e⟩:=x;exact ⟨t,u,v,k _ _ (.inl rfl) e⟩
 | frz ob u ih=>obtain ⟨e,q⟩:=x;exact ⟨k _ _ (.inl rfl) e,ih q⟩
 | tbl ps =>
  have e:h.get? a=some { cls:=.none,data:=.fields ps }:=x
  show h'.get? a=some { cls:=.none,data:=.fields ps }
  exact k a _ (.inl rfl) e
 | met f y =>
  have e:h.get? a=some (PySem.W.methodObj (.ref f) (.ref y)):=x
  show h'.get? a=some (PySem.W.methodObj (.ref f) (.ref y))
  exact k a _ (.inl rfl) e
 | ext φ=>obtain ⟨p,⟨o,e⟩,st⟩:=x;exact ⟨st _ _ p fun o q=>k _ _ (.inl rfl) q,⟨o,k _ _ (.inl rfl) e⟩,st⟩
theorem HOk.lt (x:HOk P w H h)(e:H a=some o):a<h.objs.size:=(x a o e).lt
theorem HOk.fresh (x:HOk P w H h)(e:h.objs.size<=a):H a=none:=by
 cases q:H a with
 | none=>rfl
 | some u=>exact absurd (Nat.lt_of_lt_of_le (x.lt q) e) (Nat.lt_irrefl _)
theorem HOk.kept (x:HOk P w H h)(k:∀ b u,h.get? b=some u->h'.get? b=some u):HOk P w H h':=fun a o e =>
 (x a o e).stay (fun b u _ q=>k b u q) (fun _ q=>q) fun _ _ q=>q
theorem HOk.laid (x:HOk P w H h)(k:∀ b u,h.get? b=some u->h'.get? b=some u)(hp:h.objs.size<=a)(new:ObjOk P w (upd H a o) h' a o):HOk P w (upd H a o) h':=fun b u e=>by
 have hn:=x.fresh hp
 by_cases hb:b=a
 ·subst hb;rw [upd_same] at e;cases e;exact new
 ·rw [upd_ne hb] at e
  exact (x b u e).stay (fun c v _ q=>k c v q) (fun c q=>by rw [upd_ne (ne_of_none q hn)];exact q) fun c xs q=>by rw [upd_ne (ne_of_none q hn)];exact q
end
def Rd (H:Hp)(a:Addr)(u:HO):Prop:=H a=some u∨∃ o,H a=some (.frz o u)
theorem Rd.ok {P:Program}{w:World}{H:Hp}{h:Heap}{a:Addr}{u:HO}(r:Rd H a u)(x:HOk P w H h):ObjOk P w H h a u:=by
 rcases r with r | ⟨o,r⟩
 ·exact x a u r
 ·obtain ⟨_,q⟩:=x a _ r
  exact q
def Mut:Option HO->Prop
 | some (.lst _)=>True
 | some (.dK _)=>True
 | some (.dT _)=>True
 | some (.set _ _)=>True
 | some (.ins _ _ _)=>True
 | some (.ext _)=>True
 | _=>False
section
variable {P:Program}{w:World}{H:Hp}{h h':Heap}{x e:Addr}{o':HO}
theorem HOk.write (ok:HOk P w H h)(mu:Mut (H x))(he:e=x∨H e=some (.own x))(k:∀ b u,b≠e->h.get? b=some u->h'.get? b=some u)(heo:∃ u,h'.get? e=some u)
  (new:ObjOk P w (upd H x o') h' x o'):HOk P w (upd H x o') h':=fun b u q=>by
 have nown:∀ c y,H c=some (.own y)->c≠x:=fun c y r z=>by subst z;rw [r] at mu;exact mu
 have ntup:∀ c xs,H c=some (.tup xs)->c≠x:=fun c xs r z=>by subst z;rw [r] at mu;exact mu
 by_cases hb:b=x
 ·subst hb;rw [upd_same] at q;cases q;exact new
 ·rw [upd_ne hb] at q
  by_cases hbe:b=e
  ·have q':H b=some (.own x):=by
    rcases he with z | z
    ·exact absurd (hbe.trans z) hb
    ·rw [hbe];exact z
   rw [q] at q';cases q'
   obtain ⟨v,hv⟩:=heo
   exact ⟨v,by rw [hbe];exact hv⟩
  ·refine (ok b u q).stay (fun c v hc r=>k c v ?_ r) (fun c r=>by rw [upd_ne (nown c b r)];exact r) fun c xs r=>by rw [upd_ne (ntup c xs r)];exact r
   rcases hc with rfl | hc
   ·exact hbe
   ·rintro rfl
    rcases he with z | z
    ·exact nown c b hc z
    ·rw [hc] at z;cases z;exact hb rfl
end
set_option genInjectivity false in
structure Un (fs ex:List Addr)(H H':Hp)(h h':Heap):Prop where
 keep:∀ b o,h.get? b=some o->H b=none->b∉fs->b∉ex->h'.get? b=some o
 slot:∀ b o,h.get? b=some o->H b=none->b∈fs->b∉ex->∃ sl,h'.get? b=some { o with slots:=sl }
 free:∀ b o,h.get? b=some o->H b=none->b∉ex->H' b=none
 there:∀ b o,h.get? b=some o->b∉ex->∃ o',h'.get? b=some o'
 tups:∀ b xs,H b=some (.tup xs)->H' b=some (.tup xs)
 frzs:∀ b o u,H b=some (.frz o u)->H' b=some (.frz o u)
 tbls:∀ b ps,H b=some (.tbl ps)->∃ more,H' b=some (.tbl (ps++more))
section
variable {fs fs' ex ex':List Addr}{H H1 H2:Hp}{h h1 h2 h':Heap}{a x e:Addr}{o:HO}
theorem Un.any (u:Un fs ex H H1 h h1){b:Addr}{ob:Obj}(q:h.get? b=some ob)(n:H b=none)(hx:b∉ex):∃ sl,h1.get? b=some { ob with slots:=sl }:=by
 by_cases hb:b∈fs
 ·exact u.slot b ob q n hb hx
 ·exact ⟨ob.slots,u.keep b ob q n hb hx⟩
theorem Un.kept (k:∀ b u,h.get? b=some u->h'.get? b=some u):Un fs ex H H h h' :=
 ⟨fun b ob q _ _ _=>k b ob q,fun b ob q _ _ _=>⟨ob.slots,k b ob q⟩,fun _ _ _ n _=>n,fun b ob q _=>⟨ob,k b ob q⟩,fun _ _ q=>q,fun _ _ _ q=>q,fun _ ps q=>⟨#[],by rw [q];simp⟩⟩
theorem Un.refl:Un fs ex H H h h:=Un.kept fun _ _ q=>q
theorem Un.laid (k:∀ b u,h.get? b=some u->h'.get? b=some u)(hp:h.objs.size<=a)(hn:H a=none):Un fs ex H (upd H a o) h h' where
 keep:=fun b u q _ _ _=>k b u q
 slot:=fun b u q _ _ _=>⟨u.slots,k b u q⟩
 free:=fun b u q n _=>by rw [upd_ne (Nat.ne_of_lt (Nat.lt_of_lt_of_le (Heap.lt_size q) hp))];exact n
 there:=fun b u q _=>⟨u,k b u q⟩
 tups:=fun b xs q=>by rw [upd_ne (ne_of_none q hn)];exact q
 frzs:=fun b u xs q=>by rw [upd_ne (ne_of_none q hn)];exact q
 tbls:=fun b ps q=>⟨#[],by rw [upd_ne (ne_of_none q hn),q];simp⟩
theorem Un.write (mu:Mut (H x))(he:e=x∨H e=some (.own x))(k:∀ b u,b≠e->h.get? b=some u->h'.get? b=some u)(heo:∃ u,h'.get? e=some u):Un fs ex H (upd H x o) h h':=by
 have hx:∀ b,H b=none->b≠x:=fun b n z=>by subst z;rw [n] at mu;exact mu
 have hb:∀ b,H b=none->b≠e:=fun b n z=>by
  subst z
  rcases he with r | r
  ·exact hx b n r
  ·rw [n] at r;cases r
 have hm:∀ b u,H b=some u->¬ Mut (some u)->b≠x:=fun b u q nm z=>by subst z;rw [q] at mu;exact nm mu
 refine ⟨fun b u q n _ _=>k b u (hb b n) q,fun b u q n _ _=>⟨u.slots,k b u (hb b n) q⟩,fun b u q n _=>by rw [upd_ne (hx b n)];exact n,fun b u q _=>?_,
  fun b xs q=>by rw [upd_ne (hm b _ q fun z=>z)];exact q,fun b u xs q=>by rw [upd_ne (hm b _ q fun z=>z)];exact q,fun b ps q=>⟨#[],by rw [upd_ne (hm b _ q fun z=>z),q];simp⟩⟩
 by_cases hbe:b=e
 ·subst hbe;exact heo
 ·exact ⟨u,k b u hbe q⟩
end
def trk (h:Heap)(H:Hp):List Addr:=(List.range h.objs.size).filter fun a=>(H a).isSome
def hidT (h:Heap)(H:Hp):Heap:=PySem.W.hideAll h (trk h H)
theorem hidT_size (h:Heap)(H:Hp):(hidT h H).objs.size=h.objs.size:=PySem.W.hideAll_size _ _
theorem hidT_get {h:Heap}{H:Hp}{b:Addr}{o:Obj}(e:h.get? b=some o)(n:H b=none):(hidT h H).get? b=some o :=
 PySem.W.hideAll_get _ e fun hm=>by
  have q:(H b).isSome=true:=(List.mem_filter.mp hm).2
  rw [n] at q;simp at q
theorem of_hidT {h:Heap}{H:Hp}{b:Addr}{o:Obj}(e:(hidT h H).get? b=some o):h.get? b=some o∧H b=none:=by
 have e':h.get? b=some o:=PySem.W.of_hideAll (trk h H) e
 refine ⟨e',?_⟩
 cases q:H b with
 | none=>rfl
 | some x =>
  have hm:b∈trk h H:=List.mem_filter.mpr ⟨List.mem_range.mpr (Heap.lt_size e'),by simp [q]⟩
  have z:(hidT h H).get? b=none:=PySem.W.hideAll_none (trk h H) hm
  rw [z] at e;cases e
def allNews (g h:Heap)(L:Addr):List (Addr×Obj):=(List.range h.objs.size).filterMap fun a=>if a=L∨(g.get? a).isSome=true then none else (h.get? a).map fun o=>(a,o)
def rest (g h:Heap)(L d:Addr):List (Addr×Obj):=(allNews g h L).filter fun p=>decide (p.1≠d)
end L2
namespace L2
open PySem PySem.Spec PyProof.Rows
set_option genInjectivity false in
structure Mod (K:PySem.W.Frag)(mg:Str->Option Value)(base:Heap):Prop where
 kin:K.In base
 glob:base.Ns mainGlobals mg
 blt:∃ mb,base.Ns builtinsNs mb∧∀ x:Str,x ≠ "__name__" -> mb x=bootBuiltins x
 nolimit:base.NoLimit
set_option genInjectivity false in
structure Cx where
 prog:Program
 w:World
 K:PySem.W.Frag
 mg:Str->Option Value
 base:Heap
 A:Around
 N:List Str
 s₀:Shared
 H₀:Hp
 env:Env
 outer:List Env
 stack:List Env
 ex:List Addr
 fn:Str->Bool
 calm:Bool
 pn:List (Addr×Obj)
 xe:Value->Shared->Prop
def frs (l:List Env):List Addr:=l.filterMap (·.frame)
abbrev Cx.fs (X:Cx):List Addr:=frs X.outer
def Vis (sc:Scope)(x:Str):Prop:=sc.names.lookup x=some .local∨sc.names.lookup x=some .cell∨sc.names.lookup x=some .free
def Loc (sc:Scope)(x:Str):Prop:=sc.names.lookup x=some .local∨sc.names.lookup x=some .cell
def Look (env:Env)(h:Heap)(m:Str->Option Value)(x:Str)(u:Value):Prop :=
 (env.kindOf x=some .local∧m x=some u)∨((env.kindOf x=some .cell∨env.kindOf x=some .free)∧∃ c,env.cells.lookup x=some c∧h.IsCell c (some u))
set_option genInjectivity false in
structure Cx.Ok (X:Cx):Prop where
 mod:Mod X.K X.mg X.base
 kind:X.env.scope.kind = .function
 glob:X.env.globals=mainGlobals
 blt:X.env.builtins=builtinsNs
 above:X.s₀.heap.objs.size<=X.env.locals
 inj:∀ x y c,X.env.cells.lookup x=some c->X.env.cells.lookup y=some c->x=y
 has:∀ x,(X.env.kindOf x=some .cell∨X.env.kindOf x=some .free)->∃ c,X.env.cells.lookup x=some c
 cab:∀ x c,X.fn x=true->X.env.cells.lookup x=some c->X.s₀.heap.objs.size<=c
 hd:X.calm=true->X.A.handled=none
 frames:X.A.frames=some X.stack
 stk:X.stack=X.outer∨(X.stack=X.env::X.outer∧X.env.frame=some X.env.locals)
 exf:∀ b∈X.ex,b≠X.env.locals∧∀ x c,X.env.cells.lookup x=some c->c≠b
 bs:∀ b o,X.base.get? b=some o->X.s₀.heap.get? b=some o∧X.H₀ b=none
 bsz:X.base.objs.size<=X.s₀.heap.objs.size
 noex:∀ b o,X.base.get? b=some o->b∉X.ex
 exfs:∀ b∈X.ex,b∉X.fs
 funs:X.s₀.heap.FunFrames X.base X.outer
 frf:∀ b∈X.fs,X.H₀ b=none
set_option genInjectivity false in
structure Inv (X:Cx)(pins:List (Addr×Obj))(σ:List (Option V))(H:Hp)(s:Shared):Prop where
 ok:X.Ok
 os:s.os=X.s₀.os
 bare:AllBare s.gens
 base:Un X.fs X.ex X.H₀ H X.s₀.heap s.heap
 loc:∃ m,s.heap.Ns X.env.locals m∧∀ (i:Nat) (x:Str) (v:V),X.N[i]?=some x->σ[i]?=some (some v)->Vis X.env.scope x->∃ u,RelV v u∧Look X.env s.heap m x u
 cell:∀ x c,X.env.cells.lookup x=some c->∃ v,s.heap.IsCell c v
 free:H X.env.locals=none
 freeC:∀ x c,X.env.cells.lookup x=some c->H c=none
 pin:∀ p∈X.pn++pins,s.heap.get? p.1=some p.2∧H p.1=none∧p.1≠X.env.locals∧p.1∉X.fs∧∀ v,p.2.data≠.cell v
 hok:HOk X.prog X.w H s.heap
 len:σ.length=X.N.length
section
variable {X:Cx}{pins:List (Addr×Obj)}{σ:List (Option V)}{H H':Hp}{s:Shared}{h':Heap}
theorem Cx.Ok.nofr (ok:X.Ok){b:Addr}{o:Obj}(e:X.base.get? b=some o):b∉X.fs:=fun hb=>by
 have:=(ok.funs.mem hb).1
 rw [e] at this;cases this
theorem Inv.bs (I:Inv X pins σ H s):∀ b o,X.base.get? b=some o->s.heap.get? b=some o∧H b=none:=fun b o e =>
 ⟨I.base.keep b o (I.ok.bs b o e).1 (I.ok.bs b o e).2 (I.ok.nofr e) (I.ok.noex b o e),I.base.free b o (I.ok.bs b o e).1 (I.ok.bs b o e).2 (I.ok.noex b o e)⟩
theorem Inv.bk (I:Inv X pins σ H s):∀ b o,X.base.get? b=some o->s.heap.get? b=some o:=fun b o e=>(I.bs b o e).1
theorem Inv.mod (I:Inv X pins σ H s):Mod X.K X.mg X.base:=I.ok.mod
theorem Inv.kIn (I:Inv X pins σ H s):X.K.In s.heap:=I.ok.mod.kin.keeps I.bk
theorem Inv.lt (I:Inv X pins σ H s):X.env.locals<s.heap.objs.size:=let ⟨_,hn,_⟩:=I.loc;hn.lt
theorem Inv.sz (I:Inv X pins σ H s):X.s₀.heap.objs.size<=s.heap.objs.size:=Nat.le_trans I.ok.above (Nat.le_of_lt I.lt)
theorem Inv.nofs (I:Inv X pins σ H s){a:Addr}(h:s.heap.objs.size<=a):a∉X.fs:=fun hb=>by
 obtain ⟨_,o,ho,_⟩:=I.ok.funs.mem hb
 exact absurd (Nat.lt_of_lt_of_le (Heap.lt_size ho) (Nat.le_trans I.sz h)) (Nat.lt_irrefl _)
theorem Inv.cne (I:Inv X pins σ H s):∀ x c,X.env.cells.lookup x=some c->c≠X.env.locals:=fun x c e z=>by
 obtain ⟨v,o,ho,hd⟩:=I.cell x c e
 obtain ⟨m,⟨o',es,ep,ho',hd',_⟩,_⟩:=I.loc
 rw [z,ho'] at ho;cases ho;rw [hd'] at hd;cases hd
theorem Inv.funs (I:Inv X pins σ H s):s.heap.FunFrames X.base X.outer:=by
 have all:∀ (l:List Env),(∀ b∈frs l,b∈X.fs)->X.s₀.heap.FunFrames X.base l->s.heap.FunFrames X.base l:=by
  intro l
  induction l with
  | nil=>intro _ _;trivial
  | cons env r ih =>
   intro hs hl
   obtain ⟨hk,⟨L,o,hf,hn,ho,hd⟩,hr⟩:=hl
   have hL:L∈X.fs:=hs L (by unfold frs;rw [List.filterMap_cons,hf];exact List.mem_cons_self)
   obtain ⟨sl,e⟩:=I.base.slot L o ho (I.ok.frf L hL) hL fun z=>I.ok.exfs L z hL
   exact ⟨hk,⟨L,_,hf,hn,e,hd⟩,ih (fun b hb=>hs b (by unfold frs;rw [List.filterMap_cons,hf];exact List.mem_cons_of_mem _ hb)) hr⟩
 exact all X.outer (fun _ hb=>hb) I.ok.funs
theorem Inv.stack (I:Inv X pins σ H s):s.heap.FunFrames X.base X.stack:=by
 rcases I.ok.stk with e | ⟨e,hf⟩
 ·rw [e];exact I.funs
 ·rw [e]
  obtain ⟨m,hn,_⟩:=I.loc
  refine .cons (by rw [I.ok.kind];decide) hf hn ?_ I.funs
  exact Heap.get?_none_of_le (Nat.le_trans I.ok.bsz I.ok.above)
theorem Inv.stkSub (I:Inv X pins σ H s):∀ b∈frs X.stack,b∈X.env.locals::X.fs:=fun b hb=>by
 rcases I.ok.stk with e | ⟨e,hf⟩
 ·rw [e] at hb;exact List.mem_cons_of_mem _ hb
 ·rw [e] at hb
  unfold frs at hb
  rw [List.filterMap_cons,hf] at hb
  exact hb
theorem Inv.stkFree (I:Inv X pins σ H s):∀ b∈frs X.stack,H b=none:=fun b hb=>by
 rcases List.mem_cons.mp (I.stkSub b hb) with e | hb
 ·rw [e];exact I.free
 ·obtain ⟨_,o,ho,_⟩:=I.ok.funs.mem hb
  exact I.base.free b o ho (I.ok.frf b hb) fun z=>I.ok.exfs b z hb
theorem Inv.step {g':Array GenState}{t':Nat}{d':Drawn}{ch:List Addr}(I:Inv X pins σ H s)
  (hch:∀ b∈ch,(b∈X.ex∨X.s₀.heap.objs.size<=b)∧b≠X.env.locals∧(∀ x c,X.env.cells.lookup x=some c->c≠b)∧∀ p∈X.pn++pins,p.1≠b)
  (keep:∀ b o,b≠X.env.locals->b∉X.fs->b∉ch->s.heap.get? b=some o->H b=none->h'.get? b=some o)
  (slot:∀ b o,b≠X.env.locals->b∈X.fs->b∉ch->s.heap.get? b=some o->H b=none->∃ sl,h'.get? b=some { o with slots:=sl }) (free:∀ b o,b∉ch->s.heap.get? b=some o->H b=none->H' b=none)
  (there:∀ b o,b∉ch->s.heap.get? b=some o->∃ o',h'.get? b=some o')
  (tups:∀ b xs,H b=some (.tup xs)->H' b=some (.tup xs)) (frzs:∀ b o u,H b=some (.frz o u)->H' b=some (.frz o u)) (tbls:∀ b ps,H b=some (.tbl ps)->∃ more,H' b=some (.tbl (ps++more)))
  (ns:∀ m,s.heap.Ns X.env.locals m->h'.Ns X.env.locals m) (hok:HOk X.prog X.w H' h') (hg:AllBare g') :
  Inv X pins σ H' { s with heap:=h',gens:=g',drawn:=d',toks:=t' }:=by
 have neL:∀ b o,X.s₀.heap.get? b=some o->b≠X.env.locals:=fun b o e=>Nat.ne_of_lt (Nat.lt_of_lt_of_le (Heap.lt_size e) I.ok.above)
 have neC:∀ b o,X.s₀.heap.get? b=some o->b∉X.ex->b∉ch:=fun b o e hx hb=>by
  rcases (hch b hb).1 with z | z
  ·exact hx z
  ·exact absurd (Nat.lt_of_lt_of_le (Heap.lt_size e) z) (Nat.lt_irrefl _)
 have cellK:∀ x c,X.env.cells.lookup x=some c->∀ v,s.heap.IsCell c v->h'.IsCell c v:=fun x c e v ⟨o,ho,hd⟩=>by
  have nch:c∉ch:=fun z=>(hch c z).2.2.1 x c e rfl
  by_cases hc:c∈X.fs
  ·obtain ⟨sl,q⟩:=slot c o (I.cne x c e) hc nch ho (I.freeC x c e)
   exact ⟨_,q,hd⟩
  ·exact ⟨o,keep c o (I.cne x c e) hc nch ho (I.freeC x c e),hd⟩
 refine ⟨I.ok,I.os,hg,⟨fun b o e n hb hx=>?_,fun b o e n hb hx=>?_,fun b o e n hx=>?_,fun b o e hx=>?_,fun b xs e=>tups b xs (I.base.tups b xs e),fun b o xs e=>frzs b o xs (I.base.frzs b o xs e),fun b ps e=>?_⟩,?_,fun x c e=>?_,?_,fun x c e=>?_,fun p hp=>?_,hok,I.len⟩
 ·exact keep b o (neL b o e) hb (neC b o e hx) (I.base.keep b o e n hb hx) (I.base.free b o e n hx)
 ·obtain ⟨sl,e1⟩:=I.base.slot b o e n hb hx
  obtain ⟨sl',e2⟩:=slot b _ (neL b o e) hb (neC b o e hx) e1 (I.base.free b o e n hx)
  exact ⟨sl',e2⟩
 ·obtain ⟨o',e1⟩:=I.base.there b o e hx
  exact free b o' (neC b o e hx) e1 (I.base.free b o e n hx)
 ·obtain ⟨o',e1⟩:=I.base.there b o e hx
  exact there b o' (neC b o e hx) e1
 ·obtain ⟨m1,e1⟩:=I.base.tbls b ps e
  obtain ⟨m2,e2⟩:=tbls b _ e1
  exact ⟨m1++m2,by rw [e2,Array.append_assoc]⟩
 ·obtain ⟨m,hn,hl⟩:=I.loc
  refine ⟨m,ns m hn,fun i x v e1 e2 e3=>?_⟩
  obtain ⟨u,r,l⟩:=hl i x v e1 e2 e3
  refine ⟨u,r,?_⟩
  rcases l with l | ⟨k,c,e,z⟩
  ·exact .inl l
  ·exact .inr ⟨k,c,e,cellK x c e _ z⟩
 ·obtain ⟨v,z⟩:=I.cell x c e
  exact ⟨v,cellK x c e v z⟩
 ·obtain ⟨m,⟨o,_,_,ho,_⟩,_⟩:=I.loc
  exact free _ o (fun z=>(hch _ z).2.1 rfl) ho I.free
 ·obtain ⟨v,o,ho,hd⟩:=I.cell x c e
  exact free c o (fun z=>(hch c z).2.2.1 x c e rfl) ho (I.freeC x c e)
 ·obtain ⟨e,n,ne,nf,d⟩:=I.pin p hp
  have nch:p.1∉ch:=fun z=>(hch p.1 z).2.2.2 p hp rfl
  exact ⟨keep p.1 p.2 ne nf nch e n,free p.1 p.2 nch e n,ne,nf,d⟩
theorem Inv.un {t':Nat}(I:Inv X pins σ H s)(u:Un X.fs [] H H' s.heap h')(hok:HOk X.prog X.w H' h'):Inv X pins σ H' { s with heap:=h',toks:=t' }:=by
 obtain ⟨m,⟨o,es,ep,ho,r⟩,_⟩:=id I.loc
 obtain ⟨sl,hL⟩:=u.any ho I.free (by simp)
 exact I.step (g':=s.gens) (d':=s.drawn) (ch:=[]) (fun _ z=>nomatch z) (fun b o _ hb _ e n=>u.keep b o e n hb (by simp)) (fun b o _ hb _ e n=>u.slot b o e n hb (by simp)) (fun b o _ e n=>u.free b o e n (by simp)) (fun b o _ e=>u.there b o e (by simp)) u.tups u.frzs u.tbls (fun m' hm=>by
  obtain ⟨o',es',ep',ho',r'⟩:=hm
  rw [ho] at ho';cases ho'
  exact ⟨_,es',ep',hL,r'⟩) hok I.bare
theorem Inv.call {g':Array GenState}{t':Nat}{d':Drawn}{ch:List Addr}(I:Inv X pins σ H s)(u:Un (frs X.stack) ch H H' s.heap h')(hok:HOk X.prog X.w H' h')(hg:AllBare g')
  (hch:∀ b∈ch,(b∈X.ex∨X.s₀.heap.objs.size<=b)∧b≠X.env.locals∧(∀ x c,X.env.cells.lookup x=some c->c≠b)∧∀ p∈X.pn++pins,p.1≠b) :
  Inv X pins σ H' { s with heap:=h',gens:=g',drawn:=d',toks:=t' }:=by
 obtain ⟨m,⟨o,es,ep,ho,r⟩,_⟩:=id I.loc
 obtain ⟨sl,hL⟩:=u.any ho I.free fun z=>(hch _ z).2.1 rfl
 exact I.step (ch:=ch) hch (fun b o hL hb hc e n=>u.keep b o e n (fun z=>(List.mem_cons.mp (I.stkSub b z)).elim hL hb) hc) (fun b o _ _ hc e n=>u.any e n hc) (fun b o hc e n=>u.free b o e n hc) (fun b o hc e=>u.there b o e hc) u.tups u.frzs u.tbls (fun m' hm=>by
  obtain ⟨o',es',ep',ho',r'⟩:=hm
  rw [ho] at ho';cases ho'
  exact ⟨_,es',ep',hL,r'⟩) hok hg
theorem Inv.turned {t':Nat}{it:Addr}(I:Inv X pins σ H s)(k:∀ b o,b≠it->s.heap.get? b=some o->h'.get? b=some o)(hn:H it=none)(hL:it≠X.env.locals)
  (h1:it∈X.ex∨X.s₀.heap.objs.size<=it) (h2:∀ x c,X.env.cells.lookup x=some c->c≠it) (h3:∀ p∈X.pn++pins,p.1≠it):Inv X pins σ H { s with heap:=h',toks:=t' }:=by
 have nit:∀ b u,H b=some u->b≠it:=fun b u e z=>by rw [z,hn] at e;cases e
 refine I.step (g':=s.gens) (d':=s.drawn) (ch:=[it]) (fun b hb=>?_) (fun b o _ _ hc e _=>k b o (fun z=>hc (by simp [z])) e) (fun b o _ _ hc e _=>⟨o.slots,k b o (fun z=>hc (by simp [z])) e⟩) (fun _ _ _ _ n=>n)
  (fun b o hc e=>⟨o,k b o (fun z=>hc (by simp [z])) e⟩) (fun _ _ e=>e) (fun _ _ _ e=>e) (fun b ps e=>⟨#[],by rw [e];simp⟩) (fun m hm=>?_) (fun b u e=>?_) I.bare
 ·have e:b=it:=by simpa using hb
  subst e
  exact ⟨h1,hL,h2,h3⟩
 ·obtain ⟨o,es,ep,ho,r⟩:=hm
  exact ⟨o,es,ep,k _ o (Ne.symm hL) ho,r⟩
 ·refine (I.hok b u e).stay (fun c v hc q=>k c v ?_ q) (fun _ q=>q) fun _ _ q=>q
  rcases hc with z | z
  ·rw [z];exact nit b u e
  ·exact nit c _ z
theorem Inv.tok (I:Inv X pins σ H s)(t:Nat):Inv X pins σ H { s with toks:=t }:=I.un (h':=s.heap) (t':=t) Un.refl I.hok
theorem Inv.kept {t':Nat}(I:Inv X pins σ H s)(k:∀ b u,s.heap.get? b=some u->h'.get? b=some u):Inv X pins σ H { s with heap:=h',toks:=t' }:=I.un (Un.kept k) (I.hok.kept k)
theorem Inv.laid {a:Addr}{o:HO}{t':Nat}(I:Inv X pins σ H s)(k:∀ b u,s.heap.get? b=some u->h'.get? b=some u)(hp:s.heap.objs.size<=a)(new:ObjOk X.prog X.w (upd H a o) h' a o) :
 Inv X pins σ (upd H a o) { s with heap:=h',toks:=t' }:=I.un (Un.laid k hp (I.hok.fresh hp)) (I.hok.laid k hp new)
theorem Inv.write {x e:Addr}{o:HO}{t':Nat}(I:Inv X pins σ H s)(mu:Mut (H x))(he:e=x∨H e=some (.own x))(k:∀ b u,b≠e->s.heap.get? b=some u->h'.get? b=some u)(heo:∃ u,h'.get? e=some u)
 (new:ObjOk X.prog X.w (upd H x o) h' x o):Inv X pins σ (upd H x o) { s with heap:=h',toks:=t' }:=I.un (Un.write mu he k heo) (I.hok.write mu he k heo new)
theorem Inv.pins_of {pins':List (Addr×Obj)}(I:Inv X pins σ H s)(h:∀ p∈pins',s.heap.get? p.1=some p.2∧H p.1=none∧p.1≠X.env.locals∧p.1∉X.fs∧∀ v,p.2.data≠.cell v):Inv X pins' σ H s :=
 ⟨I.ok,I.os,I.bare,I.base,I.loc,I.cell,I.free,I.freeC,fun p hp=>(List.mem_append.mp hp).elim (fun z=>I.pin p (List.mem_append_left _ z)) (h p),I.hok,I.len⟩
theorem nodup_ix {N:List Str}(hN:N.Nodup){i j:Nat}{x:Str}(a:N[i]?=some x)(b:N[j]?=some x):i=j:=by
 obtain ⟨h1,e1⟩:=List.getElem?_eq_some_iff.mp a
 obtain ⟨h2,e2⟩:=List.getElem?_eq_some_iff.mp b
 exact (List.getElem_inj hN).mp (e1.trans e2.symm)
theorem store_ok2 {M:Model}{A:Around}{E:Value->Shared->Prop}{i:Nat}{x:Str}{v:V}{u:Value}{Q:Unit->Shared->Prop}(I:Inv X pins σ H s)(hN:X.N.Nodup)(hi:X.N[i]?=some x)(hx:Loc X.env.scope x)(r:RelV v u)
  (h:∀ s',Inv X pins (σ.set i (some v)) H s'->(∃ a,Heap.SameBut a s.heap s'.heap∧(a=X.env.locals∨X.env.cells.lookup x=some a))->Q () s') (hf:X.fn x=true∨X.env.scope.names.lookup x=some .local:=by first | exact .inl rfl | exact .inr rfl | assumption):wpAny M A (storeName X.env x u) Q E s:=by
 obtain ⟨m,hn,hl⟩:=id I.loc
 have hcls:(X.env.scope.kind == .class||(X.env.scope.kind == .module&&X.env.locals != X.env.globals))=false:=by rw [I.ok.kind];rfl
 have hiσ:i<σ.length:=by rw [I.len];exact (List.getElem?_eq_some_iff.mp hi).1
 have cne:=I.cne
 have tracked:∀ {a:Addr} {h':Heap},(∃ o,s.heap.get? a=some o∧H a=none)->Heap.SameBut a s.heap h'->HOk X.prog X.w H h':=fun {a h'} ha hs b ob e=>by
  obtain ⟨_,_,hfree⟩:=ha
  refine (I.hok b ob e).stay (fun c w' hc q=>(hs.2 c ?_).trans q) (fun _ q=>q) fun _ _ q=>q
  rintro rfl
  rcases hc with rfl | hc
  ·rw [hfree] at e;cases e
  ·rw [hfree] at hc;cases hc
 rcases hx with hk | hk
 ·refine wpAny_storeName_local hk hn (fun h' hn' hs=>?_) hcls
  obtain ⟨oL,_,_,hoL,_⟩:=id hn
  refine h _ ⟨I.ok,I.os,I.bare,⟨fun b o e n hb hx=>?_,fun b o e n hb hx=>?_,I.base.free,fun b o e hx=>?_,I.base.tups,I.base.frzs,I.base.tbls⟩,⟨_,hn',fun j y v' e1 e2 e3=>?_⟩,fun y c e=>?_,I.free,I.freeC,fun p hp=>?_,tracked ⟨oL,hoL,I.free⟩ hs,by simpa using I.len⟩ ⟨_,hs,.inl rfl⟩
  ·exact (hs.2 b (Nat.ne_of_lt (Nat.lt_of_lt_of_le (Heap.lt_size e) I.ok.above))).trans (I.base.keep b o e n hb hx)
  ·obtain ⟨sl,e1⟩:=I.base.slot b o e n hb hx
   exact ⟨sl,(hs.2 b (Nat.ne_of_lt (Nat.lt_of_lt_of_le (Heap.lt_size e) I.ok.above))).trans e1⟩
  ·obtain ⟨o',e1⟩:=I.base.there b o e hx
   exact ⟨o',(hs.2 b (Nat.ne_of_lt (Nat.lt_of_lt_of_le (Heap.lt_size e) I.ok.above))).trans e1⟩
  ·by_cases hj:j=i
   ·subst hj
    rw [hi] at e1;cases e1
    rw [List.getElem?_set_self hiσ] at e2
    cases e2
    exact ⟨u,r,.inl ⟨hk,by simp⟩⟩
   ·rw [List.getElem?_set_ne (Ne.symm hj)] at e2
    obtain ⟨u',r',q⟩:=hl j y v' e1 e2 e3
    refine ⟨u',r',?_⟩
    rcases q with ⟨k,e⟩ | ⟨k,c,e,z⟩
    ·refine .inl ⟨k,?_⟩
     have:y≠x:=fun e=>hj (nodup_ix hN e1 (e▸hi))
     simp [this,e]
    ·exact .inr ⟨k,c,e,z.sameBut hs (cne y c e)⟩
  ·obtain ⟨w',z⟩:=I.cell y c e
   exact ⟨w',z.sameBut hs (cne y c e)⟩
  ·obtain ⟨e,n,ne,nf,d⟩:=I.pin p hp
   exact ⟨(hs.2 p.1 ne).trans e,n,ne,nf,d⟩
 ·have hfn:X.fn x=true:=by
   rcases hf with z | z
   ·exact z
   ·rw [z] at hk;cases hk
  obtain ⟨c,hc⟩:=I.ok.has x (.inl hk)
  obtain ⟨w',z⟩:=I.cell x c hc
  refine wpAny_storeName_cell I.ok.kind hk hc z (fun h' hc' hs=>?_)
  obtain ⟨oc,hoc,hocd⟩:=id z
  refine h { s with heap:=h' } ⟨I.ok,I.os,I.bare,⟨fun b o e n hb hx=>?_,fun b o e n hb hx=>?_,I.base.free,fun b o e hx=>?_,I.base.tups,I.base.frzs,I.base.tbls⟩,⟨m,hn.sameBut hs (Ne.symm (cne x c hc)),fun j y v' e1 e2 e3=>?_⟩,fun y c' e=>?_,I.free,I.freeC,fun p hp=>?_,tracked ⟨oc,hoc,I.freeC x c hc⟩ hs,by simpa using I.len⟩ ⟨c,hs,.inr hc⟩
  ·exact (hs.2 b (Nat.ne_of_lt (Nat.lt_of_lt_of_le (Heap.lt_size e) (I.ok.cab x c hfn hc)))).trans (I.base.keep b o e n hb hx)
  ·obtain ⟨sl,e1⟩:=I.base.slot b o e n hb hx
   exact ⟨sl,(hs.2 b (Nat.ne_of_lt (Nat.lt_of_lt_of_le (Heap.lt_size e) (I.ok.cab x c hfn hc)))).trans e1⟩
  ·obtain ⟨o',e1⟩:=I.base.there b o e hx
   exact ⟨o',(hs.2 b (Nat.ne_of_lt (Nat.lt_of_lt_of_le (Heap.lt_size e) (I.ok.cab x c hfn hc)))).trans e1⟩
  ·by_cases hj:j=i
   ·subst hj
    rw [hi] at e1;cases e1
    rw [List.getElem?_set_self hiσ] at e2
    cases e2
    exact ⟨u,r,.inr ⟨.inl hk,c,hc,hc'⟩⟩
   ·rw [List.getElem?_set_ne (Ne.symm hj)] at e2
    obtain ⟨u',r',q⟩:=hl j y v' e1 e2 e3
    refine ⟨u',r',?_⟩
    rcases q with q | ⟨k,c',e,z'⟩
    ·exact .inl q
    ·refine .inr ⟨k,c',e,z'.sameBut hs ?_⟩
     rintro rfl
     exact hj (nodup_ix hN e1 (I.ok.inj _ _ _ e hc▸hi))
  ·by_cases hcc:c'=c
   ·subst hcc;exact ⟨_,hc'⟩
   ·obtain ⟨w2,z2⟩:=I.cell y c' e
    exact ⟨w2,z2.sameBut hs hcc⟩
  ·obtain ⟨e,n,ne,nf,d⟩:=I.pin p hp
   refine ⟨(hs.2 p.1 ?_).trans e,n,ne,nf,d⟩
   intro q
   rw [q,hoc] at e
   have q':oc=p.2:=Option.some.inj e
   exact d w' (by rw [<- q'];exact hocd)
theorem store_ok {M:Model}{A:Around}{E:Value->Shared->Prop}{i:Nat}{x:Str}{v:V}{u:Value}{Q:Unit->Shared->Prop}(I:Inv X pins σ H s)(hN:X.N.Nodup)(hi:X.N[i]?=some x)(hx:Loc X.env.scope x)(r:RelV v u)
  (h:∀ s',Inv X pins (σ.set i (some v)) H s'->Q () s') (hf:X.fn x=true∨X.env.scope.names.lookup x=some .local:=by first | exact .inl rfl | exact .inr rfl | assumption):wpAny M A (storeName X.env x u) Q E s :=
 store_ok2 I hN hi hx r (fun s' I' _=>h s' I') hf
theorem Inv.call' {s':Shared}{ch:List Addr}(I:Inv X pins σ H s)(ho:s'.os=s.os)(u:Un (frs X.stack) ch H H' s.heap s'.heap)(hok:HOk X.prog X.w H' s'.heap)(hg:AllBare s'.gens)
  (hch:∀ b∈ch,(b∈X.ex∨X.s₀.heap.objs.size<=b)∧b≠X.env.locals∧(∀ x c,X.env.cells.lookup x=some c->c≠b)∧∀ p∈X.pn++pins,p.1≠b):Inv X pins σ H' s':=by
 obtain ⟨h',g',d',t',o'⟩:=s'
 have e:o'=s.os:=ho
 subst e
 exact I.call (g':=g') (t':=t') (d':=d') u hok hg hch
end
abbrev XK:=Value->Option Addr->Hp->Prop
abbrev St:=List (Option V)
abbrev VK:=V->Hp->Prop
abbrev TE:=St->Hp->VK->Prop
abbrev TT:=St->Hp->(Bool->Hp->Prop)->Prop
abbrev TA:=St->Hp->(List V->Hp->Prop)->Prop
set_option genInjectivity false in
structure Ends where
 nx:St->Hp->Prop
 rt:VK
 bk:St->Hp->Prop:=fun _ _=>False
 ct:St->Hp->Prop:=fun _ _=>False
abbrev TS:=Ends->St->Hp->Prop
def EP (X:Cx)(pins:List (Addr×Obj))(σ:St)(Q:VK)(u:Value)(s':Shared):Prop:=∃ v H',Inv X pins σ H' s'∧RelV v u∧Q v H'
def TP (X:Cx)(pins:List (Addr×Obj))(σ:St)(Q:Bool->Hp->Prop)(b:Bool)(s':Shared):Prop:=∃ H',Inv X pins σ H' s'∧Q b H'
def AP (X:Cx)(pins:List (Addr×Obj))(σ:St)(Q:List V->Hp->Prop)(us:List Value)(s':Shared):Prop:=∃ vs H',Inv X pins σ H' s'∧Vals vs us∧Q vs H'
def SP (X:Cx)(pins:List (Addr×Obj))(D:Ends)(f:Flow)(s':Shared):Prop :=
 match f with
 | .next=>∃ σ' H',Inv X pins σ' H' s'∧D.nx σ' H'
 | .brk=>∃ σ' H',Inv X pins σ' H' s'∧D.bk σ' H'
 | .cont=>∃ σ' H',Inv X pins σ' H' s'∧D.ct σ' H'
 | .ret u=>∃ v σ' H',Inv X pins σ' H' s'∧RelV v u∧D.rt v H'
def PE (X:Cx)(e:Expr)(t:TE):Prop :=
 ∀ (pins:List (Addr×Obj)) (s:Shared) (σ:St) (H:Hp) (Q:VK),Inv X pins σ H s->t σ H Q->wpAny (model X.prog X.w) X.A (eval e X.env) (EP X pins σ Q) X.xe s
def PT (X:Cx)(e:Expr)(t:TT):Prop :=
 ∀ (pins:List (Addr×Obj)) (s:Shared) (σ:St) (H:Hp) (Q:Bool->Hp->Prop),Inv X pins σ H s->t σ H Q->wpAny (model X.prog X.w) X.A (isTrue e X.env (eval e X.env)) (TP X pins σ Q) X.xe s
def PW (X:Cx)(e:Expr)(t:TT):Prop :=
 ∀ (whole:Sem Value) (pins:List (Addr×Obj)) (s:Shared) (σ:St) (H:Hp) (Q:Bool->Hp->Prop),Inv X pins σ H s->t σ H Q->wpAny (model X.prog X.w) X.A (isTrue e X.env whole) (TP X pins σ Q) X.xe s
theorem PW.pt {X:Cx}{e:Expr}{t:TT}(h:PW X e t):PT X e t:=h _
def PA (X:Cx)(es:List Expr)(t:TA):Prop :=
 ∀ (pos:Pos) (pins:List (Addr×Obj)) (s:Shared) (σ:St) (H:Hp) (Q:List V->Hp->Prop),Inv X pins σ H s->t σ H Q->wpAny (model X.prog X.w) X.A (spliced (backTo pos (starEach es X.env))) (AP X pins σ Q) X.xe s
def PS (X:Cx)(st:Stmt)(t:TS):Prop :=
 ∀ (pins:List (Addr×Obj)) (s:Shared) (σ:St) (H:Hp) (D:Ends),Inv X pins σ H s->t D σ H->wpAny (model X.prog X.w) X.A (exec st X.env) (SP X pins D) X.xe s
def PSs (X:Cx)(st:List Stmt)(t:TS):Prop :=
 ∀ (pins:List (Addr×Obj)) (s:Shared) (σ:St) (H:Hp) (D:Ends),Inv X pins σ H s->t D σ H->wpAny (model X.prog X.w) X.A (execs st X.env) (SP X pins D) X.xe s
theorem thn {α:Type}{t:Sem α}{Q Q':α->Shared->Prop}{M:Model}{A:Around}{E:Value->Shared->Prop}{s:Shared}(h:wpAny M A t Q E s)(hQ:∀ a s,Q a s->Q' a s):wpAny M A t Q' E s:=wpAny_mono h hQ fun _ _ x=>x
end L2
namespace L2
open PySem PySem.Spec PyProof.Rows
section
variable {X:Cx}
def tVar (i:Nat):TE:=fun σ H Q=>∃ v,σ[i]?=some (some v)∧Q v H
def tC (v:V):TE:=fun _ H Q=>Q v H
theorem pe_var {i:Nat}{x:Str}{pos:Pos}(hN:X.N[i]?=some x)(hv:Vis X.env.scope x)(hd:(x==("__debug__" : Str))=false:=by decide)(hcd:(x==("__classdict__" : Str))=false:=by decide):PE X (.Name x pos) (tVar i):=by
 intro pins s σ H Q I h
 obtain ⟨v,e,h⟩:=h
 obtain ⟨m,hn,hl⟩:=I.loc
 obtain ⟨u,r,l⟩:=hl i x v hN e hv
 have fin:EP X pins σ Q u s:=⟨v,H,I,r,h⟩
 rcases l with ⟨hk,hm⟩ | ⟨hk,c,hc,hcell⟩
 ·exact wpAny_Name (wpAny_loadName_local I.ok.kind hk hn hm fin) hd
 ·rcases hk with hk | hk
  ·exact wpAny_Name (wpAny_loadName_cell I.ok.kind hk hc hcell fin) hd
  ·exact wpAny_Name (wpAny_loadName_free I.ok.kind hk hc hcell fin hcd) hd
theorem pe_int {i j pos}:PE X (.Constant (.int i) j pos) (tC (.int i)):=fun _ _ _ H _ I h=>wpAny_Constant_int ⟨.int i,H,I.tok _,⟨_,rfl⟩,h⟩
theorem pe_bl {b j pos}:PE X (.Constant (.bool b) j pos) (tC (.bl b)):=fun _ _ _ H _ I h=>Constant_bool ⟨.bl b,H,I,rfl,h⟩
theorem pe_non {j pos}:PE X (.Constant .none j pos) (tC .non):=fun _ _ _ H _ I h=>Constant_none ⟨.non,H,I,rfl,h⟩
theorem pe_str {x j pos}:PE X (.Constant (.str x) j pos) (tC (.str x)):=fun _ _ _ H _ I h=>Calls.Constant_str ⟨.str x,H,I.tok _,⟨_,rfl⟩,h⟩
def Gl (X:Cx)(x:Str):Prop:=X.env.kindOf x=some .globalImplicit
theorem ld_glob {E:Value->Shared->Prop}{pins:List (Addr×Obj)}{s:Shared}{σ:St}{H:Hp}{x:Str}{u:Value}{pos:Pos}{Q:Value->Shared->Prop}(I:Inv X pins σ H s)(hg:Gl X x)(hm:X.mg x=some u)(h:Q u s)
  (hd:(x==("__debug__" : Str))=false:=by decide):wpAny (model X.prog X.w) X.A (eval (.Name x pos) X.env) Q E s :=
 Calls.Name_function_global I.ok.kind hg (Calls.loadGlobal_global (by rw [I.ok.glob];exact I.mod.glob.keeps I.bk) hm h) hd
theorem ld_blt {E:Value->Shared->Prop}{pins:List (Addr×Obj)}{s:Shared}{σ:St}{H:Hp}{x:Str}{u:Value}{pos:Pos}{Q:Value->Shared->Prop}(I:Inv X pins σ H s)(hg:Gl X x)(hm:X.mg x=none)(hv:bootBuiltins x=some u)(h:Q u s)
  (hn:x ≠ "__name__" := by decide) (hd:(x==("__debug__" : Str))=false:=by decide):wpAny (model X.prog X.w) X.A (eval (.Name x pos) X.env) Q E s:=by
 obtain ⟨mb,h1,h2⟩:=I.mod.blt
 exact Calls.Name_function_global I.ok.kind hg (Calls.loadGlobal_builtin (by rw [I.ok.glob];exact I.mod.glob.keeps I.bk) hm (by rw [I.ok.blt];exact h1.keeps I.bk) ((h2 x hn).trans hv) h) hd
theorem pe_glob {x:Str}{v:V}{u:Value}{pos:Pos}(hg:Gl X x)(hm:X.mg x=some u)(r:RelV v u)(hd:(x==("__debug__" : Str))=false:=by decide):PE X (.Name x pos) (tC v) :=
 fun _ _ _ H _ I h=>ld_glob I hg hm ⟨v,H,I,r,h⟩ hd
variable {a b:Expr}{ta tb:TE}{pos:Pos}
def tB (t:TE):TT:=fun σ H Q=>t σ H fun x H1=>∃ c,x = .bl c∧Q c H1
theorem pt_val {e:Expr}{t:TE}(h:PE X e t)(he:∀ whole,isTrue e X.env whole=(do let v <- whole;standAt e.pos;holding [v] (truthy v)):=by intro _;rfl):PT X e (tB t):=by
 intro pins s σ H Q I hw
 refine isTrue_plain (thn (h pins s σ H _ I hw) fun v s1 ⟨x,H1,I1,r1,q1⟩=>?_) (he _)
 obtain ⟨d,rfl,q⟩:=q1
 cases r1
 exact wpAny_truthy_bool ⟨H1,I1,q⟩
variable {tA tB':TT}{rest:List Expr}
def tAnd (t u:TT):TT:=fun σ H Q=>t σ H fun c H1=>if c=true then u σ H1 Q else Q false H1
def tOr (t u:TT):TT:=fun σ H Q=>t σ H fun c H1=>if c=true then Q true H1 else u σ H1 Q
def tNot (t:TT):TT:=fun σ H Q=>t σ H fun c H1=>Q (!c) H1
theorem pw_and1 (ha:PT X a tA):PW X (.BoolOp .And [a] pos) tA:=by
 intro wh pins s σ H Q I h
 refine isTrue_and (thn (ha pins s σ H Q I h) fun c s1 e=>?_)
 cases c with
 | true=>exact isTrue_and_nil e
 | false=>exact e
theorem pw_or1 (ha:PT X a tA):PW X (.BoolOp .Or [a] pos) tA:=by
 intro wh pins s σ H Q I h
 refine isTrue_or (thn (ha pins s σ H Q I h) fun c s1 e=>?_)
 cases c with
 | false=>exact isTrue_or_nil e
 | true=>exact e
theorem pw_and (ha:PT X a tA)(hb:PW X (.BoolOp .And (b::rest) pos) tB'):PW X (.BoolOp .And (a::b::rest) pos) (tAnd tA tB'):=by
 intro wh pins s σ H Q I h
 refine isTrue_and (thn (ha pins s σ H _ I h) fun c s1 ⟨H1,I1,q1⟩=>?_)
 cases c with
 | true=>exact hb wh pins s1 σ H1 Q I1 q1
 | false=>exact ⟨H1,I1,q1⟩
theorem pw_or (ha:PT X a tA)(hb:PW X (.BoolOp .Or (b::rest) pos) tB'):PW X (.BoolOp .Or (a::b::rest) pos) (tOr tA tB'):=by
 intro wh pins s σ H Q I h
 refine isTrue_or (thn (ha pins s σ H _ I h) fun c s1 ⟨H1,I1,q1⟩=>?_)
 cases c with
 | true=>exact ⟨H1,I1,q1⟩
 | false=>exact hb wh pins s1 σ H1 Q I1 q1
theorem pt_not (ha:PT X a tA):PT X (.UnaryOp .Not a pos) (tNot tA):=by
 intro pins s σ H Q I h
 exact isTrue_not (ha pins s σ H (fun c H1=>Q (!c) H1) I h)
def tAndV (ta tb:TE):TE:=fun σ H Q=>ta σ H fun x H1=>∃ c,x = .bl c∧if c=true then tb σ H1 Q else Q (.bl false) H1
def tOrV (ta tb:TE):TE:=fun σ H Q=>ta σ H fun x H1=>∃ c,x = .bl c∧if c=true then Q (.bl true) H1 else tb σ H1 Q
theorem pe_one {op}{t:TE}(h:PE X a t):PE X (.BoolOp op [a] pos) t:=fun pins s σ H Q I hw=>BoolOp_one (h pins s σ H Q I hw)
theorem pe_and (ha:PE X a ta)(hb:PE X (.BoolOp .And (b::rest) pos) tb):PE X (.BoolOp .And (a::b::rest) pos) (tAndV ta tb):=by
 intro pins s σ H Q I h
 refine BoolOp_and (thn (ha pins s σ H _ I h) fun v s1 ⟨x,H1,I1,r1,q1⟩=>?_)
 obtain ⟨c,rfl,q1⟩:=q1
 cases r1
 refine wpAny_truthy_bool ?_
 cases c with
 | true=>exact hb pins s1 σ H1 Q I1 q1
 | false=>exact ⟨.bl false,H1,I1,rfl,q1⟩
theorem pe_or (ha:PE X a ta)(hb:PE X (.BoolOp .Or (b::rest) pos) tb):PE X (.BoolOp .Or (a::b::rest) pos) (tOrV ta tb):=by
 intro pins s σ H Q I h
 refine BoolOp_or (thn (ha pins s σ H _ I h) fun v s1 ⟨x,H1,I1,r1,q1⟩=>?_)
 obtain ⟨c,rfl,q1⟩:=q1
 cases r1
 refine wpAny_truthy_bool ?_
 cases c with
 | false=>exact hb pins s1 σ H1 Q I1 q1
 | true=>exact ⟨.bl true,H1,I1,rfl,q1⟩
def tIf (t:TT)(ta tb:TE):TE:=fun σ H Q=>t σ H fun c H1=>if c=true then ta σ H1 Q else tb σ H1 Q
theorem pe_ifExp {c:Expr}(hc:PT X c tA)(ha:PE X a ta)(hb:PE X b tb):PE X (.IfExp c a b pos) (tIf tA ta tb):=by
 intro pins s σ H Q I h
 refine wpAny_IfExp (thn (hc pins s σ H _ I h) fun d s1 ⟨H1,I1,q1⟩=>?_)
 cases d with
 | true=>exact ha pins s1 σ H1 Q I1 q1
 | false=>exact hb pins s1 σ H1 Q I1 q1
end
end L2
namespace L2
open PySem PySem.Spec PyProof.Rows
def SqL (K:PySem.W.Frag)(H:Hp)(a:Addr)(xs:List V):Prop :=
 Rd H a (.lst xs) ∨
  ∃ (o:Obj) (its:Array Value) (n:Nat),K.lookup a=some o∧o.cls = .type "list" ∧ o.dict=none∧o.data = .seq its n∧its.size<=sizeLine∧Vals xs its.toList
def SqT (K:PySem.W.Frag)(H:Hp)(a:Addr)(xs:List V):Prop :=
 Rd H a (.tup xs) ∨
  ∃ (o:Obj) (its:Array Value) (n:Nat),K.lookup a=some o∧o.cls = .type "tuple" ∧ o.data = .seq its n∧its.size<=sizeLine∧Vals xs its.toList
def absV:Value->Option V
 | .none=>some .non
 | .bool b=>some (.bl b)
 | .int i _=>some (.int i)
 | .str x _=>some (.str x)
 | .bytes b _=>some (.byt b)
 | .float b _=>some (.flt b)
 | .ref a=>some (.ref a)
 | .type n=>some (.ty n)
 | _=>none
theorem RelV.abs {x:V}{u:Value}(r:RelV x u):absV u=some x:=by
 cases x with
 | non=>cases r;rfl
 | bl _=>cases r;rfl
 | int _=>obtain ⟨t,rfl⟩:=r;rfl
 | str _=>obtain ⟨t,rfl⟩:=r;rfl
 | byt _=>obtain ⟨t,rfl⟩:=r;rfl
 | flt _=>obtain ⟨t,rfl⟩:=r;rfl
 | ref _=>cases r;rfl
 | ty _=>cases r;rfl
theorem RelV.inj {x y:V}{u:Value}(r:RelV x u)(q:RelV y u):x=y:=Option.some.inj (r.abs.symm.trans q.abs)
theorem Vals.inj:∀ {xs ys:List V} {us:List Value},Vals xs us->Vals ys us->xs=ys
 | _,_,_,.nil,.nil=>rfl
 | _,_,_,.cons r t,.cons r' t'=>by rw [r.inj r',Vals.inj t t']
section
variable {X:Cx}{pins:List (Addr×Obj)}{σ:St}{H:Hp}{s:Shared}{a:Addr}{xs ys:List V}
theorem SqL.of {K:PySem.W.Frag}(h:H a=some (.lst xs)):SqL K H a xs:=.inl (.inl h)
theorem SqT.of {K:PySem.W.Frag}(h:H a=some (.tup xs)):SqT K H a xs:=.inl (.inl h)
theorem Inv.list (I:Inv X pins σ H s)(h:SqL X.K H a xs):∃ its:List Value,Vals xs its∧PlainL s.heap a its.toArray∧xs.length<=sizeLine:=by
 rcases h with h | ⟨o,its,n,hk,hc,hd,hs,hz,r⟩
 ·obtain ⟨z,its,n,r,e⟩:=h.ok I.hok
  exact ⟨its,r,⟨_,n,e,rfl,rfl,rfl⟩,z⟩
 ·refine ⟨its.toList,r,⟨o,n,I.kIn a o hk,hc,hd,by simpa using hs⟩,?_⟩
  have e:=r.length
  simp only [Array.length_toList] at e
  omega
theorem Inv.tuple (I:Inv X pins σ H s)(h:SqT X.K H a xs):∃ its:List Value,Vals xs its∧IsTup s.heap a its.toArray∧xs.length<=sizeLine:=by
 rcases h with h | ⟨o,its,n,hk,hc,hs,hz,r⟩
 ·obtain ⟨z,its,r,p⟩:=h.ok I.hok
  exact ⟨its,r,p,z⟩
 ·refine ⟨its.toList,r,⟨o,I.kIn a o hk,hc,n,by simpa using hs⟩,?_⟩
  have e:=r.length
  simp only [Array.length_toList] at e
  omega
theorem Inv.list_inj (I:Inv X pins σ H s)(h:SqL X.K H a xs)(h':SqL X.K H a ys):xs=ys:=by
 obtain ⟨its,r,⟨o,n,e,_,_,d⟩,_⟩:=I.list h
 obtain ⟨its',r',⟨o',n',e',_,_,d'⟩,_⟩:=I.list h'
 rw [e] at e';cases e'
 rw [d] at d'
 injection d' with d1 _
 have:its=its':=by simpa using congrArg Array.toList d1
 subst this
 exact r.inj r'
end
abbrev Cx.wish (X:Cx)(E:Value->Shared->Prop):Cx:={ X with xe:=E }
abbrev Cx.nox (X:Cx):Cx:=X.wish fun _ _=>False
theorem Cx.Ok.wish {X:Cx}(ok:X.Ok)(E:Value->Shared->Prop):(X.wish E).Ok :=
 ⟨ok.mod,ok.kind,ok.glob,ok.blt,ok.above,ok.inj,ok.has,ok.cab,ok.hd,ok.frames,ok.stk,ok.exf,ok.bs,ok.bsz,ok.noex,ok.exfs,ok.funs,ok.frf⟩
theorem Cx.Ok.unwish {X:Cx}{E:Value->Shared->Prop}(ok:(X.wish E).Ok):X.Ok :=
 ⟨ok.mod,ok.kind,ok.glob,ok.blt,ok.above,ok.inj,ok.has,ok.cab,ok.hd,ok.frames,ok.stk,ok.exf,ok.bs,ok.bsz,ok.noex,ok.exfs,ok.funs,ok.frf⟩
section
variable {X:Cx}{pins:List (Addr×Obj)}{σ:St}{H:Hp}{s:Shared}{E:Value->Shared->Prop}
theorem Inv.wish (I:Inv X pins σ H s)(E:Value->Shared->Prop):Inv (X.wish E) pins σ H s:=⟨I.ok.wish E,I.os,I.bare,I.base,I.loc,I.cell,I.free,I.freeC,I.pin,I.hok,I.len⟩
theorem Inv.unwish (I:Inv (X.wish E) pins σ H s):Inv X pins σ H s:=⟨I.ok.unwish,I.os,I.bare,I.base,I.loc,I.cell,I.free,I.freeC,I.pin,I.hok,I.len⟩
theorem SP.unwish {D:Ends}{f:Flow}{s':Shared}(h:SP (X.wish E) pins D f s'):SP X pins D f s':=by
 cases f with
 | next=>obtain ⟨σ',H',I,q⟩:=h;exact ⟨σ',H',I.unwish,q⟩
 | brk=>obtain ⟨σ',H',I,q⟩:=h;exact ⟨σ',H',I.unwish,q⟩
 | cont=>obtain ⟨σ',H',I,q⟩:=h;exact ⟨σ',H',I.unwish,q⟩
 | ret u=>obtain ⟨v,σ',H',I,r,q⟩:=h;exact ⟨v,σ',H',I.unwish,r,q⟩
theorem PSs.nox {st:List Stmt}{t:TS}(h:PSs X.nox st t):PSs X st t:=fun pins s σ H D I hw =>
 wpAny_mono (h pins s σ H D (I.wish _) hw) (fun _ _ q=>q.unwish) fun _ _ z=>False.elim z
end
section
variable {X:Cx}{st:Stmt}{rest:List Stmt}{t u:TS}{e:Expr}{te:TE}{pos:Pos}
def tNext:TS:=fun D σ H=>D.nx σ H
def tSeq (t u:TS):TS:=fun D σ H=>t { D with nx:=u D } σ H
theorem pss_nil:PSs X [] tNext:=fun _ _ σ H _ I h=>wpAny_execs_nil ⟨σ,H,I,h⟩
theorem pss_cons (h1:PS X st t)(h2:PSs X rest u):PSs X (st::rest) (tSeq t u):=by
 intro pins s σ H D I h
 refine wpAny_execs_cons (thn (h1 pins s σ H { D with nx:=u D } I h) fun f s1 q=>?_)
 cases f with
 | next =>
  obtain ⟨σ',H',I',q⟩:=q
  exact h2 pins s1 σ' H' D I' q
 | ret v=>exact q
 | brk=>exact q
 | cont=>exact q
theorem pss_one (h1:PS X st t):PSs X [st] t:=by
 intro pins s σ H D I h
 refine wpAny_execs_cons (thn (h1 pins s σ H D I h) fun f s1 q=>?_)
 cases f with
 | next=>exact wpAny_execs_nil q
 | ret v=>exact q
 | brk=>exact q
 | cont=>exact q
theorem Inv.quiet {pins:List (Addr×Obj)}{σ:St}{H:Hp}{s:Shared}(I:Inv X pins σ H s):interactive X.env=false:=by simp [interactive,I.ok.kind]
def tDrop (te:TE):TS:=fun D σ H=>te σ H fun _ H1=>D.nx σ H1
theorem ps_expr (he:PE X e te)(hs:swapsWith e none pos.line X.env=pure false:=by rfl):PS X (.Expr e pos) (tDrop te):=by
 intro pins s σ H D I h
 exact wpAny_Expr_any (thn (he pins s σ H _ I h) fun v s1 ⟨x,H1,I1,r1,q1⟩=>⟨σ,H1,I1,q1⟩) I.quiet hs
def tRet (te:TE):TS:=fun D σ H=>te σ H D.rt
theorem ps_ret (he:PE X e te):PS X (.Return (some e) pos) (tRet te):=by
 intro pins s σ H D I h
 exact wpAny_Return_some (thn (he pins s σ H _ I h) fun v s1 ⟨x,H1,I1,r1,q1⟩=>⟨x,σ,H1,I1,r1,q1⟩)
def tIfS (c:TT)(t u:TS):TS:=fun D σ H=>c σ H fun b H1=>if b=true then t D σ H1 else u D σ H1
theorem ps_if {c:Expr}{a b:List Stmt}{tc:TT}(hc:PT X c tc)(ha:PSs X a t)(hb:PSs X b u):PS X (.If c a b pos) (tIfS tc t u):=by
 intro pins s σ H D I h
 refine wpAny_If (thn (hc pins s σ H _ I h) fun d s1 ⟨H1,I1,q1⟩=>?_)
 cases d with
 | true=>exact ha pins s1 σ H1 D I1 q1
 | false=>exact hb pins s1 σ H1 D I1 q1
end
abbrev TG:=V->St->Hp->(St->Hp->Prop)->Prop
abbrev TGs:=List V->St->Hp->(St->Hp->Prop)->Prop
def PG (X:Cx)(target:Expr)(t:TG):Prop :=
 ∀ (pins:List (Addr×Obj)) (s:Shared) (σ:St) (H:Hp) (v:V) (u:Value) (Q:St->Hp->Prop),Inv X pins σ H s->RelV v u->t v σ H Q ->
  wpAny (model X.prog X.w) X.A (assign target X.env u) (fun _ s'=>∃ σ' H',Inv X pins σ' H' s'∧Q σ' H') X.xe s
def PGs (X:Cx)(ts:List Expr)(t:TGs):Prop :=
 ∀ (pins:List (Addr×Obj)) (s:Shared) (σ:St) (H:Hp) (vs:List V) (us:List Value) (Q:St->Hp->Prop),Inv X pins σ H s->Vals vs us->t vs σ H Q ->
  wpAny (model X.prog X.w) X.A (assignInOrder ((assignEach ts X.env).map (·.2)) us) (fun _ s'=>∃ σ' H',Inv X pins σ' H' s'∧Q σ' H') X.xe s
abbrev TSet:=V->V->V->Hp->(Hp->Prop)->Prop
def PSet (X:Cx)(t:TSet):Prop :=
 ∀ (pins:List (Addr×Obj)) (s:Shared) (σ:St) (H:Hp) (o i v:V) (ov iv u:Value) (Q:Hp->Prop),Inv X pins σ H s->RelV o ov->RelV i iv->RelV v u->t o i v H Q ->
  wpAny (model X.prog X.w) X.A (setItem ov iv u) (fun _ s'=>∃ H',Inv X pins σ H' s'∧Q H') X.xe s
section
variable {X:Cx}{pos:Pos}
def gName (i:Nat):TG:=fun v σ H Q=>Q (σ.set i (some v)) H
theorem pg_name {i:Nat}{x:Str}(hN:X.N.Nodup)(hi:X.N[i]?=some x)(hx:Loc X.env.scope x)(hf:X.fn x=true∨X.env.scope.names.lookup x=some .local:=by first | exact .inl rfl | exact .inr rfl | assumption):PG X (.Name x pos) (gName i):=by
 intro pins s σ H v u Q I r h
 exact wpAny_assign_Name (store_ok I hN hi hx r (fun s' I'=>⟨_,H,I',h⟩) hf)
def gNil:TGs:=fun vs σ H Q=>vs=[]∧Q σ H
def gCons (t:TG)(u:TGs):TGs:=fun vs σ H Q=>∃ v r,vs=v::r∧t v σ H fun σ' H'=>u r σ' H' Q
theorem pgs_nil:PGs X [] gNil:=by
 intro pins s σ H vs us Q I r h
 obtain ⟨e,h⟩:=h
 subst e
 cases r
 exact assignInOrder_nil ⟨σ,H,I,h⟩
theorem pgs_cons {e:Expr}{es:List Expr}{t:TG}{u:TGs}(h1:PG X e t)(h2:PGs X es u)
  (hs:(assignEach (e::es) X.env).map (·.2)=assign e X.env::(assignEach es X.env).map (·.2):=by rfl):PGs X (e::es) (gCons t u):=by
 intro pins s σ H vs us Q I r h
 obtain ⟨v,vr,e1,h⟩:=h
 subst e1
 cases r with
 | cons r rr =>
  rw [hs]
  refine assignInOrder_cons (thn (h1 pins s σ H _ _ _ I r h) fun _ s1 ⟨σ1,H1,I1,q1⟩=>?_)
  exact h2 pins s1 σ1 H1 _ _ Q I1 rr q1
def gTup (K:PySem.W.Frag)(n:Nat)(t:TGs):TG:=fun v σ H Q=>∃ a xs,v = .ref a∧SqT K H a xs∧xs.length=n∧t xs σ H Q
theorem pg_tup {es:List Expr}{k:Nat}{t:TGs}{n:Nat}(hc:X.calm=true)(h:PGs X es t)
  (hn:(assignEach es X.env).length=n:=by rfl) (hst:(assignEach es X.env).findIdx? (·.1)=none:=by rfl):PG X (.Tuple es k pos) (gTup X.K n t):=by
 intro pins s σ H v u Q I r hw
 obtain ⟨a,xs,e1,hq,hl,hw⟩:=hw
 subst e1
 cases r
 obtain ⟨its,rv,ht,hz⟩:=I.tuple hq
 refine assign_Tuple_tuple (I.ok.hd hc) ht (by simp [hn,<- hl,rv.length]) hst fun h' hx=>?_
 have I1:Inv X pins σ H { s with heap:=h' }:=I.kept (t':=s.toks) fun b o e=>hx b o (Nat.ne_of_lt (Heap.lt_size e)) e
 exact h pins _ σ H xs _ Q I1 (by simpa using rv) hw
def tAsg (te:TE)(g:TG):TS:=fun D σ H=>te σ H fun x H1=>g x σ H1 D.nx
theorem ps_asg {tg e:Expr}{te:TE}{g:TG}(he:PE X e te)(hg:PG X tg g)(hs:swapsWithSole [tg] e pos.line X.env=pure false:=by rfl)(hw:swappedStores [tg] e X.env=pure none:=by rfl)
  (h1:(assignEach [tg] X.env).map (·.2)=[assign tg X.env]:=by rfl):PS X (.Assign [tg] e pos) (tAsg te g):=by
 intro pins s σ H D I h
 refine wpAny_Assign_stores (thn (he pins s σ H _ I h) fun v s1 ⟨x,H1,I1,r1,q1⟩=>?_) hs hw
 rw [h1]
 exact thn (hg pins s1 σ H1 x v _ I1 r1 q1) fun _ s2 q=>q
theorem ps_set {i:Nat}{x:Str}{e:Expr}{te:TE}{pos':Pos}(hN:X.N.Nodup)(hi:X.N[i]?=some x)(hx:Loc X.env.scope x)(he:PE X e te)(hs:swapsWith e (some (.Name x pos')) pos.line X.env=pure false:=by rfl)(hf:X.fn x=true∨X.env.scope.names.lookup x=some .local:=by first | exact .inl rfl | exact .inr rfl | assumption) :
  PS X (.Assign [.Name x pos'] e pos) (tAsg te (gName i)):=by
 intro pins s σ H D I h
 refine wpAny_Assign_Name (thn (he pins s σ H _ I h) fun v s1 ⟨y,H1,I1,r1,q1⟩=>?_) hs
 exact store_ok I1 hN hi hx r1 (fun s2 I2=>⟨_,H1,I2,q1⟩) hf
end
section
variable {X:Cx}{pos:Pos}
end
set_option genInjectivity false in
structure It where
 go:Nat->Hp->Prop
 yld:Nat->Hp->V->Hp->Prop
 stop:Nat->Hp->Prop
def FpOk (X:Cx)(pins:List (Addr×Obj))(H:Hp)(b:Addr):Prop :=
 H b=none∧b≠X.env.locals∧b∉X.fs∧(b∈X.ex∨X.s₀.heap.objs.size<=b)∧(∀ x c,X.env.cells.lookup x=some c->c≠b)∧∀ p∈X.pn++pins,p.1≠b
theorem Inv.fpOk {X:Cx}{pins:List (Addr×Obj)}{σ:St}{H H':Hp}{s:Shared}{b:Addr}(I:Inv X pins σ H s)(hb:s.heap.objs.size<=b)(hn:H' b=none):FpOk X pins H' b:=by
 refine ⟨hn,Nat.ne_of_gt (Nat.lt_of_lt_of_le I.lt hb),I.nofs hb,.inr (Nat.le_trans I.sz hb),fun x c e z=>?_,fun p hp z=>?_⟩
 ·obtain ⟨v,q⟩:=I.cell x c e
  exact absurd (Nat.lt_of_lt_of_le q.lt (by rw [z];exact hb)) (Nat.lt_irrefl _)
 ·exact absurd (Nat.lt_of_lt_of_le (Heap.lt_size (I.pin p hp).1) (by rw [z];exact hb)) (Nat.lt_irrefl _)
set_option genInjectivity false in
structure Turn (P:Program)(w:World)(K:PySem.W.Frag)(tg:Expr)(J:It)(fp:List Addr)(it:Addr)(tn:Nat->Heap->Prop):Prop where
 mem:it∈fp
 obj:∀ i h,tn i h->∀ b∈fp,∃ o,h.get? b=some o∧∀ v,o.data≠.cell v
 keep:∀ i h h',tn i h->(∀ b∈fp,∀ o,h.get? b=some o->h'.get? b=some o)->tn i h'
 item:∀ (X:Cx),X.prog=P->X.w=w->X.K=K->X.calm=true->∀ (i:Nat) (pins:List (Addr×Obj)) (s:Shared) (σ:St) (H:Hp) (E:Value->Shared->Prop),Inv X pins σ H s->(∀ b∈fp,FpOk X pins H b)->tn i s.heap->J.go i H ->
  wpAny (model P w) X.A (pyNext (.ref it)) (fun r s1=>∃ u,r=some u ∧
   wpAny (model P w) X.A (letOwnedTupleGo tg (.ref it) u) (fun _ s2=>∃ x H',Inv X pins σ H' s2∧RelV x u∧J.yld i H x H'∧tn (i+1) s2.heap∧∀ b∈fp,H' b=none) E s1) E s
 done:∀ (X:Cx),X.prog=P->X.w=w->X.K=K->X.calm=true->∀ (i:Nat) (pins:List (Addr×Obj)) (s:Shared) (σ:St) (H:Hp) (E:Value->Shared->Prop),Inv X pins σ H s->(∀ b∈fp,FpOk X pins H b)->tn i s.heap->J.stop i H ->
  wpAny (model P w) X.A (pyNext (.ref it)) (fun r s1=>r=none∧Inv X pins σ H s1) E s
 self:∀ (A:Around) (i:Nat) (s:Shared) (Q:Value->Shared->Prop) (E:Value->Shared->Prop),tn i s.heap->Q (.ref it) s->wpAny (model P w) A (pyIter (.ref it)) Q E s
abbrev TI:=St->Hp->(It->Hp->Prop)->Prop
def PIE (X:Cx)(pins:List (Addr×Obj))(σ:St)(tg:Expr)(R:It->Hp->Prop)(itv:Value)(s2:Shared):Prop :=
 ∃ (it:Addr) (fp:List Addr) (tn:Nat->Heap->Prop) (J:It) (H':Hp),itv = .ref it∧Inv X pins σ H' s2∧Turn X.prog X.w X.K tg J fp it tn∧tn 0 s2.heap∧(∀ b∈fp,FpOk X pins H' b)∧R J H'
def PI (X:Cx)(tg iter:Expr)(wi:TI):Prop :=
 ∀ (pins:List (Addr×Obj)) (s:Shared) (σ:St) (H:Hp) (R:It->Hp->Prop),Inv X pins σ H s->wi σ H R ->
  wpAny (model X.prog X.w) X.A (eval iter X.env) (fun v s1=>wpAny (model X.prog X.w) X.A (pyIter v) (PIE X pins σ tg R) X.xe s1) X.xe s
theorem go_of {M : Model} {A : Around} {E : Value → Shared → Prop} {s : Shared} {tg : Expr} {it : Addr} {u : Value} {o : Obj} {n : String} {vs : Array Value} {Q : Unit → Shared → Prop} (ho : s.heap.get? it = some o) (hc : o.cls = .type n) (hd : o.data = .fields vs)
    (hn : ["enumerate", "zip", "dict_itemiterator", "dict_reverseitemiterator", "odict_iterator", "itertools.zip_longest", "itertools.pairwise"].contains n = false) (hQ : Q () s) : wpAny M A (letOwnedTupleGo tg (.ref it) u) Q E s := by
  unfold letOwnedTupleGo
  cases tg <;> first
    | exact wpAny_pure hQ
    | (cases u <;> first
        | exact wpAny_pure hQ
        | (refine wpAny_bind (wpAny_load ho ?_)
           rw [hc, hd]
           show wpAny M A (if (["enumerate", "zip", "dict_itemiterator", "dict_reverseitemiterator", "odict_iterator", "itertools.zip_longest", "itertools.pairwise"].contains n && vs[0]? == some (rawInt _)) = true then _ else _) Q E s
           rw [if_neg (by intro h; rw [hn, Bool.false_and] at h; cases h)]
           exact wpAny_pure hQ))
def Itl (K:PySem.W.Frag)(a:Addr):It :=
 ⟨fun i H=>∃ xs x,SqL K H a xs∧xs[i]?=some x,fun i H x H'=>H'=H∧∀ xs,SqL K H a xs->xs[i]?=some x,fun i H=>∃ xs,SqL K H a xs∧xs.length<=i⟩
def Itr (lo:Int)(n:Nat):It:=⟨fun i _=>i<n,fun i H x H'=>H'=H∧x = .int (lo+i),fun i _=>n<=i⟩
theorem turn_list {P:Program}{w:World}{K:PySem.W.Frag}{tg:Expr}(a it:Addr):Turn P w K tg (Itl K a) [it] it (fun i h=>h.IsListIter it a i) where
 mem:=by simp
 obj:=fun i h st b hb=>by
  have e:b=it:=by simpa using hb
  subst e
  obtain ⟨o,e,c,d⟩:=st
  exact ⟨o,e,fun v z=>by rw [d] at z;cases z⟩
 keep:=fun i h h' st k=>st.at fun o e=>k it (by simp) o e
 item:=by
  intro X hP hw hK hc i pins s σ H E I hf st hg
  subst hP hw hK
  obtain ⟨xs,x,hq,hx⟩:=hg
  obtain ⟨its,rv,p,hz⟩:=I.list hq
  obtain ⟨u,hu,ru⟩:=rv.get hx
  obtain ⟨f0,f1,f2,f3,f4,f5⟩:=hf it (by simp)
  refine wpAny_pyNext_list_item st p.isList (x:=u) (by simpa using hu) fun h' st' sb=>?_
  have I1:Inv X pins σ H { s with heap:=h' }:=I.turned (t':=s.toks) (fun b o hb e=>(sb.2 b hb).trans e) f0 f1 f3 f4 f5
  obtain ⟨o,e,c,d⟩:=id st'
  exact ⟨u,rfl,go_of (s:={ s with heap:=h' }) e c d (by decide) ⟨x,H,I1,ru,⟨rfl,fun ys hy=>by rw [I.list_inj hy hq];exact hx⟩,st',fun b hb=>(hf b hb).1⟩⟩
 done:=by
  intro X hP hw hK hc i pins s σ H E I hf st hg
  subst hP hw hK
  obtain ⟨xs,hq,hx⟩:=hg
  obtain ⟨its,rv,p,hz⟩:=I.list hq
  obtain ⟨f0,f1,f2,f3,f4,f5⟩:=hf it (by simp)
  have hl:=rv.length
  exact wpAny_pyNext_list_end (I.ok.hd hc) st p.isList (by simp;omega) fun h' eb=>⟨rfl,I.turned (t':=s.toks) (fun b o hb e=>eb b o hb e) f0 f1 f3 f4 f5⟩
 self:=fun _ _ _ _ _ st h=>wpAny_pyIter_listiter st h
theorem turn_range {P:Program}{w:World}{K:PySem.W.Frag}{tg:Expr}(it:Addr)(lo:Int)(n:Nat):Turn P w K tg (Itr lo n) [it] it (fun i h=>IsRangeIter h it (lo+(i:Nat)*1) ((n:Int)-(i:Nat)) 1) where
 mem:=by simp
 obj:=fun i h st b hb=>by
  have e:b=it:=by simpa using hb
  subst e
  exact ⟨_,st,fun v z=>by
   have z':Data.fields _=Data.cell v:=z
   cases z'⟩
 keep:=fun i h h' st k=>k it (by simp) _ st
 item:=by
  intro X hP hw hK hc i pins s σ H E I hf st hg
  subst hP hw hK
  obtain ⟨f0,f1,f2,f3,f4,f5⟩:=hf it (by simp)
  have W:=Walks.range (prog:=X.prog) (w:=X.w) (I.ok.hd hc) it lo 1 n
  refine W.item i s _ _ hg st fun v h' tk hv st' kk=>?_
  obtain ⟨t,rfl⟩:=hv
  have I1:Inv X pins σ H { s with heap:=h',toks:=tk }:=I.turned (fun b o hb e=>kk b o (by simpa using hb) e) f0 f1 f3 f4 f5
  refine ⟨_,rfl,go_of (s:={ s with heap:=h',toks:=tk }) (n := "range_iterator") st' rfl rfl (by decide) ⟨.int (lo+i),H,I1,⟨t,?_⟩,⟨rfl,rfl⟩,st',fun b hb=>(hf b hb).1⟩⟩
  rw [Int.mul_one]
 done:=by
  intro X hP hw hK hc i pins s σ H E I hf st hg
  subst hP hw hK
  obtain ⟨f0,f1,f2,f3,f4,f5⟩:=hf it (by simp)
  exact wpAny_pyNext_range_end (I.ok.hd hc) st (by have:n<=i:=hg;omega) fun h' eb=>⟨rfl,I.turned (t':=s.toks) (fun b o hb e=>eb b o hb e) f0 f1 f3 f4 f5⟩
 self:=fun _ _ _ _ _ st h=>wpAny_pyIter_rangeiter st h
end L2
namespace L2
open PySem PySem.Spec PyProof.Rows
section
variable {X:Cx}{tg:Expr}
def iList (K:PySem.W.Frag)(tl:TE):TI:=fun σ H R=>tl σ H fun x H1=>∃ a,x = .ref a∧(∃ xs,SqL K H1 a xs)∧R (Itl K a) H1
theorem pi_list {l:Expr}{tl:TE}(hl:PE X l tl):PI X tg l (iList X.K tl):=by
 intro pins s σ H R I h
 refine thn (hl pins s σ H _ I h) fun v s1 ⟨x,H1,I1,r1,q1⟩=>?_
 obtain ⟨a,e,⟨xs,hq⟩,q⟩:=q1
 subst e
 cases r1
 obtain ⟨its,rv,p,hz⟩:=I1.list hq
 refine wpAny_pyIter_list p.isList ?_
 refine ⟨s1.heap.objs.size,[s1.heap.objs.size],_,_,H1,rfl,I1.kept (t':=s1.toks) fun b o e=>Heap.get?_push_of_some _ e,turn_list a _,⟨_,Heap.get?_push_size _ rfl,rfl,rfl⟩,fun b hb=>?_,q⟩
 have e:b=s1.heap.objs.size:=by simpa using hb
 subst e
 exact I1.fpOk (Nat.le_refl _) (I1.hok.fresh (Nat.le_refl _))
theorem range_it {pins:List (Addr×Obj)}{σ:St}{H:Hp}{s:Shared}{R:It->Hp->Prop}{E:Value->Shared->Prop}{lo hi:Int}{t u v:Tok}{tk:Nat}(I:Inv X pins σ H s)(h1 : -(2 ^ 62)<=lo)(h2:lo<2 ^ 62)(h3 : -(2 ^ 62)<=hi)(h4:hi<2 ^ 62)
  (q:R (Itr lo (hi-lo).toNat) H):wpAny (model X.prog X.w) X.A (pyIter (.ref s.heap.objs.size)) (PIE X pins σ tg R) E { s with heap:=s.heap.push { cls:=.type "range",data:=.fields #[.int lo t,.int hi u,.int 1 v] },toks:=tk }:=by
 refine wpAny_pyIter_range (IsRange.new ..) (small_one h1 h2 h3 h4) ?_
 have I1:Inv X pins σ H { s with heap:=s.heap.push { cls:=.type "range",data:=.fields #[.int lo t,.int hi u,.int 1 v] },toks:=tk }:=I.kept fun b o e=>Heap.get?_push_of_some _ e
 refine ⟨(s.heap.push { cls:=.type "range",data:=.fields #[.int lo t,.int hi u,.int 1 v] }).objs.size,[(s.heap.push { cls:=.type "range",data:=.fields #[.int lo t,.int hi u,.int 1 v] }).objs.size],_,_,H,rfl,
  I1.kept (t':=tk) fun b o e=>Heap.get?_push_of_some _ e,turn_range _ lo (hi-lo).toNat,?_,fun b hb=>?_,q⟩
 ·have e1:lo+((0:Nat):Int)*1=lo:=by simp
  have e2:(((hi-lo).toNat:Nat):Int)-((0:Nat):Int)=Builtin.Range.rangeSize lo hi 1:=by rw [rangeSize_one];split <;> omega
  show IsRangeIter _ _ (lo+((0:Nat):Int)*1) ((((hi-lo).toNat:Nat):Int)-((0:Nat):Int)) 1
  rw [e1,e2]
  exact Heap.get?_push_size _ rfl
 ·have e:b=(s.heap.push { cls:=.type "range",data:=.fields #[.int lo t,.int hi u,.int 1 v] }).objs.size:=by simpa using hb
  subst e
  exact I1.fpOk (Nat.le_refl _) (I1.hok.fresh (Nat.le_refl _))
def iRng1 (ta:TA):TI:=fun σ H R=>ta σ H fun vs H1=>∃ j:Int,vs=[.int j]∧-(2 ^ 62)<=j∧j<2 ^ 62∧R (Itr 0 j.toNat) H1
theorem pi_range1 {a:Expr}{ta:TA}{p pos:Pos}(hg:Gl X "range")(hm:X.mg "range" = none)(ha:PA X [a] ta)(hs:starEach [a] X.env=[(false,eval a X.env)]:=by rfl):PI X tg (.Call (.Name "range" p) [a] [] pos) (iRng1 ta):=by
 intro pins s σ H R I h
 refine Call_ (ld_blt I hg hm boot_range (PyProof.Rows.callWith_type1 (thn (ha pos pins s σ H _ I h) fun us s1 ⟨vs,H1,I1,r1,q1⟩=>?_) hs rfl))
 obtain ⟨j,e,q1,q2,q⟩:=q1
 subst e
 cases r1 with
 | cons r rr =>
  cases rr
  obtain ⟨t,rfl⟩:=r
  exact call_range_1 (range_it I1 (by omega) (by omega) q1 q2 (by simpa using q))
def tFor (wi:TI)(g:TG)(tb:TS):TS:=fun D σ H=>wi σ H fun J H1=>∃ W:Nat->Nat->St->Hp->Prop,(∃ m,W 0 m σ H1)∧∀ i m σ H,W i m σ H ->
 (J.stop i H∧D.nx σ H)∨(J.go i H∧∃ N:St->Hp->Prop,(∀ σ' H',N σ' H'->∃ m',m'<m∧W (i+1) m' σ' H')∧∀ x H',J.yld i H x H'->g x σ H' fun σ2 H2=>tb { D with nx:=N,ct:=N,bk:=D.nx } σ2 H2)
def pinsAt (fp:List Addr)(h:Heap):List (Addr×Obj):=fp.filterMap fun b=>(h.get? b).map fun o=>(b,o)
theorem mem_pinsAt {fp:List Addr}{h:Heap}{b:Addr}{o:Obj}(hb:b∈fp)(e:h.get? b=some o):(b,o)∈pinsAt fp h:=List.mem_filterMap.mpr ⟨b,hb,by rw [e];rfl⟩
theorem of_pinsAt {fp:List Addr}{h:Heap}{p:Addr×Obj}(hp:p∈pinsAt fp h):p.1∈fp∧h.get? p.1=some p.2:=by
 obtain ⟨b,hb,e⟩:=List.mem_filterMap.mp hp
 cases q:h.get? b with
 | none=>rw [q] at e;cases e
 | some o =>
  rw [q] at e
  have e':(b,o)=p:=Option.some.inj e
  subst e'
  exact ⟨hb,q⟩
theorem Inv.pinned {pins:List (Addr×Obj)}{σ:St}{H:Hp}{s:Shared}{fp:List Addr}(I:Inv X pins σ H s)(hf:∀ b∈fp,FpOk X pins H b)(ho:∀ b∈fp,∃ o,s.heap.get? b=some o∧∀ v,o.data≠.cell v):Inv X (pins++pinsAt fp s.heap) σ H s :=
 I.pins_of fun p hp=>(List.mem_append.mp hp).elim (fun z=>I.pin p (List.mem_append_right _ z)) fun z=>by
  obtain ⟨hb,e⟩:=of_pinsAt z
  obtain ⟨f0,f1,f2,_⟩:=hf p.1 hb
  obtain ⟨o,e',d⟩:=ho p.1 hb
  rw [e] at e';cases e'
  exact ⟨e,f0,f1,f2,d⟩
theorem Inv.unpinned {pins pl:List (Addr×Obj)}{σ:St}{H:Hp}{s:Shared}(I:Inv X (pins++pl) σ H s):Inv X pins σ H s:=I.pins_of fun p hp=>I.pin p (List.mem_append_right _ (List.mem_append_left _ hp))
theorem ps_for {iter:Expr}{body:List Stmt}{wi:TI}{g:TG}{tb:TS}{pos:Pos}(hp:PassesOwn (model X.prog X.w) X.A X.env X.xe)(hc:X.calm=true)(hi:PI X tg iter wi)(hg:PG X tg g)(hb:PSs X body tb)
  (hs:∀ x,foldedSetIterable iter X.env x=pure x:=by intro _;rfl):PS X (.For tg iter body [] pos) (tFor wi g tb):=by
 intro pins s σ H D I h
 refine wpAny_For (thn (hi pins s σ H _ I h) fun v s1 h1=>thn h1 fun itv s2 h2=>?_) hs
 obtain ⟨it,fp,tn,J,H2,e,I2,T,st2,f2,W,⟨m0,w0⟩,turn⟩:=h2
 subst e
 have stat:∀ {H':Hp},(∀ b∈fp,H' b=none)->∀ b∈fp,FpOk X pins H' b:=fun hn b hb=>⟨hn b hb,(f2 b hb).2⟩
 refine codeAny_forLoop_any (fun n s'=>∃ i σ' H',Inv X pins σ' H' s'∧tn i s'.heap∧(∀ b∈fp,H' b=none)∧W i n σ' H') ?_ m0 ⟨0,σ,H2,I2,st2,fun b hb=>(f2 b hb).1,w0⟩
 rintro n s3 ⟨i,σ3,H3,I3,st3,fr3,w3⟩
 rcases turn i n σ3 H3 w3 with ⟨stop,qn⟩ | ⟨go,N,hN,step⟩
 ·refine wpAny_passesOwn hp (thn (T.done X rfl rfl rfl hc i pins s3 σ3 H3 X.xe I3 (stat fr3) st3 stop) fun r s4 ⟨hr,I4⟩=>?_)
  subst hr
  exact wpAny_execs_nil ⟨σ3,H3,I4,qn⟩
 ·refine wpAny_passesOwn hp (thn (T.item X rfl rfl rfl hc i pins s3 σ3 H3 X.xe I3 (stat fr3) st3 go) fun r s4 ⟨u,hr,h4⟩=>?_)
  subst hr
  refine wpAny_passesOwn hp (thn h4 fun _ s5 ⟨x,H5,I5,r5,y5,st5,fr5⟩=>?_)
  have I5':=I5.pinned (stat fr5) (T.obj _ _ st5)
  refine wpAny_passesOwn hp (thn (hg _ s5 σ3 H5 x u _ I5' r5 (step x H5 y5)) fun _ s6 ⟨σ6,H6,I6,q6⟩=>?_)
  refine wpAny_passesOwn hp (thn (hb _ s6 σ6 H6 _ I6 q6) fun f s7 q7=>?_)
  have again:∀ {σ7:St} {H7:Hp},Inv X (pins++pinsAt fp s5.heap) σ7 H7 s7->N σ7 H7->∃ m,m<n∧∃ i σ' H',Inv X pins σ' H' s7∧tn i s7.heap∧(∀ b∈fp,H' b=none)∧W i m σ' H':=fun {σ7 H7} I7 n7=>by
   obtain ⟨m',hm,w7⟩:=hN σ7 H7 n7
   refine ⟨m',hm,i+1,σ7,H7,I7.unpinned,T.keep _ _ _ st5 fun b hb o e=>(I7.pin (b,o) (List.mem_append_right _ (List.mem_append_right _ (mem_pinsAt hb e)))).1,fun b hb=>?_,w7⟩
   obtain ⟨o,e,d⟩:=T.obj _ _ st5 b hb
   exact (I7.pin (b,o) (List.mem_append_right _ (List.mem_append_right _ (mem_pinsAt hb e)))).2.1
  cases f with
  | next=>obtain ⟨σ7,H7,I7,n7⟩:=q7;exact again I7 n7
  | cont=>obtain ⟨σ7,H7,I7,n7⟩:=q7;exact again I7 n7
  | brk=>obtain ⟨σ7,H7,I7,q7⟩:=q7;exact ⟨σ7,H7,I7.unpinned,q7⟩
  | ret v=>obtain ⟨x7,σ7,H7,I7,r7,q7⟩:=q7;exact ⟨x7,σ7,H7,I7.unpinned,r7,q7⟩
end
theorem for_list {K:PySem.W.Frag}{a:Addr}{xs:List V}{g:TG}{tb:TS}{D:Ends}{σ:St}{H:Hp}(Pv:Nat->St->Hp->Prop)(h0:Pv 0 σ H)(hl:∀ i σ H,i<=xs.length->Pv i σ H->SqL K H a xs)
  (hs:∀ i x σ H,xs[i]?=some x->Pv i σ H->g x σ H fun σ2 H2=>tb { D with nx:=Pv (i+1),ct:=Pv (i+1),bk:=D.nx } σ2 H2) (hd:∀ σ H,Pv xs.length σ H->D.nx σ H) :
  ∃ W:Nat->Nat->St->Hp->Prop,(∃ m,W 0 m σ H)∧∀ i m σ H,W i m σ H ->
   ((Itl K a).stop i H∧D.nx σ H)∨((Itl K a).go i H∧∃ N:St->Hp->Prop,(∀ σ' H',N σ' H'->∃ m',m'<m∧W (i+1) m' σ' H')∧∀ x H',(Itl K a).yld i H x H'->g x σ H' fun σ2 H2=>tb { D with nx:=N,ct:=N,bk:=D.nx } σ2 H2):=by
 refine ⟨fun i m σ H=>m=xs.length-i∧i<=xs.length∧Pv i σ H,⟨xs.length,by simp,Nat.zero_le _,h0⟩,?_⟩
 rintro i m σ H ⟨rfl,hi,p⟩
 have q:=hl i σ H hi p
 by_cases hlt:i<xs.length
 ·refine .inr ⟨⟨xs,xs[i],q,by simp [hlt]⟩,Pv (i+1),fun σ' H' p'=>⟨xs.length-(i+1),by omega,rfl,hlt,p'⟩,fun x H' y=>?_⟩
  obtain ⟨e,y⟩:=y
  subst e
  exact hs i x σ _ (y xs q) p
 ·have e:i=xs.length:=by omega
  subst e
  exact .inl ⟨⟨xs,q,Nat.le_refl _⟩,hd σ H p⟩
theorem for_range {lo:Int}{n:Nat}{g:TG}{tb:TS}{D:Ends}{σ:St}{H:Hp}(Pv:Nat->St->Hp->Prop)(h0:Pv 0 σ H)
  (hs:∀ i σ H,i<n->Pv i σ H->g (.int (lo+i)) σ H fun σ2 H2=>tb { D with nx:=Pv (i+1),ct:=Pv (i+1),bk:=D.nx } σ2 H2) (hd:∀ σ H,Pv n σ H->D.nx σ H) :
  ∃ W:Nat->Nat->St->Hp->Prop,(∃ m,W 0 m σ H)∧∀ i m σ H,W i m σ H ->
   ((Itr lo n).stop i H∧D.nx σ H)∨((Itr lo n).go i H∧∃ N:St->Hp->Prop,(∀ σ' H',N σ' H'->∃ m',m'<m∧W (i+1) m' σ' H')∧∀ x H',(Itr lo n).yld i H x H'->g x σ H' fun σ2 H2=>tb { D with nx:=N,ct:=N,bk:=D.nx } σ2 H2):=by
 refine ⟨fun i m σ H=>m=n-i∧i<=n∧Pv i σ H,⟨n,by simp,Nat.zero_le _,h0⟩,?_⟩
 rintro i m σ H ⟨rfl,hi,p⟩
 by_cases hlt:i<n
 ·refine .inr ⟨hlt,Pv (i+1),fun σ' H' p'=>⟨n-(i+1),by omega,rfl,hlt,p'⟩,fun x H' y=>?_⟩
  obtain ⟨e,y⟩:=y
  subst e y
  exact hs i σ _ hlt p
 ·have e:i=n:=by omega
  subst e
  exact .inl ⟨Nat.le_refl _,hd σ H p⟩
end L2
namespace L2
open PySem PySem.Spec PyProof.Rows
abbrev R2:=V->V->Hp->VK->Prop
def OpR (X:Cx)(f:Value->Value->Sem Value)(r:R2):Prop :=
 ∀ (pins:List (Addr×Obj)) (s:Shared) (σ:St) (H:Hp) (x y:V) (v u:Value) (Q:VK),Inv X pins σ H s->RelV x v->RelV y u->r x y H Q ->
  wpAny (model X.prog X.w) X.A (f v u) (EP X pins σ Q) X.xe s
def UnR (X:Cx)(f:Value->Sem Value)(r:V->Hp->VK->Prop):Prop :=
 ∀ (pins:List (Addr×Obj)) (s:Shared) (σ:St) (H:Hp) (x:V) (v:Value) (Q:VK),Inv X pins σ H s->RelV x v->r x H Q ->
  wpAny (model X.prog X.w) X.A (f v) (EP X pins σ Q) X.xe s
def CallR (X:Cx)(f:Value)(r:List V->Hp->VK->Prop):Prop :=
 ∀ (pins:List (Addr×Obj)) (s:Shared) (σ:St) (H:Hp) (xs:List V) (us:List Value) (Q:VK),Inv X pins σ H s->Vals xs us->r xs H Q ->
  wpAny (model X.prog X.w) X.A (call f us) (EP X pins σ Q) X.xe s
def tOp (r:R2)(ta tb:TE):TE:=fun σ H Q=>ta σ H fun x H1=>tb σ H1 fun y H2=>r x y H2 Q
def rI (C:Int->Int->Prop)(g:Int->Int->V):R2:=fun x y H Q=>∃ i j,x = .int i∧y = .int j∧C i j∧Q (g i j) H
def rI0 (g:Int->Int->V):R2:=fun x y H Q=>∃ i j,x = .int i∧y = .int j∧Q (g i j) H
section
variable {X:Cx}{a b c:Expr}{ta tb tc:TE}{pos:Pos}
theorem binT (ha:PE X a ta)(hb:PE X b tb){pins:List (Addr×Obj)}{s:Shared}{σ:St}{H:Hp}{R:V->V->Hp->Prop}(I:Inv X pins σ H s)
  (h:ta σ H fun x H1=>tb σ H1 fun y H2=>R x y H2) {Q:Value->Shared->Prop} {f:Value->Value->Sem Value}
  (hf:∀ v u s2 x y H2,Inv X pins σ H2 s2->RelV x v->RelV y u->R x y H2->wpAny (model X.prog X.w) X.A (f v u) Q X.xe s2) :
  wpAny (model X.prog X.w) X.A (eval a X.env) (fun v s₁=>wpAny (model X.prog X.w) X.A (eval b X.env) (fun u s₂=>wpAny (model X.prog X.w) X.A (f v u) Q X.xe s₂) X.xe s₁) X.xe s:=by
 refine thn (ha pins s σ H _ I h) fun v s1 ⟨x,H1,I1,r1,q1⟩=>?_
 refine thn (hb pins s1 σ H1 _ I1 q1) fun u s2 ⟨y,H2,I2,r2,q2⟩=>?_
 exact hf v u s2 x y H2 I2 r1 r2 q2
theorem pe_op {op:Operator}{r:R2}(ho:OpR X (binaryOp op) r)(ha:PE X a ta)(hb:PE X b tb):PE X (.BinOp a op b pos) (tOp r ta tb):=by
 intro pins s σ H Q I h
 exact wpAny_BinOp (binT ha hb I h fun v u s2 x y H2 I2 rx ry q=>ho pins s2 σ H2 x y v u Q I2 rx ry q)
theorem opI {f:Value->Value->Sem Value}{C:Int->Int->Prop}{g:Int->Int->Int}
  (rule:∀ (i j:Int) (t u:Tok) (s:Shared) (Q:Value->Shared->Prop) (E:Value->Shared->Prop),C i j->Q (.int (g i j) s.toks) { s with toks:=s.toks+1 }->wpAny (model X.prog X.w) X.A (f (.int i t) (.int j u)) Q E s) :
  OpR X f (rI C fun i j=>.int (g i j)):=by
 intro pins s σ H x y v u Q I rx ry h
 obtain ⟨i,j,rfl,rfl,hc,q⟩:=h
 obtain ⟨t,rfl⟩:=rx
 obtain ⟨t',rfl⟩:=ry
 exact rule i j t t' s _ _ hc ⟨.int (g i j),H,I.tok _,⟨_,rfl⟩,q⟩
theorem opI0 {f:Value->Value->Sem Value}{g:Int->Int->Int}
  (rule:∀ (i j:Int) (t u:Tok) (s:Shared) (Q:Value->Shared->Prop) (E:Value->Shared->Prop),Q (.int (g i j) s.toks) { s with toks:=s.toks+1 }->wpAny (model X.prog X.w) X.A (f (.int i t) (.int j u)) Q E s) :
  OpR X f (rI0 fun i j=>.int (g i j)):=by
 intro pins s σ H x y v u Q I rx ry h
 obtain ⟨i,j,rfl,rfl,q⟩:=h
 obtain ⟨t,rfl⟩:=rx
 obtain ⟨t',rfl⟩:=ry
 exact rule i j t t' s _ _ ⟨.int (g i j),H,I.tok _,⟨_,rfl⟩,q⟩
theorem opB0 {f:Value->Value->Sem Value}{g:Int->Int->Bool}
  (rule:∀ (i j:Int) (t u:Tok) (s:Shared) (Q:Value->Shared->Prop) (E:Value->Shared->Prop),Q (.bool (g i j)) s->wpAny (model X.prog X.w) X.A (f (.int i t) (.int j u)) Q E s) :
  OpR X f (rI0 fun i j=>.bl (g i j)):=by
 intro pins s σ H x y v u Q I rx ry h
 obtain ⟨i,j,rfl,rfl,q⟩:=h
 obtain ⟨t,rfl⟩:=rx
 obtain ⟨t',rfl⟩:=ry
 exact rule i j t t' s _ _ ⟨.bl (g i j),H,I,rfl,q⟩
def CDiv (i j:Int):Prop:=0<j∧j<1073741824
def CPow (i j:Int):Prop:=0<=j∧j<=1000000∧i.natAbs<2 ^ 64
def CMul (i j:Int):Prop:=(-(2 ^ 64)<i∧i<2 ^ 64)∨(-(2 ^ 64)<j∧j<2 ^ 64)
theorem CMul.ok {i j:Int}(h:CMul i j):IntMulOk i j:=by
 rcases h with ⟨h1,h2⟩ | ⟨h1,h2⟩
 ·exact .of_left (intBits_le_64 h1 h2)
 ·exact .of_right (intBits_le_64 h1 h2)
theorem op_add:OpR X (binaryOp .Add) (rI0 fun i j=>.int (i+j)):=opI0 fun _ _ _ _ _ _ _ q=>add_int q
theorem op_sub:OpR X (binaryOp .Sub) (rI0 fun i j=>.int (i-j)):=opI0 fun _ _ _ _ _ _ _ q=>sub_int q
theorem op_mul:OpR X (binaryOp .Mult) (rI CMul fun i j=>.int (i*j)):=opI fun _ _ _ _ _ _ _ hc q=>mul_int q hc.ok
theorem op_fdiv:OpR X (binaryOp .FloorDiv) (rI CDiv fun i j=>.int (i/j)):=opI fun i j _ _ _ _ _ hc q=>by
 have h1:(0:Int)<j:=hc.1
 have h2:j<1073741824:=hc.2
 exact floordiv_int (by omega) (by rw [Int.fdiv_eq_ediv_of_nonneg i (by omega)];exact q) (.inl (PyProof.noPylong_small (by omega)))
theorem op_mod:OpR X (binaryOp .Mod) (rI (fun _ j=>0<j) fun i j=>.int (i % j)):=opI fun i j _ _ _ _ _ hc q=>by
 have h1:(0:Int)<j:=hc
 exact mod_int' (by omega) (by rw [Int.fmod_eq_emod_of_nonneg i (by omega)];exact q)
theorem op_pow:OpR X (binaryOp .Pow) (rI CPow fun i j=>.int (i ^ j.toNat)):=opI fun _ _ _ _ _ _ _ hc q=>pow_int_small hc.1 hc.2.1 hc.2.2 q
end
def scal:V->V->Bool
 | .non,.non=>true | .non,.int _=>true | .int _,.non=>true | .non,.bl _=>true | .bl _,.non=>true | .non,.str _=>true | .str _,.non=>true
 | .int _,.int _=>true | .bl _,.bl _=>true | .str _,.str _=>true | .byt _,.byt _=>true
 | .int _,.str _=>true | .str _,.int _=>true | .bl _,.str _=>true | .str _,.bl _=>true
 | _,_=>false
def rEq:R2:=fun x y H Q=>scal x y=true∧Q (.bl (decide (x=y))) H
def rNe:R2:=fun x y H Q=>scal x y=true∧Q (.bl (!decide (x=y))) H
theorem dec_int {i j:Int}:decide (V.int i=V.int j)=(i==j):=by
 rw [Bool.eq_iff_iff]
 simp
theorem dec_bl {i j:Bool}:decide (V.bl i=V.bl j)=(i==j):=by
 rw [Bool.eq_iff_iff]
 simp
theorem dec_str {i j:Str}:decide (V.str i=V.str j)=(i==j):=by
 rw [Bool.eq_iff_iff]
 simp
theorem dec_byt {i j:Array UInt8}:decide (V.byt i=V.byt j)=(i.toList==j.toList):=by
 rw [Bool.eq_iff_iff]
 cases i
 cases j
 simp
section
variable {X:Cx}{a b c:Expr}{ta tb tc:TE}{pos:Pos}
theorem fin_bl {pins:List (Addr×Obj)}{σ:St}{H:Hp}{s:Shared}{Q:VK}{k k':Bool}(I:Inv X pins σ H s)(q:Q (.bl k) H)(e:k=k'):EP X pins σ Q (.bool k') s:=by
 subst e
 exact ⟨.bl k,H,I,rfl,q⟩
theorem op_eq:OpR X (compareOp .Eq) rEq:=by
 intro pins s σ H x y v u Q I rx ry h
 obtain ⟨hs,q⟩:=h
 cases x with
 | non =>
  cases rx
  cases y with
  | non=>cases ry;exact PySem.EqNone.eq_none_none (fin_bl I q (by simp))
  | bl j=>cases ry;exact PySem.EqNone.eq_none_bool (fin_bl I q (by simp))
  | int j=>obtain ⟨t',rfl⟩:=ry;exact PySem.EqNone.eq_none_int (fin_bl I q (by simp))
  | str j=>obtain ⟨t',rfl⟩:=ry;exact PySem.EqNone.eq_none_str (fin_bl I q (by simp))
  | _=>exact absurd (show false=true from hs) Bool.false_ne_true
 | bl i =>
  cases rx
  cases y with
  | non=>cases ry;exact PySem.EqNone.eq_bool_none (fin_bl I q (by simp))
  | bl j=>cases ry;exact eq_bool (fin_bl I q dec_bl)
  | str j=>obtain ⟨t',rfl⟩:=ry;exact PySem.EqMixed.eq_bool_str (fin_bl I q (by simp))
  | _=>exact absurd (show false=true from hs) Bool.false_ne_true
 | int i =>
  obtain ⟨t,rfl⟩:=rx
  cases y with
  | non=>cases ry;exact PySem.EqNone.eq_int_none (fin_bl I q (by simp))
  | int j=>obtain ⟨t',rfl⟩:=ry;exact eq_int (fin_bl I q dec_int)
  | str j=>obtain ⟨t',rfl⟩:=ry;exact PySem.EqMixed.eq_int_str (fin_bl I q (by simp))
  | _=>exact absurd (show false=true from hs) Bool.false_ne_true
 | str i =>
  obtain ⟨t,rfl⟩:=rx
  cases y with
  | non=>cases ry;exact PySem.EqNone.eq_str_none (fin_bl I q (by simp))
  | bl j=>cases ry;exact PySem.EqMixed.eq_str_bool (fin_bl I q (by simp))
  | int j=>obtain ⟨t',rfl⟩:=ry;exact PySem.EqMixed.eq_str_int (fin_bl I q (by simp))
  | str j=>obtain ⟨t',rfl⟩:=ry;exact eq_str (fin_bl I q dec_str)
  | _=>exact absurd (show false=true from hs) Bool.false_ne_true
 | byt i =>
  obtain ⟨t,rfl⟩:=rx
  cases y with
  | byt j=>obtain ⟨t',rfl⟩:=ry;exact PySem.W.eq_bytes (fin_bl I q dec_byt)
  | _=>exact absurd (show false=true from hs) Bool.false_ne_true
 | _=>cases y <;> exact absurd (show false=true from hs) Bool.false_ne_true
theorem op_ne:OpR X (compareOp .NotEq) rNe:=by
 intro pins s σ H x y v u Q I rx ry h
 obtain ⟨hs,q⟩:=h
 cases x with
 | non =>
  cases rx
  cases y with
  | non=>cases ry;exact PySem.EqNone.ne_none_none (fin_bl I q (by simp))
  | bl j=>cases ry;exact PySem.EqNone.ne_none_bool (fin_bl I q (by simp))
  | int j=>obtain ⟨t',rfl⟩:=ry;exact PySem.EqNone.ne_none_int (fin_bl I q (by simp))
  | str j=>obtain ⟨t',rfl⟩:=ry;exact PySem.EqNone.ne_none_str (fin_bl I q (by simp))
  | _=>exact absurd (show false=true from hs) Bool.false_ne_true
 | bl i =>
  cases rx
  cases y with
  | non=>cases ry;exact PySem.EqNone.ne_bool_none (fin_bl I q (by simp))
  | bl j=>cases ry;exact ne_bool (fin_bl I q (congrArg not dec_bl))
  | str j=>obtain ⟨t',rfl⟩:=ry;exact PySem.EqMixed.ne_bool_str (fin_bl I q (by simp))
  | _=>exact absurd (show false=true from hs) Bool.false_ne_true
 | int i =>
  obtain ⟨t,rfl⟩:=rx
  cases y with
  | non=>cases ry;exact PySem.EqNone.ne_int_none (fin_bl I q (by simp))
  | int j=>obtain ⟨t',rfl⟩:=ry;exact ne_int (fin_bl I q (congrArg not dec_int))
  | str j=>obtain ⟨t',rfl⟩:=ry;exact PySem.EqMixed.ne_int_str (fin_bl I q (by simp))
  | _=>exact absurd (show false=true from hs) Bool.false_ne_true
 | str i =>
  obtain ⟨t,rfl⟩:=rx
  cases y with
  | non=>cases ry;exact PySem.EqNone.ne_str_none (fin_bl I q (by simp))
  | bl j=>cases ry;exact PySem.EqMixed.ne_str_bool (fin_bl I q (by simp))
  | int j=>obtain ⟨t',rfl⟩:=ry;exact PySem.EqMixed.ne_str_int (fin_bl I q (by simp))
  | str j=>obtain ⟨t',rfl⟩:=ry;exact ne_str (fin_bl I q (congrArg not dec_str))
  | _=>exact absurd (show false=true from hs) Bool.false_ne_true
 | byt i =>
  obtain ⟨t,rfl⟩:=rx
  cases y with
  | byt j=>obtain ⟨t',rfl⟩:=ry;exact PySem.W.ne_bytes (fin_bl I q (congrArg not dec_byt))
  | _=>exact absurd (show false=true from hs) Bool.false_ne_true
 | _=>cases y <;> exact absurd (show false=true from hs) Bool.false_ne_true
theorem op_lt:OpR X (compareOp .Lt) (rI0 fun i j=>.bl (decide (i<j))):=opB0 fun _ _ _ _ _ _ _ q=>lt_int q
theorem op_le:OpR X (compareOp .LtE) (rI0 fun i j=>.bl (decide (i<=j))):=opB0 fun _ _ _ _ _ _ _ q=>le_int q
theorem op_gt:OpR X (compareOp .Gt) (rI0 fun i j=>.bl (decide (j<i))):=opB0 fun _ _ _ _ _ _ _ q=>gt_int q
theorem op_in_str:OpR X (compareOp .In) (fun x y H Q=>∃ i j,x = .str i∧y = .str j∧Q (.bl (!(Builtin.Str.occurrences j i 0 j.length 1).isEmpty)) H):=by
 intro pins s σ H x y v u Q I rx ry h
 obtain ⟨i,j,rfl,rfl,q⟩:=h
 obtain ⟨t,rfl⟩:=rx
 obtain ⟨t',rfl⟩:=ry
 exact in_str (fin_bl I q rfl)
theorem op_notin_str:OpR X (compareOp .NotIn) (fun x y H Q=>∃ i j,x = .str i∧y = .str j∧Q (.bl (!(!(Builtin.Str.occurrences j i 0 j.length 1).isEmpty))) H):=by
 intro pins s σ H x y v u Q I rx ry h
 obtain ⟨i,j,rfl,rfl,q⟩:=h
 obtain ⟨t,rfl⟩:=rx
 obtain ⟨t',rfl⟩:=ry
 exact notIn_str (fin_bl I q rfl)
theorem nomark (b:Expr){op:CmpOp}(h:op≠.In:=by decide)(h2:op≠.NotIn:=by decide):behindInMarks op b=false:=by
 have e1:(op==CmpOp.In)=false:=by cases op <;> first | rfl | exact absurd rfl h
 have e2:(op==CmpOp.NotIn)=false:=by cases op <;> first | rfl | exact absurd rfl h2
 cases b <;> simp [behindInMarks,e1,e2]
theorem pe_cmpR {op:CmpOp}{r:R2}(ho:OpR X (compareOp op) r)(ha:PE X a ta)(hb:PE X b tb)(hm:behindInMarks op b=false):PE X (.Compare a [op] [b] pos) (tOp r ta tb):=by
 intro pins s σ H Q I h
 exact wpAny_Compare1 (binT ha hb I h fun v u s2 x y H2 I2 rx ry q=>ho pins s2 σ H2 x y v u Q I2 rx ry q) hm
def tTest (t:TE):TT:=fun σ H Q=>t σ H fun x H'=>∃ k,x = .bl k∧Q k H'
theorem pt_cmpR {op:CmpOp}{r:R2}(ho:OpR X (compareOp op) r)(ha:PE X a ta)(hb:PE X b tb)(hm:behindInMarks op b=false):PT X (.Compare a [op] [b] pos) (tTest (tOp r ta tb)):=by
 intro pins s σ H Q I h
 refine wpAny_isTrue_Compare1 (thn (ha pins s σ H _ I h) fun v s1 ⟨x,H1,I1,r1,q1⟩=>thn (hb pins s1 σ H1 _ I1 q1) fun u s2 ⟨y,H2,I2,r2,q2⟩ =>
  thn (ho pins s2 σ H2 x y v u _ I2 r1 r2 q2) fun c s3 ⟨z,H3,I3,r3,k,e,q3⟩=>?_) hm
 subst e
 cases r3
 exact wpAny_truthy_bool ⟨H3,I3,q3⟩
theorem line63:(sizeLine:Nat)<2 ^ 63:=by rw [sizeLine_eq];decide
theorem op_add_str:OpR X (binaryOp .Add) (fun x y H Q=>∃ i j,x = .str i∧y = .str j∧i.length+j.length<=sizeLine∧Q (.str (i++j)) H):=by
 intro pins s σ H x y v u Q I rx ry h
 obtain ⟨i,j,rfl,rfl,hz,q⟩:=h
 obtain ⟨t,rfl⟩:=rx
 obtain ⟨t',rfl⟩:=ry
 exact add_str (fun t' tk=>⟨.str (i++j),H,I.tok _,⟨_,rfl⟩,q⟩) hz
theorem vals1 {x:V}{us:List Value}(r:Vals [x] us):∃ u,us=[u]∧RelV x u:=by
 cases r with
 | cons r1 r2=>cases r2;exact ⟨_,rfl,r1⟩
theorem vals2 {x y:V}{us:List Value}(r:Vals [x,y] us):∃ u w',us=[u,w']∧RelV x u∧RelV y w':=by
 cases r with
 | cons r1 r2 =>
  cases r2 with
  | cons r3 r4=>cases r4;exact ⟨_,_,rfl,r1,r3⟩
end
end L2
namespace L2
open PySem PySem.Spec PyProof.Rows
set_option genInjectivity false in
structure ObjM (h:Heap)(x dx C:Addr)(mA:Str->Option Value):Prop where
 obj:h.get? x=some (PySem.W.instObj C dx)
 ns:h.Ns1 dx mA
 ne:dx≠x
theorem lookIn_ns {h:Heap}{dx:Addr}{mA:Str->Option Value}(n:h.Ns1 dx mA):∃ od,h.get? dx=some od∧∀ name,PySem.W.lookIn name od=some (mA name):=by
 obtain ⟨o,es,ep,ho,hd,hk,_,hm⟩:=n
 refine ⟨o,ho,fun name=>?_⟩
 have e:=hm name
 unfold nsFind findBy at e
 rw [<- Array.find?_toList] at e
 unfold PySem.W.lookIn
 rw [hd]
 dsimp only
 split
 ·rename_i y q
  rw [q] at e
  exact congrArg some e
 ·rename_i q
  rw [q] at e
  have a:es.toList.any (·.refKey)=false:=by
   rw [List.any_eq_false]
   intro y hy
   obtain ⟨z,t,hkey⟩:=hk y (Array.mem_toList_iff.mp hy)
   simp [DictEntry.refKey,hkey]
  have a':¬ es.toList.any (·.refKey)=true:=by rw [a];exact Bool.false_ne_true
  rw [if_neg a']
  exact congrArg some e
theorem ObjM.look {h:Heap}{x dx C:Addr}{mA:Str->Option Value}(I:ObjM h x dx C mA):∃ od,PySem.W.InstAt h x (PySem.W.instObj C dx) C (some od)∧∀ name,PySem.W.lookIn name od=some (mA name) :=
 let ⟨od,ho,hl⟩:=lookIn_ns I.ns
 ⟨od,⟨I.obj,rfl,rfl,ho⟩,hl⟩
section
variable {prog:Program}{w:World}{A:Around}{E:Value->Shared->Prop}{s:Shared}{K:PySem.W.Frag}{x dx C f:Addr}{mA:Str->Option Value}{name:Str}{v:Value}
theorem get_map {expr:Bool}{Q:Value->Shared->Prop}(X:K.In s.heap)(I:ObjM s.heap x dx C mA)(hg:PySem.W.plainGet K C name=true)(hh:PySem.W.hasDictIn K C=true)
  (ha:PySem.W.findIn K (.ref C) name=some none) (hv:mA name=some v) (hv':PySem.W.handedIn v=true) (h:Q v { s with toks:=s.toks+1 }) :
  wpAny (model prog w) A (getAttr (.ref x) name expr) Q E s:=by
 obtain ⟨od,J,hl⟩:=I.look
 exact PySem.W.get_value X J (PySem.W.plainGet_of hg).1 (PySem.W.findObj_own hh ha rfl (by rw [hl,hv])) hv' h
theorem set_map {ns:List Str}{Q:Unit->Shared->Prop}(X:K.In s.heap)(I:ObjM s.heap x dx C mA)
  (hs:PySem.W.findIn K (.ref C) "__setattr__" = some (some (.builtin "object.__setattr__"))) (hp:PySem.W.plainOver K C=true) (ht:PySem.W.takerIn K C name=some none) (hh:PySem.W.hasDictIn K C=true)
  (hw:PySem.Within mA ns) (hsz:ns.length<=sizeLine)
  (h:∀ h',ObjM h' x dx C (fun y=>if y=name then some v else mA y)->Heap.SameBut dx s.heap h'->Q () { s with heap:=h',toks:=s.toks+2 }) :
  wpAny (model prog w) A (setAttr (.ref x) name v) Q E s:=by
 obtain ⟨od,J,hl⟩:=I.look
 refine PySem.W.set_plain X J hs (PySem.W.osa_open (s:={ s with toks:=s.toks+1 }) (r:=none) X J hp ht fun b=>?_)
 obtain ⟨cd,hc,hd'⟩:=PySem.W.any_some hh
 have hx:s.heap.get? x=some ⟨.ref C,some dx,.plain,#[]⟩:=I.obj
 refine wpAny_bind (wpAny_pure (wpAny_bind (wpAny_bind (wpAny_loadPart hx (wpAny_bind (PySem.W.Looks.here (s:={ s with toks:=s.toks+1 }) (PySem.W.looks_clsIn X hc) ?_))))))
 rw [hd']
 refine wpAny_pure (a:=some dx) (wpAny_bind (wpAny_pure (wpAny_bind ?_)))
 refine wpAny_nsSet1 (s:={ s with toks:=s.toks+1 }) I.ns fun h' hn2 hs2=>?_
 obtain ⟨oD,esD,epD,hoD,hdD,hcD⟩:=hn2.count (PySem.Within.cons name v hw)
 refine wpAny_bind (wpAny_lookBehind hoD (by rw [hdD];exact pastItsLine_dict (Nat.le_trans hcD (by rw [List.length_cons];omega))) ?_)
 exact wpAny_pure (h _ ⟨(hs2.2 _ (Ne.symm I.ne)).trans I.obj,hn2,I.ne⟩ hs2)
theorem make_map {R:Result->Shared->Prop}{vs:List Value}{kw:List (Str×Value)}(X:K.In s.heap)(hm:PySem.W.makesIn K C=true)
  (hi:PySem.W.findIn K (.ref C) "__init__" = some (some (.ref f))) (hf:PySem.W.typeIn K (.ref f)=some (.type "function"))
  (h:codeAny (model prog w) (A.under (.builtin "type.__call__" ⟨.ref C::vs,kw⟩)) (.call (.ref f) ⟨.ref (s.heap.objs.size+1)::vs,kw⟩) (PySem.W.InitBack (s.heap.objs.size+1) R)
   { s with heap:=(s.heap.push PySem.W.emptyDict).push (PySem.W.instObj C s.heap.objs.size) }) :
  codeAny (model prog w) A (.call (.ref C) ⟨vs,kw⟩) R s:=by
 obtain ⟨hh,g,d,t,os⟩:=s
 exact PySem.W.make_core (PySem.W.makes_of X hm) (PySem.W.looks_findIn X hi) (fun self=>PySem.W.bind_fn X self hf) (.inl rfl) h
end
def putF (f:Str)(v:V):List (Str×V)->List (Str×V)
 | []=>[(f,v)]
 | (g,x)::r=>if g=f then (g,v)::r else (g,x)::putF f v r
theorem lookup_putF (f g:Str)(v:V):∀ fs:List (Str×V),(putF f v fs).lookup g=if g=f then some v else fs.lookup g
 | []=>by
  show List.lookup g [(f,v)]=_
  by_cases h:g=f
  ·have hb:(g==f)=true:=beq_iff_eq.mpr h
   simp only [List.lookup,hb,if_pos h]
  ·have hb:(g==f)=false:=beq_eq_false_iff_ne.mpr h
   simp only [List.lookup,hb,if_neg h]
 | (k,x)::r=>by
  have ih:=lookup_putF f g v r
  rw [show putF f v ((k,x)::r)=(if k=f then (k,v)::r else (k,x)::putF f v r) from rfl]
  by_cases hk:k=f
  ·rw [if_pos hk]
   by_cases h:g=k
   ·have hb:(g==k)=true:=beq_iff_eq.mpr h
    simp only [List.lookup,hb,if_pos (h.trans hk)]
   ·have hb:(g==k)=false:=beq_eq_false_iff_ne.mpr h
    simp only [List.lookup,hb,if_neg (fun e:g=f=>h (e.trans hk.symm))]
  ·rw [if_neg hk]
   by_cases h:g=k
   ·have hb:(g==k)=true:=beq_iff_eq.mpr h
    simp only [List.lookup,hb,if_neg (fun e:g=f=>hk (h.symm.trans e))]
   ·have hb:(g==k)=false:=beq_eq_false_iff_ne.mpr h
    simp only [List.lookup,hb]
    exact ih
theorem keys_putF (f:Str)(v:V):∀ fs:List (Str×V),f∈(putF f v fs).map (·.1)∧∀ g,g∈fs.map (·.1)->g∈(putF f v fs).map (·.1)
 | []=>⟨by simp [putF],fun g h=>by simp at h⟩
 | (k,x)::r=>by
  obtain ⟨i1,i2⟩:=keys_putF f v r
  rw [show putF f v ((k,x)::r)=(if k=f then (k,v)::r else (k,x)::putF f v r) from rfl]
  by_cases hk:k=f
  ·rw [if_pos hk]
   subst hk
   exact ⟨by simp,fun g h=>by simpa using h⟩
  ·rw [if_neg hk]
   refine ⟨?_,fun g h=>?_⟩
   ·rw [List.map_cons]
    exact List.mem_cons_of_mem _ i1
   ·rw [List.map_cons] at h ⊢
    rcases List.mem_cons.mp h with e | e
    ·exact List.mem_cons.mpr (.inl e)
    ·exact List.mem_cons_of_mem _ (i2 g e)
theorem length_putF (f:Str)(v:V):∀ fs:List (Str×V),(putF f v fs).length<=fs.length+1
 | []=>by simp [putF]
 | (k,x)::r=>by
  have ih:=length_putF f v r
  rw [show putF f v ((k,x)::r)=(if k=f then (k,v)::r else (k,x)::putF f v r) from rfl]
  by_cases hk:k=f
  ·rw [if_pos hk,List.length_cons,List.length_cons];omega
  ·rw [if_neg hk,List.length_cons,List.length_cons];omega
theorem RelO.some_of {v:V}{o:Option Value}(r:RelO (some v) o):∃ u,o=some u∧RelV v u:=by
 cases o with
 | none=>exact (show False from r).elim
 | some u=>exact ⟨u,rfl,r⟩
theorem handed_of {v:V}{u:Value}(r:RelV v u):PySem.W.handedIn u=true:=by
 cases v with
 | non=>cases (show u=Value.none from r);rfl
 | bl b=>cases (show u=Value.bool b from r);rfl
 | int i=>obtain ⟨t,e⟩:=(show ∃ t,u=Value.int i t from r);cases e;rfl
 | str x=>obtain ⟨t,e⟩:=(show ∃ t,u=Value.str x t from r);cases e;rfl
 | byt b=>obtain ⟨t,e⟩:=(show ∃ t,u=Value.bytes b t from r);cases e;rfl
 | flt b=>obtain ⟨t,e⟩:=(show ∃ t,u=Value.float b t from r);cases e;rfl
 | ref a=>cases (show u=Value.ref a from r);rfl
 | ty n=>cases (show u=Value.type n from r);rfl
section
variable {P:Program}{w:World}{H H':Hp}{h h':Heap}{a C dx:Addr}{fs fs':List (Str×V)}
theorem ins_get (hok:HOk P w H h)(e:H a=some (.ins C dx fs)):∃ mA,ObjM h a dx C mA∧(∀ f,RelO (fs.lookup f) (mA f))∧PySem.Within mA (fs.map (·.1))∧fs.length<=1000∧H dx=some (.own a):=by
 obtain ⟨d,z,ne,ob,mA,n,r,q⟩:=(show ObjOk P w H h a (.ins C dx fs) from hok a _ e)
 exact ⟨mA,⟨ob,n,ne⟩,r,q,z,d⟩
end
set_option genInjectivity false in
structure Cls (K:PySem.W.Frag)(C:Addr):Prop where
 pg:PySem.W.plainGet K C Str.empty=true
 hd:PySem.W.hasDictIn K C=true
 po:PySem.W.plainOver K C=true
 sa:PySem.W.findIn K (.ref C) "__setattr__" = some (some (.builtin "object.__setattr__"))
theorem Cls.get {K:PySem.W.Frag}{C:Addr}(c:Cls K C)(f:Str):PySem.W.plainGet K C f=true:=c.pg
def NoAttr (K:PySem.W.Frag)(C:Addr)(f:Str):Prop:=PySem.W.findIn K (.ref C) f=some none
theorem NoAttr.taker {K:PySem.W.Frag}{C:Addr}{f:Str}(n:NoAttr K C f):PySem.W.takerIn K C f=some none:=by
 unfold PySem.W.takerIn
 rw [show PySem.W.findIn K (.ref C) f=some none from n]
 rfl
set_option genInjectivity false in
structure Meth (K:PySem.W.Frag)(C:Addr)(m:Str)(f:Addr):Prop where
 at_:PySem.W.findIn K (.ref C) m=some (some (.ref f))
 fn:PySem.W.isFn K (.ref f)=true
 kp:PySem.W.keepIn K (.ref f)=true
section
variable {X:Cx}{pins:List (Addr×Obj)}{σ:St}{H:Hp}{s:Shared}{a C dx:Addr}{fs:List (Str×V)}{f:Str}{v:V}{A:Around}{E:Value->Shared->Prop}
theorem getattr_ok {b:Bool}{Q:Value->Shared->Prop}(I:Inv X pins σ H s)(e:H a=some (.ins C dx fs))(c:Cls X.K C)(n:NoAttr X.K C f)(l:fs.lookup f=some v)
  (h:∀ u s',Inv X pins σ H s'->RelV v u->Q u s'):wpAny (model X.prog X.w) A (getAttr (.ref a) f b) Q E s:=by
 obtain ⟨mA,O,r,_,_,_⟩:=ins_get I.hok e
 obtain ⟨u,hu,ru⟩:=RelO.some_of (v:=v) (o:=mA f) (by rw [<- l];exact r f)
 exact get_map I.kIn O (c.get f) c.hd n hu (handed_of ru) (h u _ (I.tok _) ru)
theorem setattr_ok {y:V}{u:Value}{Q:Unit->Shared->Prop}(I:Inv X pins σ H s)(e:H a=some (.ins C dx fs))(c:Cls X.K C)(n:NoAttr X.K C f)(hl:fs.length<1000)(ry:RelV y u)
  (h:∀ s',Inv X pins σ (upd H a (.ins C dx (putF f y fs))) s'->Q () s'):wpAny (model X.prog X.w) A (setAttr (.ref a) f u) Q E s:=by
 obtain ⟨mA,O,r,wi,_,ho⟩:=ins_get I.hok e
 have hz:(fs.map (·.1)).length<=sizeLine:=by rw [List.length_map,sizeLine_eq];omega
 refine set_map I.kIn O c.sa c.po n.taker c.hd wi hz fun h' O' sb=>h _ ?_
 have hd:∃ o,h'.get? dx=some o:=let ⟨o,_,_,e',_⟩:=O'.ns;⟨o,e'⟩
 refine I.write (x:=a) (e:=dx) (by rw [e];exact True.intro) (.inr ho) (fun b q hb z=>(sb.2 b hb).trans z) hd ?_
 refine ⟨by rw [upd_ne O.ne];exact ho,?_,O.ne,O'.obj,_,O'.ns,fun g=>?_,fun g hg=>?_⟩
 ·have:=length_putF f y fs;omega
 ·show RelO ((putF f y fs).lookup g) (if g=f then some u else mA g)
  rw [lookup_putF]
  by_cases q:g=f
  ·rw [if_pos q,if_pos q];exact ry
  ·rw [if_neg q,if_neg q];exact r g
 ·by_cases q:g=f
  ·rw [q];exact (keys_putF f y fs).1
  ·refine (keys_putF f y fs).2 g (wi g fun z=>hg ?_)
   show (if g=f then some u else mA g)=none
   rw [if_neg q];exact z
theorem Inv.made (I:Inv X pins σ H s):Inv X pins σ (upd (upd H s.heap.objs.size (.own (s.heap.objs.size+1))) (s.heap.objs.size+1) (.ins C s.heap.objs.size []))
  { s with heap:=(s.heap.push PySem.W.emptyDict).push (PySem.W.instObj C s.heap.objs.size) }:=by
 have e1:(s.heap.push PySem.W.emptyDict).get? s.heap.objs.size=some PySem.W.emptyDict:=Heap.get?_push_size s.heap rfl
 have e2:((s.heap.push PySem.W.emptyDict).push (PySem.W.instObj C s.heap.objs.size)).get? (s.heap.objs.size+1)=some (PySem.W.instObj C s.heap.objs.size):=by
  have:=Heap.get?_push_size (s.heap.push PySem.W.emptyDict) (o:=PySem.W.instObj C s.heap.objs.size) rfl
  rwa [Heap.size_push] at this
 have e3:(s.heap.push PySem.W.emptyDict).Ns s.heap.objs.size (fun _=>none):=⟨PySem.W.emptyDict,#[],_,e1,rfl,(fun e he=>absurd he (by simp)),fun _=>rfl⟩
 have I1:=I.laid (a:=s.heap.objs.size) (o:=.own (s.heap.objs.size+1)) (h':=s.heap.push PySem.W.emptyDict) (t':=s.toks) (fun b u q=>Heap.get?_push_of_some _ q) (Nat.le_refl _) ⟨_,e1⟩
 refine I1.laid (a:=s.heap.objs.size+1) (o:=.ins C s.heap.objs.size []) (t':=s.toks) (fun b u q=>Heap.get?_push_of_some _ q) (Nat.le_of_eq (Heap.size_push _ _)) ?_
 have ne:s.heap.objs.size≠s.heap.objs.size+1:=Nat.ne_of_lt (Nat.lt_succ_self _)
 refine ⟨by rw [upd_ne ne,upd_same],Nat.zero_le _,ne,e2,fun _=>none,(Heap.Ns1.of_empty e3).at fun o q=>Heap.get?_push_of_some _ q,fun _=>True.intro,fun y hy=>absurd rfl hy⟩
theorem attr_of {prog:Program}{w:World}{env:Env}{e:Expr}{f:Str}{pos:Pos}{s:Shared}{Q:Value->Shared->Prop}(hb:attributeBase e f env (eval e env)=eval e env)
  (h:wpAny (model prog w) A (eval e env) (fun o s₁=>wpAny (model prog w) A (getAttr o f true) Q E s₁) E s):wpAny (model prog w) A (eval (.Attribute e f pos) env) Q E s :=
 Attribute_any_ h (by rw [arm_eval_Attribute,hb])
end
def sFld (K:PySem.W.Frag)(ta tv:TE)(f:Str):TS:=fun D σ H=>tv σ H fun y H1=>ta σ H1 fun x H2=>∃ a C dx fs,x = .ref a∧H2 a=some (.ins C dx fs)∧Cls K C∧NoAttr K C f∧fs.length<1000 ∧
 D.nx σ (upd H2 a (.ins C dx (putF f y fs)))
section
variable {X:Cx}{o e value:Expr}{f:Str}{pos pos' tpos:Pos}{ta tv:TE}
theorem ps_fld (ha:PE X o ta)(hv:PE X value tv)(hs:swapsWith value (some (.Attribute o f pos')) pos.line X.env=pure false):PS X (.Assign [.Attribute o f pos'] value pos) (sFld X.K ta tv f):=by
 intro pins s σ H D I h
 refine plainObj_wpAny_Assign_Attribute (thn (hv pins s σ H _ I h) fun u s1 ⟨y,H1,I1,ry,q⟩=>thn (ha pins s1 σ H1 _ I1 q) fun ov s2 ⟨x,H2,I2,rx,a,C,dx,fs,ex,ea,c,n,l,q2⟩=>?_) hs
 subst ex
 obtain rfl:ov=Value.ref a:=rx
 exact setattr_ok I2 ea c n l ry fun s3 I3=>⟨σ,_,I3,q2⟩
end
section
variable {X:Cx}{pins:List (Addr×Obj)}{σ:St}{H:Hp}{s:Shared}{A:Around}{E:Value->Shared->Prop}{Q:Value->Shared->Prop}{c:Value}{b:Bool}
end
end L2
namespace L2
open PySem PySem.Spec PyProof.Rows
set_option genInjectivity false in
structure Room (k:Nat)(A:Around):Prop where
 hd:A.handled=none
 dp:A.depth+3*k+5<recursionLimit
 un:A.units+16*k+200<cLine
theorem Room.mono {j k:Nat}{A:Around}(r:Room k A)(h:j<=k):Room j A:=⟨r.hd,by have:=r.dp;omega,by have:=r.un;omega⟩
theorem Room.deeper {k:Nat}{A:Around}(r:Room (k+1) A)(env:Env):Room k (A.deeper env) :=
 ⟨r.hd,by have:=r.dp;show A.depth+1+3*k+5<_;omega,by have:=r.un;show A.units+3+16*k+200<_;omega⟩
theorem make_depth {A:Around}{C:Addr}{us:List Value}{kw:List (Str×Value)}:(A.under (.builtin "type.__call__" ⟨.ref C::us,kw⟩)).depth=A.depth+1:=by
 first | rfl | simp [Around.under,Code.weight,Code.isCreation,Code.isGuard,Code.isCaller,Code.frames,Code.isFrame,guardIds]
theorem make_units {A:Around}{C:Addr}{us:List Value}{kw:List (Str×Value)}:(A.under (.builtin "type.__call__" ⟨.ref C::us,kw⟩)).units=A.units+1:=by
 first | rfl | simp [Around.under,Code.cUnits,Code.frames,Code.isFrame]
theorem Room.make {k:Nat}{A:Around}(r:Room (k+1) A)(C:Addr)(us:List Value)(kw:List (Str×Value)):Room k (A.under (.builtin "type.__call__" ⟨.ref C::us,kw⟩)) :=
 ⟨r.hd,by have:=r.dp;rw [make_depth];omega,by have:=r.un;rw [make_units];omega⟩
theorem Room.depth {k:Nat}{A:Around}(r:Room k A):A.depth<recursionLimit:=by have:=r.dp;omega
theorem Room.units {k:Nat}{A:Around}(r:Room k A):A.units+64<cLine:=by have:=r.un;omega
def tNil:TA:=fun _ H Q=>Q [] H
def tCons (ta:TE)(tr:TA):TA:=fun σ H Q=>ta σ H fun x H1=>tr σ H1 fun xs H2=>Q (x::xs) H2
section
variable {X:Cx}{e:Expr}{es:List Expr}{te:TE}{t:TA}{pos:Pos}
theorem pa_nil:PA X [] tNil:=fun _ _ _ _ H Q I h=>Calls.spliced_nil ⟨[],H,I,.nil,h⟩
theorem pa_cons (ha:PE X e te)(hr:PA X es t)(hs:starEach (e::es) X.env=(false,eval e X.env)::starEach es X.env:=by rfl):PA X (e::es) (tCons te t):=by
 intro pos pins s σ H Q I h
 rw [hs]
 show wpAny _ _ (spliced ((false,eval e X.env)::backTo pos (starEach es X.env))) _ _ s
 refine Calls.spliced_cons (thn (ha pins s σ H _ I h) fun u s1 ⟨x,H1,I1,r1,q1⟩=>?_)
 exact thn (hr pos pins s1 σ H1 _ I1 q1) fun us s2 ⟨xs,H2,I2,r2,q2⟩=>⟨x::xs,H2,I2,.cons r1 r2,q2⟩
def tTup (t:TA):TE:=fun σ H Q=>t σ H fun xs H1=>xs.length<=sizeLine∧∀ p,H1 p=none->Q (.ref p) (upd H1 p (.tup xs))
def tLst (t:TA):TE:=fun σ H Q=>t σ H fun xs H1=>xs.length<=sizeLine∧∀ p,H1 p=none->Q (.ref p) (upd H1 p (.lst xs))
theorem pe_tup {x1}(h:PA X es t):PE X (.Tuple es x1 pos) (tTup t):=by
 intro pins s σ H Q I hq
 refine wpAny_Tuple_spliced (thn (h pos pins s σ H _ I hq) fun us s1 ⟨xs,H1,I1,r,z,q⟩=>⟨by rw [<- r.length];exact z,?_⟩)
 have hf:H1 s1.heap.objs.size=none:=I1.hok.fresh (Nat.le_refl _)
 refine ⟨.ref s1.heap.objs.size,upd H1 s1.heap.objs.size (.tup xs),I1.laid (t':=s1.toks) (fun b u e=>Heap.get?_push_of_some _ e) (Nat.le_refl _) ?_,rfl,q _ hf⟩
 exact ⟨z,us,r,⟨_,Heap.get?_push_size _ rfl,rfl,_,rfl⟩⟩
theorem pe_lst (h:PA X es t):PE X (.List es pos) (tLst t):=by
 intro pins s σ H Q I hq
 refine wpAny_List_spliced (thn (h pos pins s σ H _ I hq) fun us s1 ⟨xs,H1,I1,r,z,q⟩=>⟨by rw [<- r.length];exact z,?_⟩)
 have hf:H1 s1.heap.objs.size=none:=I1.hok.fresh (Nat.le_refl _)
 refine ⟨.ref s1.heap.objs.size,upd H1 s1.heap.objs.size (.lst xs),I1.laid (t':=s1.toks) (fun b u e=>Heap.get?_push_of_some _ e) (Nat.le_refl _) ?_,rfl,q _ hf⟩
 exact ⟨z,us,0,r,Heap.get?_push_size _ rfl⟩
end
abbrev Sp:=List V->Hp->VK->XK->Prop
abbrev CXT:=List Env->Hp->Shared->XK->Value->Shared->Prop
set_option genInjectivity false in
structure Env0 (P:Program)(w:World)(K:PySem.W.Frag)(mg:Str->Option Value)(base:Heap)(A:Around)(outer:List Env)(s:Shared)(H:Hp):Prop where
 frames:A.frames=some outer
 mod:Mod K mg base
 bs:∀ b o,base.get? b=some o->s.heap.get? b=some o∧H b=none
 bsz:base.objs.size<=s.heap.objs.size
 funs:s.heap.FunFrames base outer
 frf:∀ b∈frs outer,H b=none
 hok:HOk P w H s.heap
 bare:AllBare s.gens
def CE (outer:List Env)(P:Program)(w:World)(H:Hp)(s:Shared)(Q:VK)(u:Value)(s':Shared):Prop :=
 ∃ v H',s'.os=s.os∧AllBare s'.gens∧Un (frs outer) [] H H' s.heap s'.heap∧HOk P w H' s'.heap∧RelV v u∧Q v H'
def CR (CX:CXT)(outer:List Env)(P:Program)(w:World)(H:Hp)(s:Shared)(Q:VK)(E:XK)(r:Result)(s':Shared):Prop :=
 match r with
 | .ok (.ret u)=>CE outer P w H s Q u s'
 | .ok _=>False
 | .error e=>CX outer H s E e s'
set_option genInjectivity false in
structure FnOk (P:Program)(w:World)(K:PySem.W.Frag)(mg:Str->Option Value)(base:Heap)(CX:CXT)(k:Nat)(f:Addr)(fd:FuncData)(ps:List Str)(sp:Sp):Prop where
 len:∀ vs H Q E,sp vs H Q E->vs.length=ps.length
 run:∀ (A:Around) (outer:List Env) (s:Shared) (H:Hp) (args:Args) (us:List Value) (vs:List V) (Q:VK) (E:XK),Room k A->Env0 P w K mg base A outer s H->BindsTo s fd args (ps.zip us)->Vals vs us->sp vs H Q E ->
  codeAny (model P w) A (.call (.ref f) args) (CR CX outer P w H s Q E) s
theorem Env0.make {P:Program}{w:World}{K:PySem.W.Frag}{mg:Str->Option Value}{base:Heap}{A:Around}{outer:List Env}{s:Shared}{H:Hp}(e:Env0 P w K mg base A outer s H)(C:Addr)(us:List Value)(kw:List (Str×Value)) :
 Env0 P w K mg base (A.under (.builtin "type.__call__" ⟨.ref C::us,kw⟩)) outer s H:=⟨by first | exact e.frames | (simpa [Around.under,Code.envs,Code.isFrame,pushEnvs] using e.frames),e.mod,e.bs,e.bsz,e.funs,e.frf,e.hok,e.bare⟩
section
variable {X:Cx}{pins:List (Addr×Obj)}{σ:St}{H:Hp}{s s':Shared}
theorem Inv.env0 (I:Inv X pins σ H s):Env0 X.prog X.w X.K X.mg X.base X.A X.stack s H :=
 ⟨I.ok.frames,I.ok.mod,I.bs,Nat.le_trans I.ok.bsz I.sz,I.stack,I.stkFree,I.hok,I.bare⟩
theorem Inv.after {Q:VK}{u:Value}(I:Inv X pins σ H s)(h:CE X.stack X.prog X.w H s Q u s'):EP X pins σ Q u s':=by
 obtain ⟨v,H',os,bare,un,hok,r,q⟩:=h
 obtain ⟨hh,g,d,t,os'⟩:=s'
 obtain rfl:os'=s.os:=os
 exact ⟨v,H',I.call (h':=hh) (g':=g) (d':=d) (t':=t) (ch:=[]) un hok bare (fun b z=>absurd z (by simp)),r,q⟩
end
def tCall (sp:Sp)(dvs:List V)(E:XK)(t:TA):TE:=fun σ H Q=>t σ H fun vs H1=>sp (vs++dvs) H1 Q E
def tMake (C:Addr)(sp:Sp)(dvs:List V)(E:XK)(t:TA):TE:=fun σ H Q=>t σ H fun vs H1=>∀ x dx,H1 x=none->H1 dx=none->dx≠x ->
 sp (.ref x::(vs++dvs)) (upd (upd H1 dx (.own x)) x (.ins C dx [])) (fun v H2=>v = .non∧Q (.ref x) H2) E
def Binds (K:PySem.W.Frag)(fd:FuncData)(ps:List Str)(ds:List Value):Prop :=
 ∀ (s:Shared) (us:List Value),K.In s.heap->(us++ds).length=ps.length->BindsTo s fd ⟨us,[]⟩ (ps.zip (us++ds))
theorem Binds.all {K:PySem.W.Frag}{fd:FuncData}{ps:List Str}(h:∀ us:List Value,us.length=ps.length->bindArgs fd ⟨us,[]⟩=pure (ps.zip us)):Binds K fd ps []:=fun s us _ hl=>by
 rw [List.append_nil] at hl ⊢
 exact .of_eq (h us hl)
def Passes (CX:CXT)(X:Cx)(E:XK):Prop:=∀ (pins:List (Addr×Obj)) (σ:St) (H:Hp) (s:Shared) (e:Value) (s':Shared),Inv X pins σ H s->CX X.stack H s E e s'->X.xe e s'
section
variable {X:Cx}{CX:CXT}{k:Nat}{f C:Addr}{fd:FuncData}{ps:List Str}{sp:Sp}{dvs:List V}{ds:List Value}{E:XK}{x m:Str}{p pos apos:Pos}{e o:Expr}{es:List Expr}{ta:TE}{t:TA}
theorem run_fn {pins:List (Addr×Obj)}{σ:St}{H:Hp}{s:Shared}{Q:VK}{us:List Value}{vs:List V}(F:FnOk X.prog X.w X.K X.mg X.base CX k f fd ps sp)(hr:Room k X.A)(hb:Binds X.K fd ps ds)(hd:Vals dvs ds)(hx:Passes CX X E)
  (I:Inv X pins σ H s) (r:Vals vs us) (h:sp (vs++dvs) H Q E):wpAny (model X.prog X.w) X.A (call (.ref f) us) (EP X pins σ Q) X.xe s:=by
 have r2:Vals (vs++dvs) (us++ds):=r.append hd
 have hl:(us++ds).length=ps.length:=by rw [<- r2.length];exact F.len _ _ _ _ h
 refine wpAny_call (codeAny_mono (F.run X.A X.stack s H ⟨us,[]⟩ (us++ds) (vs++dvs) Q E hr I.env0 (hb s us I.kIn hl) r2 h) fun r s' hq=>?_)
 cases r with
 | error e=>exact hx pins σ H s e s' I hq
 | ok fl =>
  cases fl with
  | ret u=>exact I.after hq
  | next=>exact False.elim hq
  | brk=>exact False.elim hq
  | cont=>exact False.elim hq
theorem pe_call (F:FnOk X.prog X.w X.K X.mg X.base CX k f fd ps sp)(hr:Room k X.A)(hg:Gl X x)(hm:X.mg x=some (.ref f))(hk:PySem.W.keepIn X.K (.ref f)=true)(hb:Binds X.K fd ps ds)(hd:Vals dvs ds)(hx:Passes CX X E)
  (ha:PA X (e::es) t) (hdb:(x==("__debug__" : Str))=false:=by decide) (he:starEach (e::es) X.env=(false,eval e X.env)::starEach es X.env:=by rfl) (hpl:(backTo pos (starEach es X.env)).any (·.1)=false:=by rfl) :
  PE X (.Call (.Name x p) (e::es) [] pos) (tCall sp dvs E t):=by
 intro pins s σ H Q I h
 refine wpAny_Call_Name_kw (ld_glob I hg hm ?_ hdb)
 refine PySem.W.callWith_K (h₀:=X.base) I.ok.mod.kin hk (thn (ha pos pins s σ H _ I h) fun us s1 ⟨vs,H1,I1,r,q⟩=>⟨I1.kIn,?_⟩) he hpl
 exact run_fn F hr hb hd hx I1 r q
set_option genInjectivity false in
structure Mk (K:PySem.W.Frag)(C f:Addr):Prop where
 makes:PySem.W.makesIn K C=true
 init:PySem.W.findIn K (.ref C) "__init__" = some (some (.ref f))
 fn:PySem.W.isFn K (.ref f)=true
 kp:PySem.W.keepIn K (.ref C)=true
theorem run_make {pins:List (Addr×Obj)}{σ:St}{H:Hp}{s:Shared}{Q:VK}{us:List Value}{vs:List V}(M:Mk X.K C f)(F:FnOk X.prog X.w X.K X.mg X.base CX k f fd ps sp)(hr:Room (k+1) X.A)(hb:Binds X.K fd ps ds)(hd:Vals dvs ds)
  (hx:Passes CX X E) (I:Inv X pins σ H s) (r:Vals vs us)
  (h:∀ x dx,H x=none->H dx=none->dx≠x->sp (.ref x::(vs++dvs)) (upd (upd H dx (.own x)) x (.ins C dx [])) (fun v H2=>v = .non∧Q (.ref x) H2) E) :
  wpAny (model X.prog X.w) X.A (call (.ref C) us) (EP X pins σ Q) X.xe s:=by
 have hq:=h (s.heap.objs.size+1) s.heap.objs.size (I.hok.fresh (Nat.le_succ _)) (I.hok.fresh (Nat.le_refl _)) (Nat.ne_of_lt (Nat.lt_succ_self _))
 have I2:=Inv.made (C:=C) I
 have r2:Vals (V.ref (s.heap.objs.size+1)::(vs++dvs)) (Value.ref (s.heap.objs.size+1)::(us++ds)):=.cons rfl (r.append hd)
 have hl:(Value.ref (s.heap.objs.size+1)::us++ds).length=ps.length:=by
  have e:=r2.length
  rw [F.len _ _ _ _ hq] at e
  exact e.symm
 refine wpAny_call (make_map (f:=f) I.kIn M.makes M.init (beq_iff_eq.mp M.fn) (codeAny_mono (F.run _ X.stack _ _ ⟨Value.ref (s.heap.objs.size+1)::us,[]⟩ (Value.ref (s.heap.objs.size+1)::(us++ds)) _ _ E (hr.make C us [])
  (I2.env0.make C us []) (hb _ (Value.ref (s.heap.objs.size+1)::us) I2.kIn hl) r2 hq) fun r s' hq'=>?_))
 cases r with
 | error e=>exact hx pins σ _ _ e s' I2 hq'
 | ok fl =>
  cases fl with
  | ret u =>
   obtain ⟨v,H',I3,rv,ev,q3⟩:=I2.after hq'
   subst ev
   exact ⟨rv,⟨V.ref (s.heap.objs.size+1),H',I3,rfl,q3⟩⟩
  | next=>exact False.elim hq'
  | brk=>exact False.elim hq'
  | cont=>exact False.elim hq'
theorem pe_make (M:Mk X.K C f)(F:FnOk X.prog X.w X.K X.mg X.base CX k f fd ps sp)(hr:Room (k+1) X.A)(hg:Gl X x)(hm:X.mg x=some (.ref C))(hb:Binds X.K fd ps ds)(hd:Vals dvs ds)(hx:Passes CX X E)
  (ha:PA X (e::es) t) (hdb:(x==("__debug__" : Str))=false:=by decide) (he:starEach (e::es) X.env=(false,eval e X.env)::starEach es X.env:=by rfl) (hpl:(backTo pos (starEach es X.env)).any (·.1)=false:=by rfl) :
  PE X (.Call (.Name x p) (e::es) [] pos) (tMake C sp dvs E t):=by
 intro pins s σ H Q I h
 refine wpAny_Call_Name_kw (ld_glob I hg hm ?_ hdb)
 refine PySem.W.callWith_K (h₀:=X.base) I.ok.mod.kin M.kp (thn (ha pos pins s σ H _ I h) fun us s1 ⟨vs,H1,I1,r,q⟩=>⟨I1.kIn,?_⟩) he hpl
 exact run_make M F hr hb hd hx I1 r q
end
section
variable {X:Cx}{CX:CXT}{k:Nat}{f C:Addr}{fd:FuncData}{ps ks:List Str}{sp:Sp}{E:XK}{x m:Str}{p pos apos kpos:Pos}{e o:Expr}{es:List Expr}{kws:List Keyword}{te ta:TE}{t tk:TA}{nm:Option Str}
variable {g:List Value->List Value->List Value}{gV:List V->List V->List V}
end
set_option genInjectivity false in
structure FnScope (N P:List Str)(sc:Scope):Prop where
 kind:sc.kind = .function
 co:sc.isCoroutine=false
 gen:sc.isGenerator=false
 nd:N.Nodup
 pre:N.take P.length=P
 par:∀ x∈P,sc.names.lookup x=some .local∨sc.names.lookup x=some .cell
 nofree:∀ y∈sc.names,y.2≠.free
theorem bindL_out {kindOf:Str->Option NameKind}{x:Str}:∀ {binds:List (Str×Value)} {m:Str->Option Value},(∀ v,(x,v)∉binds)->bindL kindOf binds m x=m x
 | [],_,_=>rfl
 | (n,v)::r,m,h=>by
  unfold bindL
  rw [bindL_out fun w hw=>h w (List.mem_cons_of_mem _ hw)]
  split
  ·have:x≠n:=by rintro rfl;exact h v List.mem_cons_self
   simp [this]
  ·rfl
theorem bindC_out {kindOf:Str->Option NameKind}{x:Str}:∀ {binds:List (Str×Value)} {m:Str->Option Value},(∀ v,(x,v)∉binds)->bindC kindOf binds m x=m x
 | [],_,_=>rfl
 | (n,v)::r,m,h=>by
  unfold bindC
  rw [bindC_out fun w hw=>h w (List.mem_cons_of_mem _ hw)]
  split
  ·rfl
  ·have:x≠n:=by rintro rfl;exact h v List.mem_cons_self
   simp [this]
theorem bindL_get {kindOf:Str->Option NameKind}{x:Str}{v:Value}:∀ {P:List Str} {vs:List Value} {i:Nat} {m:Str->Option Value},P.Nodup->P[i]?=some x->vs[i]?=some v->kindOf x=some .local ->
  bindL kindOf (P.zip vs) m x=some v
 | [],_,_,_,_,h,_,_=>by simp at h
 | _::_,[],_,_,_,_,h,_=>by simp at h
 | p::P,w::vs,0,m,nd,h1,h2,hk=>by
  simp at h1 h2;subst h1;subst h2
  show bindL kindOf ((p,w)::P.zip vs) m p=_
  unfold bindL
  rw [bindL_out fun v hv=>(List.nodup_cons.mp nd).1 (List.of_mem_zip hv).1,if_pos hk]
  simp
 | p::P,w::vs,i+1,m,nd,h1,h2,hk=>by
  show bindL kindOf ((p,w)::P.zip vs) m x=_
  unfold bindL
  exact bindL_get (i:=i) (List.nodup_cons.mp nd).2 (by simpa using h1) (by simpa using h2) hk
theorem bindC_get {kindOf:Str->Option NameKind}{x:Str}{v:Value}:∀ {P:List Str} {vs:List Value} {i:Nat} {m:Str->Option Value},P.Nodup->P[i]?=some x->vs[i]?=some v->kindOf x≠some .local ->
  bindC kindOf (P.zip vs) m x=some v
 | [],_,_,_,_,h,_,_=>by simp at h
 | _::_,[],_,_,_,_,h,_=>by simp at h
 | p::P,w::vs,0,m,nd,h1,h2,hk=>by
  simp at h1 h2;subst h1;subst h2
  show bindC kindOf ((p,w)::P.zip vs) m p=_
  unfold bindC
  rw [bindC_out fun v hv=>(List.nodup_cons.mp nd).1 (List.of_mem_zip hv).1,if_neg hk]
  simp
 | p::P,w::vs,i+1,m,nd,h1,h2,hk=>by
  show bindC kindOf ((p,w)::P.zip vs) m x=_
  unfold bindC
  exact bindC_get (i:=i) (List.nodup_cons.mp nd).2 (by simpa using h1) (by simpa using h2) hk
def start (N:List Str)(vs:List V):St:=vs.map some++List.replicate (N.length-vs.length) none
def cxOf (CX:CXT)(P:Program)(w:World)(K:PySem.W.Frag)(mg:Str->Option Value)(base:Heap)(N:List Str)(qual:Str)(scope:Scope)(f:Addr)(cd:Value)(A:Around)(outer:List Env)(s:Shared)(H:Hp)(E:XK):Cx where
 prog:=P
 w:=w
 K:=K
 mg:=mg
 base:=base
 A:=A.deeper (envOfC qual scope s.heap.objs.size f cd)
 N:=N
 s₀:=s
 H₀:=H
 env:=envOfC qual scope s.heap.objs.size f cd
 outer:=outer
 stack:=envOfC qual scope s.heap.objs.size f cd::outer
 ex:=[]
 calm:=true
 fn:=fun _=>true
 pn:=[]
 xe:=fun e s'=>wpAny (model P w) (A.deeper (envOfC qual scope s.heap.objs.size f cd)) (leaving (envOfC qual scope s.heap.objs.size f cd) e) (fun _ s''=>CX outer H s E e s'') (fun e' s''=>CX outer H s E e' s'') s'
theorem cell_has {sc:Scope}{n:Nat}{x:Str}(h:sc.names.lookup x=some .cell):∃ c,(cellsFrom n sc.names []).lookup x=some c:=by
 have q:=PySem.W.cellsFrom_some sc.names n [] (.inl h)
 exact Option.isSome_iff_exists.mp q
theorem inv_start {CX:CXT}{P:Program}{w:World}{K:PySem.W.Frag}{mg:Str->Option Value}{base:Heap}{N ps:List Str}{qual:Str}{scope:Scope}{f:Addr}{cd:Value}{A:Around}{outer:List Env}{s s1:Shared}{H:Hp}{E:XK}{us:List Value}{vs:List V}
  (S:FnScope N ps scope) (hd:A.handled=none) (e0:Env0 P w K mg base A outer s H) (hl:vs.length=ps.length) (r:Vals vs us)
  (x:InCallC s s.heap.objs.size (bindL (envOfC qual scope s.heap.objs.size f cd).kindOf (ps.zip us) fun _=>none) (cellsFrom (s.heap.objs.size+1) scope.names []) (bindC (envOfC qual scope s.heap.objs.size f cd).kindOf (ps.zip us) fun _=>none) s1) :
  Inv (cxOf CX P w K mg base N qual scope f cd A outer s H E) [] (start N vs) H s1:=by
 have hpl:ps.length<=N.length:=by have:=congrArg List.length S.pre;rw [List.length_take] at this;omega
 obtain ⟨h1,tk,rfl,hk⟩:=x.done
 have noA:∀ b:Addr,b∉(cxOf CX P w K mg base N qual scope f cd A outer s H E).ex:=fun b z=>absurd (show b∈([]:List Addr) from z) (by simp)
 refine ⟨⟨e0.mod,S.kind,rfl,rfl,Nat.le_refl _,fun y z c h1 h2=>?_,fun y hy=>?_,fun y c _ h=>?_,fun _=>hd,Around.frames_deeper e0.frames,.inr ⟨rfl,rfl⟩,fun b z=>absurd z (noA b),e0.bs,e0.bsz,fun b _ _=>noA b,fun b z=>absurd z (noA b),e0.funs,e0.frf⟩,
  rfl,e0.bare,Un.kept hk,⟨_,x.toInCall.ns,fun i y v h1 h2 h3=>?_⟩,fun y c h=>⟨_,x.cell y c h⟩,e0.hok.fresh (Nat.le_refl _),fun y c h=>?_,fun p hp=>absurd (show p∈([]:List (Addr×Obj)) from hp) (by simp),e0.hok.kept hk,?_⟩
 ·exact name_of_addr x.apart (PySem.mem_of_lookup h1) (PySem.mem_of_lookup h2)
 ·have hy:scope.names.lookup y=some .cell∨scope.names.lookup y=some .free:=hy
  rcases hy with hy | hy
  ·exact cell_has hy
  ·exact absurd rfl (S.nofree _ (PySem.mem_of_lookup hy))
 ·exact Nat.le_of_lt (x.above y c (PySem.mem_of_lookup h))
 ·have hi:i<vs.length:=by
   unfold start at h2
   by_cases hi:i<vs.length
   ·exact hi
   ·rw [List.getElem?_append_right (by simpa using hi)] at h2
    rw [List.getElem?_replicate] at h2
    split at h2 <;> cases h2
  have ha:vs[i]?=some v:=by
   unfold start at h2
   rw [List.getElem?_append_left (by simpa using hi),List.getElem?_map] at h2
   cases e:vs[i]? with
   | none=>rw [e] at h2;cases h2
   | some a=>rw [e] at h2;cases h2;rfl
  obtain ⟨u,hu,rv⟩:=r.get ha
  have hp:ps[i]?=some y:=by
   rw [<- S.pre,List.getElem?_take_of_lt (by omega)];exact h1
  have ndP:ps.Nodup:=by rw [<- S.pre];exact S.nd.sublist (List.take_sublist _ _)
  refine ⟨u,rv,?_⟩
  rcases S.par y (List.mem_of_getElem? hp) with k | k
  ·exact .inl ⟨k,bindL_get ndP hp hu k⟩
  ·obtain ⟨c,e⟩:=cell_has (n:=s.heap.objs.size+1) k
   refine .inr ⟨.inl k,c,e,?_⟩
   have q:=x.cell y c e
   rw [bindC_get ndP hp hu (by show scope.names.lookup y≠_;rw [k];decide)] at q
   exact q
 ·exact e0.hok.fresh (Nat.le_of_lt (x.above y c (PySem.mem_of_lookup h)))
 ·unfold start
  show _=N.length
  rw [List.length_append,List.length_map,List.length_replicate]
  omega
theorem fn_of {CX:CXT}{P:Program}{w:World}{K:PySem.W.Frag}{mg:Str->Option Value}{base:Heap}{k:Nat}{f:Addr}{name qual:Str}{params:Arguments}{body:List Stmt}{scope:Scope}{dV kV doc pm cdv ct oc:Value}{an od:Option Addr}
  {osl:Array (Option Value)} {N ps:List Str} {sp:Sp} (lk:K.lookup f=some ⟨oc,od,.func (PySem.W.fnOf name qual params body scope dV kV doc pm an cdv ct),osl⟩) (hcd:PySem.W.codeIn K cdv qual=true) (S:FnScope N ps scope)
  (len:∀ vs H Q E,sp vs H Q E->vs.length=ps.length)
  (hbody:∀ (A:Around) (outer:List Env) (s:Shared) (H:Hp) (vs:List V) (Q:VK) (E:XK),Room k (A.deeper (envOfC qual scope s.heap.objs.size f cdv))->sp vs H Q E ->
   ∃ t,PSs (cxOf CX P w K mg base N qual scope f cdv A outer s H E) body t∧t { nx:=fun _ H'=>Q .non H',rt:=Q } (start N vs) H) :
  FnOk P w K mg base CX (k+1) f (PySem.W.fnOf name qual params body scope dV kV doc pm an cdv ct) ps sp:=by
 refine ⟨len,fun A outer s H args us vs Q E hr e0 hb r hsp=>?_⟩
 have hl:=len _ _ _ _ hsp
 have KX:K.In s.heap:=e0.mod.kin.keeps fun b o e=>(e0.bs b o e).1
 have lim:s.heap.NoLimit:=e0.mod.nolimit.keeps fun b o e=>(e0.bs b o e).1
 have hkind:∀ y∈ps.zip us,scope.names.lookup y.1=some .local∨(scope.names.lookup y.1=some .cell∧((cellsFrom (s.heap.objs.size+1) scope.names []).lookup y.1).isSome=true):=fun ⟨n,v⟩ hy=>by
  rcases S.par n (List.of_mem_zip hy).1 with q | q
  ·exact .inl q
  ·exact .inr ⟨q,PySem.W.cellsFrom_some _ _ _ (.inl q)⟩
 refine codeAny_call_function hr.depth (KX _ _ lk) rfl S.co S.gen rfl (PySem.W.codeRec_of KX hcd) (hb _ _ _ _ ?_)
 refine wpAny_newFunctionEnv_cells S.kind hkind fun env he s1 x=>?_
 subst he
 refine ⟨lim.keeps x.toInCall.keep,codeAny_func ?_⟩
 obtain ⟨t,ht,hq⟩:=hbody A outer s H vs Q E (hr.deeper _) hsp
 have I:Inv (cxOf CX P w K mg base N qual scope f cdv A outer s H E) [] (start N vs) H s1:=inv_start S hr.hd e0 hl r x
 refine wpAny_mono (ht [] s1 (start N vs) H _ I hq) (fun fl s' hs=>?_) fun e s' hs=>hs
 have fin:∀ {σ':St} {H':Hp} {v:V} {u:Value},Inv (cxOf CX P w K mg base N qual scope f cdv A outer s H E) [] σ' H' s'->RelV v u->Q v H'->CE outer P w H s Q u s' :=
  fun {σ' H' v u} J rv q=>⟨v,H',J.os,J.bare,J.base,J.hok,rv,q⟩
 cases fl with
 | ret u =>
  obtain ⟨v,σ',H',J,rv,q⟩:=hs
  exact fin J rv q
 | next =>
  obtain ⟨σ',H',J,q⟩:=hs
  exact fin (v:=V.non) (u:=Value.none) J rfl q
 | brk =>
  obtain ⟨_,_,_,q⟩:=hs
  exact False.elim q
 | cont =>
  obtain ⟨_,_,_,q⟩:=hs
  exact False.elim q
end L2
namespace L2
open PySem PySem.Spec PyProof.Rows
section
variable {X:Cx}{x:Str}{p pos:Pos}{e:Expr}{es:List Expr}{t:TA}{id T:String}{r:List V->Hp->VK->Prop}
def tCB (r:List V->Hp->VK->Prop)(t:TA):TE:=fun σ H Q=>t σ H fun vs H1=>r vs H1 Q
theorem pe_callB (hc:CallR X (.builtin id) r)(hg:Gl X x)(hm:X.mg x=none)(hv:bootBuiltins x=some (.builtin id))(ha:PA X (e::es) t)(hn:x ≠ "__name__" := by decide)(hdb:(x==("__debug__" : Str))=false:=by decide)
  (he:starEach (e::es) X.env=(false,eval e X.env)::starEach es X.env:=by rfl) (hpl:(backTo pos (starEach es X.env)).any (·.1)=false:=by rfl):PE X (.Call (.Name x p) (e::es) [] pos) (tCB r t):=by
 intro pins s σ H Q I h
 refine wpAny_Call_Name_kw (ld_blt I hg hm hv ?_ hn hdb)
 exact PyProof.Rows.callWith_builtin1 (thn (ha pos pins s σ H _ I h) fun us s1 ⟨vs,H1,I1,r1,q1⟩=>hc pins s1 σ H1 vs us Q I1 r1 q1) he hpl
theorem pe_callTy (hc:CallR X (.type T) r)(hg:Gl X x)(hm:X.mg x=none)(hv:bootBuiltins x=some (.type T))(ha:PA X (e::es) t)(hn:x ≠ "__name__" := by decide)(hdb:(x==("__debug__" : Str))=false:=by decide)
  (he:starEach (e::es) X.env=(false,eval e X.env)::starEach es X.env:=by rfl) (hpl:(backTo pos (starEach es X.env)).any (·.1)=false:=by rfl):PE X (.Call (.Name x p) (e::es) [] pos) (tCB r t):=by
 intro pins s σ H Q I h
 refine wpAny_Call_Name_kw (ld_blt I hg hm hv ?_ hn hdb)
 exact PyProof.Rows.callWith_type1 (thn (ha pos pins s σ H _ I h) fun us s1 ⟨vs,H1,I1,r1,q1⟩=>hc pins s1 σ H1 vs us Q I1 r1 q1) he hpl
end
end L2
namespace HT
open PySem PyProof.Rows
section
open PySem.SeqAt
open PySem.AutoSeq1 (wpAny_loadPart')
open PySem.MeetsSeq PySem.MeetsSeq2 PySem.MeetsSeq3
end
section
variable {prog:Program}{w:World}{A:Around}{E:Value->Shared->Prop}{s:Shared}
def sIx (n d:Nat):Option Int->Nat
 | none=>d
 | some v=>if v<0 then (v+(n:Int)).toNat else min v.toNat n
theorem sIx_none (n d:Nat):sIx n d none=d:=rfl
theorem sIx_nat (n d k:Nat):sIx n d (some (k:Int))=min k n:=by
 show (if (k:Int)<0 then ((k:Int)+(n:Int)).toNat else min (k:Int).toNat n)=min k n
 rw [if_neg (by omega),Int.toNat_natCast]
theorem sIx_le (n d:Nat)(hd:d<=n)(o:Option Int):sIx n d o<=n:=by
 cases o with
 | none=>exact hd
 | some v =>
  show (if v<0 then (v+(n:Int)).toNat else min v.toNat n)<=n
  by_cases hv:v<0
  ·rw [if_pos hv];omega
  ·rw [if_neg hv];exact Nat.min_le_right _ _
end
end HT
namespace L2
open PySem PySem.Spec PyProof.Rows
abbrev TO:=St->Hp->(Option Int->Hp->Prop)->Prop
def PO (X:Cx)(e:Option Expr)(t:TO):Prop :=
 ∀ (pins:List (Addr×Obj)) (s:Shared) (σ:St) (H:Hp) (Q:Option Int->Hp->Prop),Inv X pins σ H s->t σ H Q ->
  wpAny (model X.prog X.w) X.A (evalPart e X.env) (fun u s'=>∃ o H',Inv X pins σ H' s'∧IsPart u o∧Q o H') X.xe s
def tNoPart:TO:=fun _ H Q=>Q none H
def tPart (t:TE):TO:=fun σ H Q=>t σ H fun x H1=>∃ i,x = .int i∧Q (some i) H1
theorem intsAre_of {ns:List Int}:∀ {us:List Value},Vals (ns.map V.int) us->IntsAre us ns:=by
 induction ns with
 | nil=>intro us r;rw [List.map_nil] at r;cases r;exact .nil
 | cons n ns ih =>
  intro us r
  rw [List.map_cons] at r
  cases r with
  | cons r1 r2 =>
   obtain ⟨t,e⟩:=r1
   subst e
   exact .cons n t (ih r2)
section
variable {X:Cx}{e:Expr}{te:TE}{lo hi:Option Expr}{tl th:TO}{pos p2:Pos}
theorem po_none:PO X none tNoPart:=by
 intro pins s σ H Q I h
 rw [evalPart_none]
 exact wpAny_pure ⟨none,H,I,.none,h⟩
theorem po_some (h:PE X e te):PO X (some e) (tPart te):=by
 intro pins s σ H Q I hw
 rw [evalPart_some]
 refine thn (h pins s σ H _ I hw) fun u s1 ⟨x,H1,I1,r1,q1⟩=>?_
 obtain ⟨i,rfl,q⟩:=q1
 obtain ⟨t,rfl⟩:=r1
 exact ⟨some i,H1,I1,.int i t,q⟩
def SlR (X:Cx)(r:V->Option Int->Option Int->Hp->VK->Prop):Prop :=
 ∀ (pins:List (Addr×Obj)) (s:Shared) (σ:St) (H:Hp) (x:V) (v vl vu:Value) (lo hi:Option Int) (sl:Addr) (Q:VK),Inv X pins σ H s->RelV x v->s.heap.IsSliceOf sl vl vu .none->IsPart vl lo->IsPart vu hi->r x lo hi H Q ->
  ∃ T id,typeLookup (.type T) "__getitem__" = pure (some (.builtin id))∧s.TypeIs v T∧wpAny (model X.prog X.w) X.A (getItem v (.ref sl)) (EP X pins σ Q) X.xe s
def tSl (r:V->Option Int->Option Int->Hp->VK->Prop)(te:TE)(tl th:TO):TE:=fun σ H Q=>te σ H fun x H1=>tl σ H1 fun l H2=>th σ H2 fun u H3=>r x l u H3 Q
theorem pe_slice {r:V->Option Int->Option Int->Hp->VK->Prop}(hr:SlR X r)(he:PE X e te)(hl:PO X lo tl)(hu:PO X hi th):PE X (.Subscript e (.Slice lo hi none p2) pos) (tSl r te tl th):=by
 intro pins s σ H Q I h
 refine Subscript_ (thn (he pins s σ H _ I h) fun v s1 ⟨x,H1,I1,r1,q1⟩=>?_)
 refine wpAny_Slice (thn (hl pins s1 σ H1 _ I1 q1) fun vl s2 ⟨l,H2,I2,pl,q2⟩=>thn (hu pins s2 σ H2 _ I2 q2) fun vu s3 ⟨u,H3,I3,pu,q3⟩=>?_)
 rw [evalPart_none]
 refine wpAny_pure ?_
 have I4:Inv X pins σ H3 { s3 with heap:=s3.heap.push { cls:=.type "slice",data:=.fields #[vl,vu,.none] } }:=I3.kept (t':=s3.toks) fun b ob q=>Heap.get?_push_of_some _ q
 obtain ⟨T,id,hT,ht,hg⟩:=hr pins { s3 with heap:=s3.heap.push { cls:=.type "slice",data:=.fields #[vl,vu,.none] } } σ H3 x v vl vu l u s3.heap.objs.size Q I4 r1 (Heap.IsSliceOf.new ..) pl pu q3
 show wpAny (model X.prog X.w) X.A (subscriptTail e (.Slice lo hi none p2) v (.ref s3.heap.objs.size)) (EP X pins σ Q) X.xe { s3 with heap:=s3.heap.push { cls:=.type "slice",data:=.fields #[vl,vu,.none] } }
 exact tail_any (ops:=[.ref s3.heap.objs.size,v]) ht hT hg (by with_unfolding_all rfl)
def cutV (xs:List V)(lo hi:Option Int):List V:=(xs.drop (HT.sIx xs.length 0 lo)).take (HT.sIx xs.length xs.length hi-HT.sIx xs.length 0 lo)
theorem cutV_length (xs:List V)(lo hi:Option Int):(cutV xs lo hi).length<=xs.length:=by
 unfold cutV
 rw [List.length_take,List.length_drop]
 omega
end
end L2
namespace L2
open PySem PySem.Spec PyProof.Rows
def ixN (n:Nat)(i:Int):Option Nat:=if 0<=i then (if i<n then some i.toNat else none) else if -(n:Int)<=i then some (i+n).toNat else none
def atI {α:Type}(xs:List α)(i:Int):Option α:=(ixN xs.length i).bind fun j=>xs[j]?
theorem ixN_seq {n:Nat}{i:Int}{j:Nat}(h:ixN n i=some j):seqIndex? i n=some j∧j<n∧-(n:Int)<=i∧i<n:=by
 unfold ixN at h
 by_cases h0:0<=i
 ·rw [if_pos h0] at h
  by_cases h1:i<n
  ·rw [if_pos h1] at h
   have e:i.toNat=j:=Option.some.inj h
   exact ⟨by rw [seqIndex_of h0 h1,e],by omega,by omega,h1⟩
  ·rw [if_neg h1] at h;cases h
 ·rw [if_neg h0] at h
  by_cases h1 : -(n:Int)<=i
  ·rw [if_pos h1] at h
   have e:(i+n).toNat=j:=Option.some.inj h
   exact ⟨by rw [seqIndex_neg (by omega) h1,e],by omega,h1,by omega⟩
  ·rw [if_neg h1] at h;cases h
theorem atI_get {α:Type}{xs:List α}{i:Int}{v:α}(h:atI xs i=some v):∃ j,seqIndex? i xs.length=some j∧xs[j]?=some v∧j<xs.length∧-(xs.length:Int)<=i∧i<xs.length:=by
 unfold atI at h
 cases e:ixN xs.length i with
 | none=>rw [e] at h;cases h
 | some j =>
  rw [e] at h
  obtain ⟨h1,h2,h3,h4⟩:=ixN_seq e
  exact ⟨j,h1,h,h2,h3,h4⟩
theorem atI_nat {α:Type}{xs:List α}{j:Nat}{v:α}(h:xs[j]?=some v):atI xs (j:Int)=some v:=by
 have hj:j<xs.length:=(List.getElem?_eq_some_iff.mp h).1
 have e:ixN xs.length (j:Int)=some j:=by
  unfold ixN
  rw [if_pos (by omega),if_pos (by omega)];simp
 unfold atI;rw [e];exact h
def PlainIx (b:Expr):Prop:=∀ o i,subscripted b false o i=operate [o,i] (getItem o i)
def IxR (X:Cx)(r:R2):Prop :=
 ∀ (value slice:Expr) (pins:List (Addr×Obj)) (s:Shared) (σ:St) (H:Hp) (x y:V) (v u:Value) (Q:VK),Inv X pins σ H s->RelV x v->RelV y u->r x y H Q ->
  subscripted slice false v u=operate [v,u] (getItem v u)->wpAny (model X.prog X.w) X.A (subscriptTail value slice v u) (EP X pins σ Q) X.xe s
def MtR (X:Cx)(id:String)(r:V->List V->Hp->VK->Prop):Prop :=
 ∀ (pins:List (Addr×Obj)) (s:Shared) (σ:St) (H:Hp) (x:V) (xs:List V) (v:Value) (us:List Value) (Q:VK),Inv X pins σ H s->RelV x v->Vals xs us->r x xs H Q ->
  wpAny (model X.prog X.w) X.A (call (.builtin id) (v::us)) (EP X pins σ Q) X.xe s
section
variable {X:Cx}{a b:Expr}{ta tb:TE}{pos:Pos}
theorem pe_ix {r:R2}(hr:IxR X r)(ha:PE X a ta)(hb:PE X b tb)(hs:PlainIx b):PE X (.Subscript a b pos) (tOp r ta tb):=by
 intro pins s σ H Q I h
 exact Subscript_ (binT ha hb I h fun v u s2 x y H2 I2 rx ry q=>hr a b pins s2 σ H2 x y v u Q I2 rx ry q (hs _ _))
def rIxL (K:PySem.W.Frag):R2:=fun x y H Q=>∃ p xs i v,x = .ref p∧y = .int i∧SqL K H p xs∧atI xs i=some v∧Q v H
def rIxT (K:PySem.W.Frag):R2:=fun x y H Q=>∃ p xs i v,x = .ref p∧y = .int i∧SqT K H p xs∧atI xs i=some v∧Q v H
def rIxS:R2:=fun x y H Q=>∃ z i c,x = .str z∧y = .int i∧z.length<=sizeLine∧atI z.cps.toList i=some c∧Q (.str ⟨#[c]⟩) H
theorem ix_list:IxR X (rIxL X.K):=by
 intro value slice pins s σ H x y v u Q I rx ry h hs
 obtain ⟨p,xs,i,z,rfl,rfl,hq,he,q⟩:=h
 cases rx
 obtain ⟨t,rfl⟩:=ry
 obtain ⟨its,r,pl,hz⟩:=I.list hq
 obtain ⟨j,h1,h2,h3,h4,h5⟩:=atI_get he
 obtain ⟨w,ew,rw'⟩:=r.get h2
 have hl:=r.length
 have hn:=line63
 have fin:EP X pins σ Q w s:=⟨z,H,I,rw',q⟩
 by_cases h0:0<=i
 ·have hj:i.toNat=j:=by
   rw [seqIndex_of h0 h5] at h1
   exact Option.some.inj h1
  exact item_listR pl.isList h0 (by omega) (by rw [hj];simpa using ew) fin hs
 ·have hj:(i+(its.toArray.size:Int)).toNat=j:=by
   rw [seqIndex_neg (by omega) h4] at h1
   rw [List.size_toArray,<- hl]
   exact Option.some.inj h1
  exact subscriptTail_builtinR (x:=w) pl.isList.typeIs slot_list_getitem.lookup
   (wpAny_getItem_list_neg (Q:=fun r s'=>r=w∧EP X pins σ Q r s') pl.isList (by omega) (by rw [List.size_toArray] <;> omega) (by omega) (by rw [hj];simpa using ew) ⟨rfl,fin⟩) hs
theorem ix_tup:IxR X (rIxT X.K):=by
 intro value slice pins s σ H x y v u Q I rx ry h hs
 obtain ⟨p,xs,i,z,rfl,rfl,hq,he,q⟩:=h
 cases rx
 obtain ⟨t,rfl⟩:=ry
 obtain ⟨its,r,pl,hz⟩:=I.tuple hq
 obtain ⟨j,h1,h2,h3,h4,h5⟩:=atI_get he
 obtain ⟨w,ew,rw'⟩:=r.get h2
 have hl:=r.length
 have hn:=line63
 have fin:EP X pins σ Q w s:=⟨z,H,I,rw',q⟩
 exact subscriptTail_builtinR (x:=w) pl.typeIs slot_tuple_getitem.lookup
  (getItem_tuple (j:=j) (Q:=fun r s'=>r=w∧EP X pins σ Q r s') pl (by omega) (by omega) (by rw [List.size_toArray,<- hl];exact h1) (by simpa using ew) ⟨rfl,fin⟩) hs
theorem ix_str:IxR X rIxS:=by
 intro value slice pins s σ H x y v u Q I rx ry h hs
 obtain ⟨z,i,c,rfl,rfl,hz,he,q⟩:=h
 obtain ⟨t,rfl⟩:=rx
 obtain ⟨t',rfl⟩:=ry
 obtain ⟨j,h1,h2,h3,h4,h5⟩:=atI_get he
 have hl:z.cps.toList.length=z.length:=by simp [Str.length]
 rw [hl] at h1 h4 h5
 have hn:=line63
 exact tail_any (typeIs_str s z t) slot_str_getitem.lookup (getItem_str (c:=c) (by
  have e1:decide (i < -(2 ^ 63:Int))=false:=decide_eq_false (by omega)
  have e2:decide (i≥2 ^ 63)=false:=decide_eq_false (by omega)
  rw [e1,e2,Bool.or_false]) (by rw [h1];simpa using h2) ⟨.str ⟨#[c]⟩,H,I.tok _,⟨_,rfl⟩,q⟩) hs
theorem slice_bounds (lo hi:Option Int)(n:Nat):(sliceBounds lo hi none n).1=((HT.sIx n 0 lo:Nat):Int)∧(sliceBounds lo hi none n).2.1=((HT.sIx n n hi:Nat):Int)∧(sliceBounds lo hi none n).2.2=1:=by
 refine ⟨?_,?_,rfl⟩
 ·cases lo with
  | none=>simp [sliceBounds,HT.sIx]
  | some i =>
   simp only [sliceBounds,HT.sIx,Option.getD_none,show (1:Int)>0 by decide,if_true]
   by_cases h:i<0
   ·simp only [h,if_true] <;> omega
   ·simp only [h,if_false] <;> omega
 ·cases hi with
  | none=>simp [sliceBounds,HT.sIx]
  | some i =>
   simp only [sliceBounds,HT.sIx,Option.getD_none,show (1:Int)>0 by decide,if_true]
   by_cases h:i<0
   ·simp only [h,if_true] <;> omega
   ·simp only [h,if_false] <;> omega
theorem slicePick_cut (its:List Value)(lo hi:Option Int):slicePick its.toArray lo hi none=((its.drop (HT.sIx its.length 0 lo)).take (HT.sIx its.length its.length hi-HT.sIx its.length 0 lo)).toArray:=by
 obtain ⟨h1,h2,h3⟩:=slice_bounds lo hi its.toArray.size
 unfold slicePick
 rw [h1,h2,h3]
 simp only [sliceRange_one,pick_run,List.size_toArray] <;> rfl
def rSlL (K:PySem.W.Frag):V->Option Int->Option Int->Hp->VK->Prop:=fun x lo hi H Q=>∃ a xs,x = .ref a∧SqL K H a xs∧∀ p,H p=none->Q (.ref p) (upd H p (.lst (cutV xs lo hi)))
theorem sl_list:SlR X (rSlL X.K):=by
 intro pins s σ H x v vl vu lo hi sl Q I rx hs pl pu h
 obtain ⟨a,xs,rfl,hx,q⟩:=h
 cases rx
 obtain ⟨its,r,ht,hz⟩:=I.list hx
 have hlen:=r.length
 refine ⟨"list",_,slot_list_getitem.lookup,ht.isList.typeIs,?_⟩
 refine wpAny_getItem_list_slice ht.isList hs pl pu .none (by simp) ?_ (by rw [List.size_toArray] <;> omega)
 rw [slicePick_cut,<- hlen]
 refine ⟨.ref s.heap.objs.size,_,I.laid (t':=s.toks) (o:=.lst (cutV xs lo hi)) (fun b ob q=>Heap.get?_push_of_some _ q) (Nat.le_refl _) ?_,rfl,q _ (I.hok.fresh (Nat.le_refl _))⟩
 exact ⟨Nat.le_trans (cutV_length xs lo hi) hz,_,0,(r.drop (HT.sIx xs.length 0 lo)).take (HT.sIx xs.length xs.length hi-HT.sIx xs.length 0 lo),Heap.get?_push_size _ rfl⟩
def flatV:V->Bool
 | .non=>true
 | .bl _=>true
 | .int _=>true
 | .str _=>true
 | _=>false
def eqV:V->V->Bool
 | .non,.non=>true
 | .bl a,.bl b=>a==b
 | .bl a,.int b=>(if a then 1 else 0)==b
 | .int a,.bl b=>a==(if b then 1 else 0)
 | .int a,.int b=>a==b
 | .str a,.str b=>a==b
 | _,_=>false
theorem eqAt_V {A:Around}{s:Shared}{y x:V}{u v:Value}(ry:RelV y u)(rx:RelV x v)(fy:flatV y=true)(fx:flatV x=true):SeqAt.EqAt A s u v (eqV y x):=by
 cases y with
 | non =>
  cases ry
  cases x with
  | non=>cases rx;exact SeqAt.EqAt.same _
  | bl b=>cases rx;exact SeqAt.EqAt.none_bool b
  | int b=>obtain ⟨t,rfl⟩:=rx;exact SeqAt.EqAt.none_int b t
  | str b=>obtain ⟨t,rfl⟩:=rx;exact SeqAt.EqAt.none_str b t
  | _=>exact absurd (show false=true from fx) Bool.false_ne_true
 | bl a =>
  cases ry
  cases x with
  | non=>cases rx;exact SeqAt.EqAt.bool_none a
  | bl b=>cases rx;exact SeqAt.EqAt.bool_bool a b
  | int b=>obtain ⟨t,rfl⟩:=rx;exact SeqAt.EqAt.bool_int a b t
  | str b=>obtain ⟨t,rfl⟩:=rx;exact SeqAt.EqAt.bool_str a b t
  | _=>exact absurd (show false=true from fx) Bool.false_ne_true
 | int a =>
  obtain ⟨t',rfl⟩:=ry
  cases x with
  | non=>cases rx;exact SeqAt.EqAt.int_none a t'
  | bl b=>cases rx;exact SeqAt.EqAt.int_bool a t' b
  | int b=>obtain ⟨t,rfl⟩:=rx;exact SeqAt.EqAt.int_int a t' b t
  | str b=>obtain ⟨t,rfl⟩:=rx;exact SeqAt.EqAt.int_str a t' b t
  | _=>exact absurd (show false=true from fx) Bool.false_ne_true
 | str a =>
  obtain ⟨t',rfl⟩:=ry
  cases x with
  | non=>cases rx;exact SeqAt.EqAt.str_none a t'
  | bl b=>cases rx;exact SeqAt.EqAt.str_bool a t' b
  | int b=>obtain ⟨t,rfl⟩:=rx;exact SeqAt.EqAt.str_int a t' b t
  | str b=>obtain ⟨t,rfl⟩:=rx;exact SeqAt.EqAt.str_str a t' b t
  | _=>exact absurd (show false=true from fx) Bool.false_ne_true
 | _=>exact absurd (show false=true from fy) Bool.false_ne_true
def eqU (x:V)(u:Value):Bool:=match u with
 | .none=>eqV .non x
 | .bool b=>eqV (.bl b) x
 | .int i _=>eqV (.int i) x
 | .str z _=>eqV (.str z) x
 | _=>false
theorem eqU_of {x y:V}{u:Value}(r:RelV y u)(f:flatV y=true):eqU x u=eqV y x:=by
 cases y with
 | non=>cases r;rfl
 | bl b=>cases r;rfl
 | int i=>obtain ⟨t,rfl⟩:=r;rfl
 | str z=>obtain ⟨t,rfl⟩:=r;rfl
 | _=>exact absurd (show false=true from f) Bool.false_ne_true
theorem any_eqU {x:V}:∀ {xs:List V} {us:List Value},Vals xs us->xs.all flatV=true->us.any (eqU x)=xs.any fun y=>eqV y x
 | _,_,.nil,_=>rfl
 | y::xs,u::us,.cons r t,f=>by
  rw [List.all_cons,Bool.and_eq_true] at f
  rw [List.any_cons,List.any_cons,eqU_of r f.1,any_eqU t f.2]
theorem mem_eqAt {A:Around}{s:Shared}{x:V}{v:Value}(rx:RelV x v)(fx:flatV x=true):∀ {xs:List V} {us:List Value},Vals xs us->xs.all flatV=true->∀ u∈us,SeqAt.EqAt A s u v (eqU x u)
 | _,_,.nil,_=>fun u hu=>by cases hu
 | y::xs,u::us,.cons r t,f=>fun u' hu=>by
  rw [List.all_cons,Bool.and_eq_true] at f
  rcases List.mem_cons.mp hu with rfl | hu
  ·rw [eqU_of r f.1];exact eqAt_V r rx f.1 fx
  ·exact mem_eqAt rx fx t f.2 u' hu
def inV (x:V)(xs:List V):Bool:=xs.any fun y=>eqV y x
def rIn (K:PySem.W.Frag)(neg:Bool):R2:=fun x y H Q=>∃ p xs,y = .ref p∧(SqL K H p xs∨SqT K H p xs)∧flatV x=true∧xs.all flatV=true∧Q (.bl (if neg then !inV x xs else inV x xs)) H
theorem op_in_seq:OpR X (compareOp .In) (rIn X.K false):=by
 intro pins s σ H x y v u Q I rx ry h
 obtain ⟨p,xs,rfl,hq,fx,fs,q⟩:=h
 cases ry
 rcases hq with hq | hq
 ·obtain ⟨its,r,pl,hz⟩:=I.list hq
  refine SeqAt.in_listAt (eqU x) pl.isList (fun w hw=>mem_eqAt rx fx r fs w (by simpa using hw)) ⟨.bl _,H,I,rfl,?_⟩
  rw [show its.toArray.any (eqU x)=its.any (eqU x) by simp,any_eqU r fs]
  exact q
 ·obtain ⟨its,r,pl,hz⟩:=I.tuple hq
  refine SeqAt.in_tupleAt (eqU x) pl (fun w hw=>mem_eqAt rx fx r fs w (by simpa using hw)) ⟨.bl _,H,I,rfl,?_⟩
  rw [show its.toArray.any (eqU x)=its.any (eqU x) by simp,any_eqU r fs]
  exact q
theorem op_notIn_seq:OpR X (compareOp .NotIn) (rIn X.K true):=by
 intro pins s σ H x y v u Q I rx ry h
 obtain ⟨p,xs,rfl,hq,fx,fs,q⟩:=h
 cases ry
 rcases hq with hq | hq
 ·obtain ⟨its,r,pl,hz⟩:=I.list hq
  refine SeqAt.notIn_listAt (eqU x) pl.isList (fun w hw=>mem_eqAt rx fx r fs w (by simpa using hw)) ⟨.bl _,H,I,rfl,?_⟩
  rw [show its.toArray.any (eqU x)=its.any (eqU x) by simp,any_eqU r fs]
  exact q
 ·obtain ⟨its,r,pl,hz⟩:=I.tuple hq
  refine SeqAt.notIn_tupleAt (eqU x) pl (fun w hw=>mem_eqAt rx fx r fs w (by simpa using hw)) ⟨.bl _,H,I,rfl,?_⟩
  rw [show its.toArray.any (eqU x)=its.any (eqU x) by simp,any_eqU r fs]
  exact q
theorem op_notIn_str:OpR X (compareOp .NotIn) (fun x y H Q=>∃ i j,x = .str i∧y = .str j∧Q (.bl (!(!(Builtin.Str.occurrences j i 0 j.length 1).isEmpty))) H):=by
 intro pins s σ H x y v u Q I rx ry h
 obtain ⟨i,j,rfl,rfl,q⟩:=h
 obtain ⟨t,rfl⟩:=rx
 obtain ⟨t',rfl⟩:=ry
 exact notIn_str ⟨.bl _,H,I,rfl,q⟩
theorem call_len_seq:CallR X (.builtin "len") (fun xs H Q=>∃ p ys,xs=[.ref p]∧(SqL X.K H p ys∨SqT X.K H p ys)∧Q (.int ys.length) H):=by
 intro pins s σ H xs us Q I r h
 obtain ⟨p,ys,rfl,hq,q⟩:=h
 obtain ⟨u,rfl,rx⟩:=vals1 r
 cases rx
 have hn:=line63
 rcases hq with hq | hq
 ·obtain ⟨its,r',pl,hz⟩:=I.list hq
  have hlen:=r'.length
  exact Calls.call_len_list pl.isList (by simp only [List.size_toArray] <;> omega) ⟨.int ys.length,H,I.tok _,⟨s.toks+1,by rw [List.size_toArray,hlen]⟩,q⟩
 ·obtain ⟨its,r',pl,hz⟩:=I.tuple hq
  have hlen:=r'.length
  exact len_tuple pl (by simp only [List.size_toArray] <;> omega) ⟨.int ys.length,H,I.tok _,⟨s.toks+1,by rw [List.size_toArray,hlen]⟩,q⟩
theorem call_len_str:CallR X (.builtin "len") (fun xs H Q=>∃ z,xs=[.str z]∧z.length<=sizeLine∧Q (.int z.length) H):=by
 intro pins s σ H xs us Q I r h
 obtain ⟨z,rfl,hz,q⟩:=h
 obtain ⟨u,rfl,t,rfl⟩:=vals1 r
 have hn:=line63
 exact len_str (by omega) ⟨.int z.length,H,I.tok _,⟨_,rfl⟩,q⟩
theorem call_tuple_of:CallR X (.type "tuple") (fun xs H Q=>∃ p ys,xs=[.ref p]∧((SqL X.K H p ys∧∀ l,H l=none->Q (.ref l) (upd H l (.tup ys)))∨(SqT X.K H p ys∧Q (.ref p) H))):=by
 intro pins s σ H xs us Q I r h
 obtain ⟨p,ys,rfl,h⟩:=h
 obtain ⟨u,rfl,rx⟩:=vals1 r
 cases rx
 rcases h with ⟨hq,q⟩ | ⟨hq,q⟩
 ·obtain ⟨its,r',pl,hz⟩:=I.list hq
  have hlen:=r'.length
  refine call_tuple_list pl.isList (fun h' kp=>?_) (by simp only [List.size_toArray] <;> omega)
  have I1:Inv X pins σ H { s with heap:=h' }:=I.kept (t':=s.toks) kp
  have I2:Inv X pins σ (upd H h'.objs.size (.tup ys)) { s with heap:=h'.push { cls:=.type "tuple",data:=.seq its.toArray } } :=
   I1.laid (t':=s.toks) (fun b o e=>Heap.get?_push_of_some _ e) (Nat.le_refl _) (show ObjOk X.prog X.w _ _ _ (.tup ys) from ⟨hz,its,r',IsTup.new _ _⟩)
  exact ⟨.ref h'.objs.size,_,I2,rfl,q _ (I1.hok.fresh (Nat.le_refl _))⟩
 ·obtain ⟨its,r',pl,hz⟩:=I.tuple hq
  exact call_tuple_same pl ⟨.ref p,H,I,rfl,q⟩
def tyV (K:PySem.W.Frag)(T:String)(x:V)(H:Hp):Prop:=match x with
 | .str _=>T = "str"
 | .int _=>T = "int"
 | .ref p=>(T = "list" ∧ ∃ xs,SqL K H p xs)∨(T = "tuple" ∧ ∃ o,K.lookup p=some o∧o.cls = .type "tuple" ∧ o.dict=none) ∨
  (T = "dict" ∧ ((∃ kvs,H p=some (.dK kvs))∨∃ kvs,H p=some (.dT kvs)))∨(T = "set" ∧ ∃ S n,H p=some (.set S n))
 | _=>False
theorem tyV_is {pins:List (Addr×Obj)}{σ:St}{H:Hp}{s:Shared}{T:String}{x:V}{v:Value}(I:Inv X pins σ H s)(r:RelV x v)(ty:tyV X.K T x H) :
  s.TypeIs v T∧∀ a,v = .ref a->∃ ob,s.heap.get? a=some ob∧ob.dict=none:=by
 cases x with
 | str z =>
  obtain ⟨t,rfl⟩:=r
  cases (show T = "str" from ty)
  exact ⟨typeIs_str s z t,fun _ e=>nomatch e⟩
 | int i =>
  obtain ⟨t,rfl⟩:=r
  cases (show T = "int" from ty)
  exact ⟨typeIs_int s i t,fun _ e=>nomatch e⟩
 | ref p =>
  cases r
  rcases ty with ⟨rfl,xs,hq⟩ | ⟨rfl,o,hk,hc,hd⟩ | ⟨rfl,hk⟩ | ⟨rfl,S,n,hk⟩
  ·obtain ⟨its,_,pl,_⟩:=I.list hq
   refine ⟨pl.isList.typeIs,fun a e=>?_⟩
   cases e
   obtain ⟨o,n,e,c,hd,_⟩:=pl
   exact ⟨o,e,hd⟩
  ·refine ⟨⟨o,I.kIn p o hk,hc⟩,fun a e=>?_⟩
   cases e
   exact ⟨o,I.kIn _ o hk,hd⟩
  ·have z:∃ o,s.heap.get? p=some o∧o.ExactDict:=by
    rcases hk with ⟨kvs,hk⟩ | ⟨kvs,hk⟩
    ·obtain ⟨_,_,_,_,o,_,_,e,ex,_⟩:=I.hok p _ hk
     exact ⟨o,e,ex⟩
    ·obtain ⟨_,_,_,_,o,_,_,e,ex,_⟩:=I.hok p _ hk
     exact ⟨o,e,ex⟩
   obtain ⟨o,e,ex⟩:=z
   refine ⟨⟨o,e,ex.1⟩,fun a e2=>?_⟩
   cases e2
   exact ⟨o,e,ex.2.1⟩
  ·obtain ⟨o,_,_,_,e,ex,_⟩:=I.hok p _ hk
   refine ⟨⟨o,e,ex.1⟩,fun a e2=>?_⟩
   cases e2
   exact ⟨o,e,ex.2.1⟩
 | _=>exact False.elim ty
def tBM (K:PySem.W.Frag)(T:String)(r:V->List V->Hp->VK->Prop)(to:TE)(t:TA):TE:=fun σ H Q=>to σ H fun x H1=>tyV K T x H1∧t σ H1 fun xs H2=>r x xs H2 Q
variable {o e:Expr}{es:List Expr}{to:TE}{t:TA}{name:Str}{apos cpos:Pos}{T id:String}{r:V->List V->Hp->VK->Prop}
theorem pe_bm (pa:PlainAttrs T)(slot:Slot T name id)(hty:typeOf (.builtin id)=pure (.type "method_descriptor"))(hm:MtR X id r)(ho:PE X o to)(ha:PA X (e::es) t)
  (hbase:attributeBase o name X.env (eval o X.env)=eval o X.env:=by rfl)
  (hfew:((backTo cpos (starEach (e::es) X.env)).all (fun x=>!x.1)&&(backToKw cpos (keywordEach [] X.env)).all (fun x=>x.1.isSome)
   && decide ((e::es).length+([]:List Keyword).length+(if ([]:List Keyword).isEmpty then 0 else 1)<30))=true:=by rfl)
  (hline:(apos.endLine==cpos.line)=true:=by rfl) (hs:starEach (e::es) X.env=(false,eval e X.env)::starEach es X.env:=by rfl) (hplain:(backTo cpos (starEach es X.env)).any (·.1)=false:=by rfl) :
  PE X (.Call (.Attribute o name apos) (e::es) [] cpos) (tBM X.K T r to t):=by
 intro pins s σ H Q I h
 refine wpAny_Call_method_late hbase hfew hline rfl (thn (ho pins s σ H _ I h) fun v s1 ⟨x,H1,I1,r1,ty,q1⟩=>?_)
 obtain ⟨h1,h2⟩:=tyV_is I1 r1 ty
 refine ⟨T,id,pa,slot,hty,h1,h2,?_⟩
 have hA:=ha cpos pins s1 σ H1 _ I1 q1
 rw [hs] at hA ⊢
 refine Calls.callWith_builtin (by show (false||(backTo cpos (starEach es X.env)).any (·.1))=false;rw [hplain] <;> rfl) (Calls.evalArgs_plain ?_)
 exact thn hA fun us s2 ⟨vs,H2,I2,r2,q2⟩=>hm pins s2 σ H2 x vs v us Q I2 r1 r2 q2
end
end L2
namespace L2
open PySem PySem.Spec PyProof.Rows
def MtM (X:Cx)(id:String)(r:V->List V->Hp->VK->Prop):Prop :=
 ∀ (pins:List (Addr×Obj)) (s:Shared) (σ:St) (H:Hp) (x:V) (xs:List V) (v:Value) (us:List Value) (Q:VK),Inv X pins σ H s->RelV x v->Vals xs us->r x xs H Q ->
  wpAny (model X.prog X.w) X.A (call (.builtin id) (v::us)) (EP X pins σ Q) X.xe s
theorem Vals.one:∀ {x:V} {us:List Value},Vals [x] us->∃ u,us=[u]∧RelV x u
 | _,_,.cons r .nil=>⟨_,rfl,r⟩
theorem Vals.reverse {xs:List V}{us:List Value}(h:Vals xs us):Vals xs.reverse us.reverse:=by
 induction h with
 | nil=>exact .nil
 | cons r t ih=>rw [List.reverse_cons,List.reverse_cons];exact Vals.append ih (.cons r .nil)
section
variable {X:Cx}{pins:List (Addr×Obj)}{σ:St}{H:Hp}{s:Shared}{l b:Addr}{xs ys zs:List V}
theorem Inv.lset {its its':List Value}{n:Nat}{f:Array Value->Array Value}{t':Nat}(I:Inv X pins σ H s)(hH:H l=some (.lst xs))
  (e:s.heap.get? l=some { cls:=.type "list",data:=.seq its.toArray n }) (hf:f its.toArray=its'.toArray) (hv:Vals ys its') (hz:ys.length<=sizeLine) :
  Inv X pins σ (upd H l (.lst ys)) { s with heap:=s.heap.update l (Obj.mapSeq f),toks:=t' }:=by
 have q:=PySem.IsL.update e f
 rw [hf] at q
 refine I.write (x:=l) (e:=l) (by rw [hH];exact trivial) (.inl rfl) (fun b' u hb hu=>(Heap.get?_update_other s.heap (Obj.mapSeq f) (Ne.symm hb)).trans hu) ⟨_,q⟩ ?_
 exact ⟨hz,its',_,hv,q⟩
theorem Inv.lnew {its:List Value}{t':Nat}(I:Inv X pins σ H s)(hv:Vals ys its)(hz:ys.length<=sizeLine) :
  Inv X pins σ (upd H s.heap.objs.size (.lst ys)) { s with heap:=s.heap.push { cls:=.type "list",data:=.seq its.toArray },toks:=t' } :=
 I.laid (fun _ _ q=>Heap.get?_push_of_some _ q) (Nat.le_refl _) ⟨hz,its,0,hv,Heap.get?_push_size _ rfl⟩
theorem Inv.fresh (I:Inv X pins σ H s):H s.heap.objs.size=none:=I.hok.fresh (Nat.le_refl _)
theorem Inv.lstM (I:Inv X pins σ H s)(hH:H l=some (.lst xs)):xs.length<=sizeLine∧∃ (its:List Value) (n:Nat),Vals xs its∧xs.length=its.length∧s.heap.get? l=some { cls:=.type "list",data:=.seq its.toArray n }:=by
 obtain ⟨z,its,n,r,e⟩:=I.hok l _ hH
 exact ⟨z,its,n,r,r.length,e⟩
theorem notLongL {n:Nat}(h:n<=sizeLine):Builtin.List.listTooLong n=false:=by
 unfold Builtin.List.listTooLong
 exact decide_eq_false (by omega)
end
section
variable {X:Cx}
def rAppend:V->List V->Hp->VK->Prop:=fun x vs H Q=>∃ l xs y,x = .ref l∧vs=[y]∧H l=some (.lst xs)∧xs.length<sizeLine∧Q .non (upd H l (.lst (xs++[y])))
theorem mt_append:MtM X "list.append" rAppend:=by
 intro pins s σ H x vs v us Q I rx rv h
 obtain ⟨l,xs,y,rfl,rfl,hH,hz,q⟩:=h
 cases rx
 obtain ⟨u,rfl,ru⟩:=rv.one
 obtain ⟨z,its,n,r,hl,e⟩:=I.lstM hH
 refine call_meets F.slot_list_append ⟨_,e,rfl⟩ F.entry_list_append (F.args_list_append_2 _ _) (PySem.list_append l its.toArray n u (by rw [List.size_toArray];omega)) ⟨e,?_⟩
 refine ⟨.non,_,I.lset (its':=its++[u]) hH e (by simp) (r.append (.cons ru .nil)) ?_,rfl,q⟩
 rw [List.length_append,List.length_singleton]
 omega
def rExtend:V->List V->Hp->VK->Prop:=fun x vs H Q=>∃ l b xs zs,x = .ref l∧vs=[.ref b]∧H l=some (.lst xs)∧H b=some (.lst zs)∧xs.length+zs.length<=sizeLine∧Q .non (upd H l (.lst (xs++zs)))
theorem mt_extend:MtM X "list.extend" rExtend:=by
 intro pins s σ H x vs v us Q I rx rv h
 obtain ⟨l,b,xs,zs,rfl,rfl,hH,hB,hz,q⟩:=h
 cases rx
 obtain ⟨u,rfl,ru⟩:=rv.one
 cases ru
 obtain ⟨z,its,n,r,hl,e⟩:=I.lstM hH
 obtain ⟨z2,its2,n2,r2,hl2,e2⟩:=I.lstM hB
 have hsz:its.toArray.size+its2.toArray.size<=sizeLine:=by rw [List.size_toArray,List.size_toArray];omega
 have hlong:¬ (!its.toArray.isEmpty&&Builtin.List.listTooLong (its.toArray.size+its2.toArray.size))=true:=by
  rw [notLongL hsz,Bool.and_false]
  exact Bool.false_ne_true
 refine call_meets F.slot_list_extend ⟨_,e,rfl⟩ F.entry_list_extend (F.args_list_extend_2 _ _)
  (AutoSeq1.list_extend_list_list_0 l its.toArray n b its2.toArray n2 hlong (by rw [List.size_toArray];omega) (by omega)) ⟨e,e2,?_⟩
 refine ⟨.non,_,I.lset (its':=its++its2) hH e (by simp) (r.append r2) ?_,rfl,q⟩
 rw [List.length_append]
 omega
end
section
variable {prog:Program}{w:World}{A:Around}{E:Value->Shared->Prop}{s:Shared}
end
section
variable {X:Cx}
end
end L2
namespace Att
open PySem PySem.W PySem.Calls PyProof.Rows
theorem ints_of_wellAll {P:Params}{h:Heap}:∀ (ns:List Int) (vs:List Value),WellAll P h vs (ns.map WData.int)->IntsAre vs ns:=by
 intro ns
 induction ns with
 | nil =>
  intro vs w
  rw [List.map_nil] at w
  cases w
  exact .nil
 | cons n ns ih =>
  intro vs w
  rw [List.map_cons] at w
  cases w with
  | cons a b =>
   cases a
   exact .cons _ _ (ih _ b)
theorem script_of {l:OpenLaw}{n:Nat}(hn:l.most=some n){P:Params}{h:Heap}{args:List WData}{vals:List Value}
  (hpre:l.row.toRowW.claim.pre args=true) (hwl:WellAll P h vals args) :
  ∃ a vs ns,vals=[Value.ref a]∧args=[WData.list (ns.map WData.int)]∧h.get? a=some { cls:=.type "list",data:=.seq vs.toArray }∧IntsAre vs ns∧ns.length<=n:=by
 have hsh:WShape.hasAll [] args [.list .int]=true:=(pre_splitW hpre).1
 have hc:l.pre.holds [] { args:=args }=true:=(pre_splitW hpre).2
 obtain ⟨d,r,rfl,h1,h2⟩:=hasAllW_cons hsh
 obtain rfl:=hasAllW_nil h2
 obtain ⟨xs,rfl,h3⟩:=hasW_list h1
 obtain ⟨ns,rfl⟩:=items_int h3
 have hlen:ns.length<=n:=by
  unfold OpenLaw.pre at hc
  have h4:(WTm.not (.lt (.lit (.int (n:Int))) (.len (.arg 0)))).holds [] { args:=[.list (ns.map .int)] }=true:=by
   have h4:=(holds_andW hc).1
   rw [hn] at h4
   exact h4
  have h5:=condW_of h4 (w_not (w_lt w_lit (w_len_list (w_arg rfl))))
  rw [List.length_map] at h5
  refine Nat.le_of_not_lt fun q=>?_
  have q':(n:Int)<((ns.length:Nat):Int):=by omega
  first
   | (rw [decide_eq_true q'] at h5;exact absurd h5 (by decide))
   | (simp at h5;omega)
 cases hwl with
 | cons w1 w2 =>
  cases w2
  cases w1 with
  | list ho hall=>exact ⟨_,_,ns,rfl,rfl,ho,ints_of_wellAll ns _ hall,hlen⟩
theorem post_true (l:OpenLaw)(args:List WData):l.row.toRowW.claim.post args (.bool true) args=true :=
 postW_of (r:=l.row.toRowW) (X:=(true==true))
  (show WShape.has [] (.bool true) .bool=true by first | rfl | decide | simp [WShape.has,WShape.arms,WShape.armsAll])
  (show (WTm.eq .res (.lit (.bool true))).value [] { args:=args,res:=some (.bool true),after:=args }=some (.bool (true==true)) from w_eq_bool (w_res rfl) w_lit) rfl
theorem attach_call {l:OpenLaw}{n:Nat}{q:Program}{loose:List Str}{XP:(Str->Option Value)->Heap->Prop}{YP:World->Heap->Prop}{d:DefRec}
  (hn:l.most=some n) (hdf:d.params.defaults=[])
  (call:∀ (w:World) (s₀ s₁:Shared) (mg mb:Str->Option Value) (fa:Addr) (o:Obj) (pm cd doc:Value) (a:Addr) (vs:List Value) (ns:List Int),
   Ground q loose [] XP w s₀ mg mb s₁.heap->YP w s₁.heap ->
   s₁.heap.get? fa=some o->o.data = .func (docDef d.name d.params d.body d.scope pm cd doc)->s₁.heap.CodeRec cd d.name->mg d.name=some (.ref fa) ->
   s₁.heap.get? a=some { cls:=.type "list",data:=.seq vs.toArray }->IntsAre vs ns->ns.length<=n->s₁.gens = #[] ->
   codeAny (model l.prog w) callerA (.call (.ref fa) ⟨[.ref a],[]⟩) (fun r s'=>r = .ok (.ret (.bool true))∧OldK s₁.heap s'.heap∧s'.os=s₁.os∧AllBare s'.gens) s₁) :
  WalkO q loose XP YP l.row.toRowW d [] (fun f vs=>PySem.call f vs):=by
 intro w s₀ s₁ mg mb G Y fa o pm cd doc dV kV ho hd hcd hD hmg hg args vals as hpre hlay hrd hwl hlo
 obtain rfl:dV = .none:=Dflts.none hD hdf
 obtain rfl:kV = .none:=Dflts.noKw hD
 obtain ⟨a,vs,ns,rfl,rfl,hobj,hints,hlen⟩:=script_of hn hpre hwl
 refine enter_call (codeAny_mono (call w s₀ s₁ mg mb fa o pm cd doc a vs ns G Y ho (fd_plain hd) hcd hmg hobj hints hlen hg) fun r s' hq=>?_)
 obtain ⟨rfl,h2,h3,h4⟩:=hq
 exact ⟨.inl ⟨.bool true,.bool true,[],rfl,fun _=>rfl,.bool true,post_true l _,fun _=>⟨List.Pairwise.nil,fun _ hm=>(nomatch hm)⟩⟩,h2,h3,h4⟩
section
variable {prog:Program}{w:World}{A:Around}{E:Value->Shared->Prop}{s:Shared}{K:Frag}
end
end Att
namespace L2
open PySem PySem.Spec PyProof.Rows
theorem vals_ints:∀ {vs:List Value} {ns:List Int},IntsAre vs ns->Vals (ns.map V.int) vs
 | _,_,.nil=>.nil
 | _,_,.cons n t h=>.cons ⟨t,rfl⟩ (vals_ints h)
def Only (H:Hp):Prop:=∀ b,H b=none∨∃ o xs,H b=some (.frz o (.lst xs))
theorem law_call {P:Program}{w:World}{K:PySem.W.Frag}{mg mb:Str->Option Value}{CX:CXT}{k:Nat}{fa a:Addr}{fd:FuncData}{x:Str}{sp:Sp}{s₁:Shared}{vs:List Value}{ns:List Int}
  (KX:K.In s₁.heap) (hns:s₁.heap.Ns mainGlobals mg) (hb:s₁.heap.Ns builtinsNs mb) (hbb:∀ x:Str,x ≠ "__name__" -> mb x=bootBuiltins x) (hlim:s₁.heap.NoLimit) (hg:s₁.gens = #[])
  (ha:s₁.heap.get? a=some { cls:=.type "list",data:=.seq vs.toArray }) (hi:IntsAre vs ns) (hl:ns.length<=sizeLine) (hr:Room k callerA)
  (F:∀ base:Heap,K.In base->base.Ns mainGlobals mg->FnOk P w K mg base CX k fa fd [x] sp) (hbind:∀ (s:Shared) (u:Value),BindsTo s fd ⟨[u],[]⟩ [(x,u)])
  (hsp:∀ H:Hp,Only H->SqL K H a (ns.map V.int)->sp [.ref a] H (fun v _=>v = .bl true) fun _ _ _=>False)
  (hCX:∀ H e s',CX [] H s₁ (fun _ _ _=>False) e s'->False) :
  codeAny (model P w) callerA (.call (.ref fa) ⟨[.ref a],[]⟩) (fun r s'=>r = .ok (.ret (.bool true))∧OldK s₁.heap s'.heap∧s'.os=s₁.os∧AllBare s'.gens) s₁:=by
 have rv:=vals_ints hi
 have lenV:=hi.length
 have core:∀ H:Hp,Only H->SqL K H a (ns.map V.int)->HOk P w H s₁.heap->(∀ b,H b≠none->b=a)->(H a≠none->K.lookup a=none) ->
   codeAny (model P w) callerA (.call (.ref fa) ⟨[.ref a],[]⟩) (fun r s'=>r = .ok (.ret (.bool true))∧OldK s₁.heap s'.heap∧s'.os=s₁.os∧AllBare s'.gens) s₁:=by
  intro H hO hS hok hA hK
  have base_of:∀ {b:Addr} {o:Obj},s₁.heap.get? b=some o->H b=none->(hidT s₁.heap H).get? b=some o:=fun e n=>hidT_get e n
  have noA:∀ {b:Addr} {o:Obj} {es:Array DictEntry} {ep:Nat},s₁.heap.get? b=some o->o.data = .dict es ep->H b=none:=fun {b o es ep} e d=>by
   cases q:H b with
   | none=>rfl
   | some u =>
    have e':b=a:=hA b (by rw [q];simp)
    subst e'
    rw [ha] at e;cases e
    have d':Data.seq vs.toArray _=Data.dict es ep:=d
    cases d'
  have nsK:∀ {b:Addr} {m:Str->Option Value},s₁.heap.Ns b m->(hidT s₁.heap H).Ns b m:=fun {b m} ⟨o,es,ep,e,d,r⟩=>⟨o,es,ep,base_of e (noA e d),d,r⟩
  have hKb:K.In (hidT s₁.heap H):=fun b o e=>base_of (KX b o e) (by
   cases q:H b with
   | none=>rfl
   | some u =>
    have e':b=a:=hA b (by rw [q];simp)
    subst e'
    rw [hK (by rw [q];simp)] at e;cases e)
  have hM:Mod K mg (hidT s₁.heap H):=⟨hKb,nsK hns,⟨mb,nsK hb,hbb⟩,let ⟨mc,h1,h2⟩:=hlim;⟨mc,nsK h1,h2⟩⟩
  have e0:Env0 P w K mg (hidT s₁.heap H) callerA [] s₁ H:=⟨rfl,hM,fun b o e=>of_hidT e,Nat.le_of_eq (hidT_size _ _),trivial,fun b hb=>absurd (show b∈([]:List Addr) from hb) (by simp),hok,.of_eq hg⟩
  refine codeAny_mono ((F _ hKb (nsK hns)).run callerA [] s₁ H ⟨[.ref a],[]⟩ [.ref a] [.ref a] _ _ hr e0 (hbind s₁ (.ref a)) (.cons rfl .nil) (hsp H hO hS)) fun r s' h=>?_
  cases r with
  | error e=>exact (hCX H e s' h).elim
  | ok fl =>
   cases fl with
   | next=>exact False.elim h
   | brk=>exact False.elim h
   | cont=>exact False.elim h
   | ret u =>
    obtain ⟨v,H',os,bare,un,hok',r',q⟩:=h
    have q':v = .bl true:=q
    subst q'
    obtain rfl:u=Value.bool true:=r'
    refine ⟨rfl,OldK.of_keep fun b o e=>?_,os,bare⟩
    cases q:H b with
    | none=>exact un.keep b o e q (by intro z;exact absurd (show b∈([]:List Addr) from z) (by simp)) (by simp)
    | some u =>
     rcases hO b with z | ⟨ob,xs,z⟩
     ·rw [q] at z;cases z
     ·have z2:=un.frzs b ob _ z
      obtain ⟨e1,_⟩:=hok b _ z
      obtain ⟨e2,_⟩:=hok' b _ z2
      rw [e] at e1;cases e1
      exact e2
 cases hk:K.lookup a with
 | some o =>
  have e:=KX a o hk
  rw [ha] at e
  cases e
  refine core (fun _=>none) (fun _=>.inl rfl) (.inr ⟨_,vs.toArray,_,hk,rfl,rfl,rfl,by rw [List.size_toArray,lenV];exact hl,by simpa using rv⟩) (fun b u z=>by have z':(none:Option HO)=some u:=z;cases z') (fun b z=>absurd rfl z) fun z=>absurd rfl z
 | none =>
  refine core (fun b=>if b=a then some (.frz { cls:=.type "list",data:=.seq vs.toArray } (.lst (ns.map V.int))) else none) (fun b=>?_) (.inl (.inr ⟨{ cls:=.type "list",data:=.seq vs.toArray },if_pos rfl⟩)) (fun b u z=>?_) (fun b z=>?_) fun _=>hk
  ·by_cases hb:b=a
   ·exact .inr ⟨_,_,if_pos hb⟩
   ·exact .inl (if_neg hb)
  ·by_cases hb:b=a
   ·have z':=(if_pos hb).symm.trans z
    cases z'
    subst hb
    exact ⟨ha,by rw [List.length_map];exact hl,vs,_,rv,ha⟩
   ·have z':=(if_neg hb).symm.trans z
    cases z'
  ·by_cases hb:b=a
   ·exact hb
   ·exact absurd (if_neg hb) z
end L2
namespace L2
open PySem PySem.Spec PyProof.Rows
theorem walk_of {l:PySem.W.OpenLaw}{n k:Nat}{q:Program}{loose:List Str}{XP:(Str->Option Value)->Heap->Prop}{YP:World->Heap->Prop}{d:DefRec}{K:Params->PySem.W.Frag}{CX:World->CXT}{sp:World->Sp}{x:Str}
  (hn:l.most=some n) (hn2:n<=sizeLine) (hdf:d.params.defaults=[]) (hr:Room k callerA)
  (hY:∀ (w:World) (h:Heap),YP w h->(K w.params).In h)
  (F:∀ (w:World) (mg:Str->Option Value) (fa:Addr) (h:Heap),(K w.params).In h->h.Ns mainGlobals mg->mg d.name=some (.ref fa) ->
   ∃ fd:FuncData,(∀ (s:Shared) (u:Value),BindsTo s fd ⟨[u],[]⟩ [(x,u)]) ∧
    ∀ base:Heap,(K w.params).In base->base.Ns mainGlobals mg->FnOk l.prog w (K w.params) mg base (CX w) k fa fd [x] (sp w))
  (hsp:∀ (w:World) (H:Hp) (a:Addr) (ns:List Int),ns.length<=n->Only H->SqL (K w.params) H a (ns.map V.int)->sp w [.ref a] H (fun v _=>v = .bl true) fun _ _ _=>False)
  (hCX:∀ (w:World) (H:Hp) (s:Shared) (e:Value) (s':Shared),CX w [] H s (fun _ _ _=>False) e s'->False) :
  PySem.W.WalkO q loose XP YP l.row.toRowW d [] (fun f vs=>PySem.call f vs):=by
 refine Att.attach_call hn hdf fun w s₀ s₁ mg mb fa o pm cd doc a vs ns G Y ho hd hcd hmg hobj hints hlen hg=>?_
 have KX:=hY w _ Y
 obtain ⟨fd,hb,hF⟩:=F w mg fa _ KX G.T.g hmg
 exact law_call KX G.T.g G.T.b G.T.builtins G.T.nolimit hg hobj hints (Nat.le_trans hlen hn2) hr hF hb (fun H hO hS=>hsp w H a ns hlen hO hS) fun H e s'=>hCX w H s₁ e s'
end L2
namespace L2
open PySem PySem.Spec PyProof.Rows
def inClass (s:Stmt)(j:Nat):Stmt:=match s with
 | .ClassDef _ _ _ body _ _ _ _ _ _ _=>body.getD j (.Pass ⟨0,0,0,0⟩)
 | _=>.Pass ⟨0,0,0,0⟩
def defArgs (s:Stmt):Arguments:=match s with
 | .FunctionDef _ a _ _ _ _ _ _ _ _=>a
 | _=>{ posonlyargs:=[],args:=[],vararg:=none,kwonlyargs:=[],kw_defaults:=[],kwarg:=none,defaults:=[] }
def defBody (s:Stmt):List Stmt:=match s with
 | .FunctionDef _ _ b _ _ _ _ _ _ _=>b
 | _=>[]
def defScope (s:Stmt):Scope:=match s with
 | .FunctionDef _ _ _ _ _ _ sc _ _ _=>sc
 | _=>{ kind:=.function,names:=[],isGenerator:=false,isCoroutine:=false }
abbrev E0:XK:=fun _ _ _=>False
set_option genInjectivity false in
structure Fun (K:PySem.W.Frag)(x qual:Str)(st:Stmt)(f:Addr)(fd:FuncData):Prop where
 ex:∃ (oc:Value) (od:Option Addr) (kV doc pm:Value) (an:Option Addr) (cdv ct:Value) (osl:Array (Option Value)),
  fd=PySem.W.fnOf x qual (defArgs st) (defBody st) (defScope st) .none kV doc pm an cdv ct∧K.lookup f=some ⟨oc,od,.func fd,osl⟩∧PySem.W.codeIn K cdv qual=true
 kp:PySem.W.keepIn K (.ref f)=true
section
variable {P:Program}{w:World}{K:PySem.W.Frag}{mg:Str->Option Value}{base:Heap}
theorem Fun.binds {x qual:Str}{st:Stmt}{f:Addr}{fd:FuncData}{ps:List Str}(F:Fun K x qual st f fd)
  (h:∀ (kV doc pm:Value) (an:Option Addr) (cdv ct:Value) (us:List Value),us.length=ps.length->bindArgs (PySem.W.fnOf x qual (defArgs st) (defBody st) (defScope st) .none kV doc pm an cdv ct) ⟨us,[]⟩=pure (ps.zip us)):Binds K fd ps []:=by
 obtain ⟨oc,od,kV,doc,pm,an,cdv,ct,osl,rfl,lk,hcd⟩:=F.ex
 exact .all (h kV doc pm an cdv ct)
theorem fun_mk {x qual:Str}{st:Stmt}{f:Addr}{oc:Value}{od an:Option Addr}{osl:Array (Option Value)}{kV doc pm cdv ct:Value}(l:K.lookup f=some ⟨oc,od,.func (PySem.W.fnOf x qual (defArgs st) (defBody st) (defScope st) .none kV doc pm an cdv ct),osl⟩)
 (c:PySem.W.codeIn K cdv qual=true) (k:PySem.W.keepIn K (.ref f)=true):Fun K x qual st f (PySem.W.fnOf x qual (defArgs st) (defBody st) (defScope st) .none kV doc pm an cdv ct):=⟨⟨oc,od,kV,doc,pm,an,cdv,ct,osl,rfl,l,c⟩,k⟩
end
theorem hu_of {A:Around}{k:Nat}(hr:Room k A):A.units+1<cLine:=Nat.lt_of_le_of_lt (Nat.add_le_add_left (by decide:1<=64) _) hr.units
section
variable {X:Cx}
theorem pv (i:Nat){x:Str}{pos:Pos}(hN:X.N[i]?=some x:=by rfl)(hv:Vis X.env.scope x:=by first | exact Or.inl rfl | exact Or.inr (Or.inl rfl) | exact Or.inr (Or.inr rfl))(hd:(x==("__debug__" : Str))=false:=by decide)
 (hcd:(x==("__classdict__" : Str))=false:=by decide):PE X (.Name x pos) (tVar i):=pe_var hN hv hd hcd
end
theorem iteT {A B:Prop}(h:A):if true=true then A else B:=by
 rw [if_pos rfl]
 exact h
theorem ite2 {c A B:Prop}[Decidable c](h1:c->A)(h2:¬ c->B):if c then A else B:=by
 by_cases h:c
 ·rw [if_pos h]
  exact h1 h
 ·rw [if_neg h]
  exact h2 h
def Same (H H':Hp):Prop:=∀ b o,H b=some o->H' b=some o
theorem Same.refl (H:Hp):Same H H:=fun _ _ h=>h
theorem Same.trans {H H1 H2:Hp}(a:Same H H1)(b:Same H1 H2):Same H H2:=fun c o h=>b c o (a c o h)
theorem Same.seq {K:PySem.W.Frag}{H H':Hp}{a:Addr}{xs:List V}(e:Same H H')(h:SqL K H a xs):SqL K H' a xs:=by
 rcases h with (h | ⟨o,h⟩) | h
 ·exact .inl (.inl (e _ _ h))
 ·exact .inl (.inr ⟨o,e _ _ h⟩)
 ·exact .inr h
end L2
namespace Wd
abbrev W:=List Nat
theorem ltir (a:W):¬ a<a:=List.lt_irrefl a
theorem lele {a b c:W}(h:¬ b<a)(h':¬ c<b):¬ c<a:=fun hc=>List.not_lt.mpr (List.le_trans (List.not_lt.mp h) (List.not_lt.mp h')) hc
def rot (k:Nat)(w:W):W:=w.drop k++w.take k
def leastTo (w:W):Nat->W
 | 0=>w
 | n+1=>if rot (n+1) w<leastTo w n then rot (n+1) w else leastTo w n
def least (w:W):W:=leastTo w (w.length-1)
end Wd
namespace Wd
theorem lt_app {a b:W}(h:a<b)(hl:b.length<=a.length)(x y:W):a++x<b++y:=by
 induction a generalizing b with
 | nil =>
  cases b with
  | nil=>exact absurd h (ltir _)
  | cons d b=>simp at hl
 | cons c a ih =>
  cases b with
  | nil=>exact absurd h (by simp)
  | cons d b =>
   rw [List.cons_append,List.cons_append]
   rw [List.cons_lt_cons_iff] at h ⊢
   rcases h with h | ⟨h,h'⟩
   ·exact .inl h
   ·exact .inr ⟨h,ih h' (by simpa using hl)⟩
theorem lt_app_left (p:W){a b:W}:p++a<p++b↔a<b:=by
 induction p with
 | nil=>rfl
 | cons c p ih =>
  rw [List.cons_append,List.cons_append,List.cons_lt_cons_iff]
  constructor
  ·intro h
   rcases h with h | ⟨_,h⟩
   ·exact absurd h (Nat.lt_irrefl _)
   ·exact ih.mp h
  ·intro h
   exact .inr ⟨rfl,ih.mpr h⟩
end Wd
namespace Wd
def rep (n:Nat)(l:W):W:=(List.replicate n l).flatten
theorem rep_succ (n:Nat)(l:W):rep (n+1) l=l++rep n l:=by unfold rep;rw [List.replicate_succ,List.flatten_cons]
theorem rep_zero (l:W):rep 0 l=[]:=rfl
theorem rep_one (l:W):rep 1 l=l:=by rw [rep_succ,rep_zero,List.append_nil]
theorem rep_len (n:Nat)(l:W):(rep n l).length=n*l.length:=by
 induction n with
 | zero=>rw [rep_zero,Nat.zero_mul];rfl
 | succ n ih=>rw [rep_succ,List.length_append,ih,Nat.succ_mul,Nat.add_comm]
end Wd
namespace Wd
end Wd
namespace Wd
end Wd
namespace Dt
abbrev Mx:=Nat->Nat->Int
def sg (j:Nat):Int:=if j % 2=0 then 1 else -1
section
variable {n N p q i j k l:Nat}{A B:Mx}{f g:Nat->Int}{c m:Int}
def tr (p i:Nat):Nat:=if i=p then p+1 else if i=p+1 then p else i
def mv (p:Nat)(A:Mx):Mx:=fun i k=>if i=0 then A p k else if i<=p then A (i-1) k else A i k
end
end Dt
namespace Dt
def sN:Nat->(Nat->Nat)->Nat
 | 0,_=>0
 | n+1,f=>sN n f+f n
section
variable {n N p q i j k l:Nat}{A B:Mx}{f g:Nat->Nat}{c m:Int}
end
end Dt
namespace Wd
end Wd
namespace Wd
end Wd
namespace Hg
variable {bg en:List Nat->List Nat}
inductive Rch (bg en:List Nat->List Nat)(ms:List (List Nat))(p:List Nat):List Nat->Prop
 | self:Rch bg en ms p p
 | fw {w:List Nat}:w∈ms->Rch bg en ms p (bg w)->Rch bg en ms p (en w)
 | bw {w:List Nat}:w∈ms->Rch bg en ms p (en w)->Rch bg en ms p (bg w)
def Cl (bg en:List Nat->List Nat)(ls:List (List Nat))(w:List Nat):Prop:=bg w∈ls↔en w∈ls
set_option genInjectivity false in
structure Pass (bg en:List Nat->List Nat)(ms:List (List Nat))(p:List Nat)(fs:List (List Nat))(i:Nat)(ls:List (List Nat)):Prop where
 nd:ls.Nodup
 pre:fs <+: ls
 rch:∀ z∈ls,Rch bg en ms p z
 cl:ls.length=fs.length->∀ w∈ms.take i,Cl bg en fs w
theorem nd_len {α:Type}[BEq α][LawfulBEq α]:∀ {ls ms:List α},ls.Nodup->(∀ z∈ls,z∈ms)->ls.length<=ms.length
 | [],_,_,_=>Nat.zero_le _
 | a::ls,ms,h,hs=>by
  rw [List.nodup_cons] at h
  have ha:=hs a (List.mem_cons_self ..)
  have ih:=nd_len (ls:=ls) (ms:=ms.erase a) h.2 fun z hz=>(List.mem_erase_of_ne (fun e:z=a=>h.1 (e▸hz))).mpr (hs z (List.mem_cons_of_mem _ hz))
  have:=List.length_erase_of_mem ha
  have:=List.length_pos_of_mem ha
  rw [List.length_cons]
  omega
end Hg
namespace Dt
section
variable {N F b d e n:Nat}
def pm (N:Nat):Nat->Nat->Nat->Nat
 | 0,_,_=>1 % N
 | f+1,b,e=>if e=0 then 1 % N else if e % 2=1 then b*pm N f (b*b % N) (e/2) % N else pm N f (b*b % N) (e/2)
end
end Dt
namespace Dt
section
variable {N F b d e n:Nat}
end
end Dt
namespace Dt
end Dt
namespace Dt
def rs (n:Nat)(r:List Int):Nat:=sN n fun k=>(r.getD k 0).natAbs
def kn:List Nat:=[133,211,598,652,721,850,1282]
def pr (j:Nat):Nat:=kn.getD j 0*2 ^ 192+1
end Dt
namespace Dt
section
variable {n m p q i j k l:Nat}{A B T U:Mx}{f g:Nat->Int}{c:Nat->Int}
end
end Dt
namespace Dt
section
variable {n i j k l m:Nat}{A B:Mx}{f:Nat->Nat}{c:Int}
def un (i k:Nat):Int:=if k=i then 1 else 0
end
end Dt
namespace Dt
section
variable {n m i:Nat}{A:Mx}{Ws:Nat->List Nat}{c:List Nat}
def goF (n:Nat)(c:List Nat)(i:Nat):Nat:=if i<n then c.getD i n else i
def goN (n:Nat)(c:List Nat):Nat->Nat->Nat
 | 0,i=>i
 | k+1,i=>goF n c (goN n c k i)
def comes (n:Nat)(c:List Nat):Prop:=∀ i,i<n->¬ goN n c n i<n
end
end Dt
namespace Dt
def cE (words:List (List Nat))(o:List Nat):Int:=((words.countP fun w=>decide (w.drop 1=o):Nat):Int)
def rI (texts:List (List Nat))(t:List Nat)(words:List (List Nat)):List Int:=texts.map fun o=>if o=t then ((words.length:Nat):Int)-cE words t else-cE words o
end Dt
namespace Dt
end Dt
namespace Dt
inductive R2 {α β:Type}(R:α->β->Prop):List α->List β->Prop
 | nil:R2 R [] []
 | cons {a:α} {b:β} {as:List α} {bs:List β}:R a b->R2 R as bs->R2 R (a::as) (b::bs)
section
variable {α β:Type}{R R':α->β->Prop}{as:List α}{bs:List β}
theorem R2.len (h:R2 R as bs):as.length=bs.length:=by
 induction h with
 | nil=>rfl
 | cons _ _ ih=>rw [List.length_cons,List.length_cons,ih]
theorem R2.mono (h:R2 R as bs)(f:∀ a b,a∈as->R a b->R' a b):R2 R' as bs:=by
 induction h with
 | nil=>exact .nil
 | cons r _ ih=>exact .cons (f _ _ (List.mem_cons_self ..) r) (ih fun a b ha=>f a b (List.mem_cons_of_mem _ ha))
theorem R2.snoc {a:α}{b:β}(h:R2 R as bs)(r:R a b):R2 R (as++[a]) (bs++[b]):=by
 induction h with
 | nil=>exact .cons r .nil
 | cons r' _ ih=>exact .cons r' ih
end
abbrev W:=List Nat
end Dt
namespace Wd
def spell (k:Nat):Nat->Nat->W
 | 0,_=>[]
 | n+1,N=>spell k n (N/k)++[97+N % k]
theorem spell_len (k:Nat):∀ n N,(spell k n N).length=n
 | 0,_=>rfl
 | n+1,N=>by rw [spell,List.length_append,spell_len k n];rfl
theorem spell_rev (k:Nat):∀ n N,((List.range n).map fun i=>97+N/k ^ i % k).reverse=spell k n N
 | 0,_=>rfl
 | n+1,N=>by
  rw [List.range_succ_eq_map,List.map_cons,List.map_map,List.reverse_cons,spell,<- spell_rev k n (N/k),Nat.pow_zero,Nat.div_one]
  congr 3
  funext i
  show 97+N/k ^ (i+1) % k=97+N/k/k ^ i % k
  rw [Nat.div_div_eq_div_mul,Nat.pow_succ,Nat.mul_comm]
theorem spell_lt {k:Nat}(hk:0<k):∀ n N M,N<M->M<k ^ n->spell k n N<spell k n M
 | 0,N,M,h1,h2=>by rw [Nat.pow_zero] at h2;omega
 | n+1,N,M,h1,h2=>by
  rw [spell,spell]
  have hle:N/k<=M/k:=Nat.div_le_div_right (Nat.le_of_lt h1)
  rcases Nat.lt_or_eq_of_le hle with h | h
  ·exact lt_app (spell_lt hk n _ _ h (Nat.div_lt_of_lt_mul (by rw [Nat.mul_comm,<- Nat.pow_succ];exact h2))) (by rw [spell_len,spell_len];exact Nat.le_refl _) _ _
  ·rw [h,lt_app_left]
   have e1:=Nat.div_add_mod N k
   have e2:=Nat.div_add_mod M k
   rw [h] at e1
   have:N % k<M % k:=by omega
   rw [List.cons_lt_cons_iff]
   left
   omega
theorem spell_mem {k:Nat}(hk:0<k):∀ n N,∀ c∈spell k n N,97<=c∧c<97+k
 | 0,_,c,h=>by cases h
 | n+1,N,c,h=>by
  rw [spell,List.mem_append] at h
  rcases h with h | h
  ·exact spell_mem hk n _ c h
  ·have e:c=97+N % k:=by simpa using h
   have:=Nat.mod_lt N hk
   omega
def num (k:Nat)(w:W):Nat:=w.foldl (fun a c=>a*k+(c-97)) 0
theorem num_snoc (k:Nat)(w:W)(c:Nat):num k (w++[c])=num k w*k+(c-97):=by
 unfold num
 rw [List.foldl_append]
 rfl
theorem snoc_ex {w:W}(h:0<w.length):∃ u c,w=u++[c]:=by
 exact ⟨w.dropLast,w.getLast (List.length_pos_iff.mp h),(List.dropLast_concat_getLast _).symm⟩
theorem spell_num {k:Nat}:∀ (n:Nat) (w:W),w.length=n->(∀ c∈w,97<=c∧c<97+k)->spell k n (num k w)=w∧num k w<k ^ n
 | 0,w,h,_=>by
  have:w=[]:=List.length_eq_zero_iff.mp h
  subst this
  exact ⟨rfl,by rw [Nat.pow_zero];exact Nat.zero_lt_one⟩
 | n+1,w,h,hw=>by
  obtain ⟨u,c,rfl⟩:=snoc_ex (w:=w) (by omega)
  rw [List.length_append] at h
  have hu:u.length=n:=by
   have:[c].length=1:=rfl
   omega
  obtain ⟨h1,h2⟩:=spell_num n u hu fun d hd=>hw d (List.mem_append_left _ hd)
  have hc:=hw c (by simp)
  have hk:0<k:=by omega
  have hd:(num k u*k+(c-97))/k=num k u:=by rw [Nat.add_comm,Nat.add_mul_div_right _ _ hk,Nat.div_eq_of_lt (by omega),Nat.zero_add]
  have hm:(num k u*k+(c-97)) % k=c-97:=by rw [Nat.add_comm,Nat.add_mul_mod_self_right,Nat.mod_eq_of_lt (by omega)]
  rw [num_snoc,spell,hd,hm,h1]
  refine ⟨by rw [show 97+(c-97)=c by omega],?_⟩
  rw [Nat.pow_succ]
  have:num k u*k+k<=k ^ n*k:=by rw [<- Nat.succ_mul];exact Nat.mul_le_mul_right k h2
  omega
def allW (k n:Nat):List W:=(List.range (k ^ n)).map (spell k n)
theorem allW_len (k n:Nat):(allW k n).length=k ^ n:=by rw [allW,List.length_map,List.length_range]
end Wd
namespace Wd
def Okk (k:Nat)(w:W):Prop:=∀ c∈w,97<=c∧c<97+k
def Lst (w:W):Prop:=w=least w
instance (w:W):Decidable (Lst w):=inferInstanceAs (Decidable (w=least w))
set_option genInjectivity false in
structure LW (k n:Nat)(w:W):Prop where
 len:w.length=n
 ok:Okk k w
 lst:Lst w
end Wd
namespace Wd
def Nn (k:Nat)(w:W)(m:Nat):Prop:=∀ v,LW k w.length v->∀ p,m<=p->p<w.length->v.take p=w.take p->¬ w.getD p 0<v.getD p 0
end Wd
namespace Wd
theorem mem_allW {k n:Nat}{w:W}(hk:0<k):w∈allW k n↔w.length=n∧Okk k w:=by
 unfold allW
 rw [List.mem_map]
 constructor
 ·rintro ⟨i,_,rfl⟩
  exact ⟨spell_len k n i,spell_mem hk n i⟩
 ·rintro ⟨hl,ho⟩
  obtain ⟨h1,h2⟩:=spell_num n w hl ho
  exact ⟨num k w,List.mem_range.mpr h2,h1⟩
theorem allW_sorted {k n:Nat}(hk:0<k):(allW k n).Pairwise (· < ·):=by
 unfold allW
 rw [List.pairwise_map]
 refine List.Pairwise.imp_of_mem ?_ List.pairwise_lt_range
 intro a b _ hb hab
 exact spell_lt hk n a b hab (List.mem_range.mp hb)
end Wd
namespace L2
open PySem PySem.Spec PyProof.Rows
def tx (l:List Nat):Str:=⟨l.toArray⟩
abbrev T (l:List Nat):V:=.str (tx l)
theorem tx_len (l:List Nat):(tx l).length=l.length:=by simp [tx,Str.length]
theorem tx_cps (l:List Nat):(tx l).cps.toList=l:=by simp [tx]
theorem tx_eta (x:Str):tx x.cps.toList=x:=by cases x;simp [tx]
theorem tx_inj {a b:List Nat}(h:tx a=tx b):a=b:=by
 have e:=congrArg (fun x:Str=>x.cps.toList) h
 simpa [tx] using e
theorem T_inj {a b:List Nat}(h:T a=T b):a=b:=tx_inj (V.str.inj h)
theorem T_dec {a b:List Nat}:decide (T a=T b)=decide (a=b):=by
 rw [Bool.eq_iff_iff,decide_eq_true_iff,decide_eq_true_iff]
 exact ⟨T_inj,fun h=>by rw [h]⟩
theorem tx_app (a b:List Nat):tx a++tx b=tx (a++b):=by
 rw [<- tx_eta (tx a++tx b),PySem.W.KT.app_list,tx_cps,tx_cps]
section
variable {X:Cx}
theorem op_add_T:OpR X (binaryOp .Add) (fun x y H Q=>∃ a,x=T a∧∃ b,y=T b∧a.length+b.length<=sizeLine∧Q (T (a++b)) H):=by
 intro pins s σ H x y v u Q I rx ry h
 obtain ⟨a,e1,b,e2,hz,q⟩:=h
 exact op_add_str pins s σ H x y v u Q I rx ry ⟨tx a,tx b,e1,e2,by rw [tx_len,tx_len];exact hz,by rw [tx_app];exact q⟩
theorem op_eq_T:OpR X (compareOp .Eq) (fun x y H Q=>∃ a,x=T a∧∃ b,y=T b∧Q (.bl (decide (a=b))) H):=by
 intro pins s σ H x y v u Q I rx ry h
 obtain ⟨a,rfl,b,rfl,q⟩:=h
 exact op_eq pins s σ H _ _ v u Q I rx ry ⟨rfl,by rw [T_dec];exact q⟩
theorem op_ne_T:OpR X (compareOp .NotEq) (fun x y H Q=>∃ a,x=T a∧∃ b,y=T b∧Q (.bl (!decide (a=b))) H):=by
 intro pins s σ H x y v u Q I rx ry h
 obtain ⟨a,rfl,b,rfl,q⟩:=h
 exact op_ne pins s σ H _ _ v u Q I rx ry ⟨rfl,by rw [T_dec];exact q⟩
theorem op_eq_I:OpR X (compareOp .Eq) (fun x y H Q=>∃ a,x = .int a∧∃ b,y = .int b∧Q (.bl (decide (a=b))) H):=by
 intro pins s σ H x y v u Q I rx ry h
 obtain ⟨a,rfl,b,rfl,q⟩:=h
 exact op_eq pins s σ H _ _ v u Q I rx ry ⟨rfl,by rw [dec_int,Bool.beq_eq_decide_eq];exact q⟩
theorem op_ne_I:OpR X (compareOp .NotEq) (fun x y H Q=>∃ a,x = .int a∧∃ b,y = .int b∧Q (.bl (!decide (a=b))) H):=by
 intro pins s σ H x y v u Q I rx ry h
 obtain ⟨a,rfl,b,rfl,q⟩:=h
 exact op_ne pins s σ H _ _ v u Q I rx ry ⟨rfl,by rw [dec_int,Bool.beq_eq_decide_eq];exact q⟩
def cutL (l:List Nat)(lo hi:Option Int):List Nat:=(l.drop (HT.sIx l.length 0 lo)).take (HT.sIx l.length l.length hi-HT.sIx l.length 0 lo)
theorem clip_sIx (v:Option Int)(n d:Nat):(match v with | none=>(d:Int) | some i=>max 0 (min (if i<0 then i+(n:Int) else i) (n:Int)))=((HT.sIx n d v:Nat):Int):=by
 cases v with
 | none=>rfl
 | some i =>
  show max 0 (min (if i<0 then i+(n:Int) else i) (n:Int))=(((if i<0 then (i+(n:Int)).toNat else min i.toNat n):Nat):Int)
  by_cases hi:i<0
  ·simp only [if_pos hi];omega
  ·simp only [if_neg hi];omega
theorem indices_sIx (lo hi:Option Int)(n:Nat):Builtin.Str.strSliceIndices lo hi 1 n=Builtin.Str.strSliceIndices (some ((HT.sIx n 0 lo:Nat):Int)) (some ((HT.sIx n n hi:Nat):Int)) 1 n:=by
 have h1:=HT.sIx_le n 0 (Nat.zero_le _) lo
 have h2:=HT.sIx_le n n (Nat.le_refl _) hi
 have c1:=clip_sIx lo n 0
 have c2:=clip_sIx hi n n
 have d1:=clip_sIx (some ((HT.sIx n 0 lo:Nat):Int)) n 0
 have d2:=clip_sIx (some ((HT.sIx n n hi:Nat):Int)) n n
 rw [HT.sIx_nat,Nat.min_eq_left h1] at d1
 rw [HT.sIx_nat,Nat.min_eq_left h2] at d2
 unfold Builtin.Str.strSliceIndices
 simp only [show ((1:Int)>0) from by decide,if_true]
 have g:∀ a b c d:Int,a=c->b=d->sliceRange a b 1=sliceRange c d 1:=fun a b c d h1 h2=>by rw [h1,h2]
 exact g _ _ _ _ (c1.trans d1.symm) (c2.trans d2.symm)
theorem slice_tx (l:List Nat)(lo hi:Option Int):Txt.slice (tx l) lo hi=tx (cutL l lo hi):=by
 have h1:=HT.sIx_le l.length 0 (Nat.zero_le _) lo
 have h2:=HT.sIx_le l.length l.length (Nat.le_refl _) hi
 unfold Txt.slice
 rw [tx_len,indices_sIx]
 by_cases hab:HT.sIx l.length 0 lo<=HT.sIx l.length l.length hi
 ·have e:=StrLaws.sliceText_nat (tx l) hab (by rw [tx_len];exact h2)
  unfold StrLaws.sliceText at e
  rw [tx_len,tx_cps] at e
  exact e
 ·have e0:Builtin.Str.strSliceIndices (some ((HT.sIx l.length 0 lo:Nat):Int)) (some ((HT.sIx l.length l.length hi:Nat):Int)) 1 l.length=[]:=by
   unfold Builtin.Str.strSliceIndices sliceRange
   have n1:¬ (((HT.sIx l.length 0 lo:Nat):Int)<0):=by omega
   have n2:¬ (((HT.sIx l.length l.length hi:Nat):Int)<0):=by omega
   simp only [show ((1:Int)>0) from by decide,if_true,if_neg n1,if_neg n2]
   have n3:¬ (max (0:Int) (min ((HT.sIx l.length 0 lo:Nat):Int) (l.length:Int))<max (0:Int) (min ((HT.sIx l.length l.length hi:Nat):Int) (l.length:Int))):=by omega
   simp [n3]
  have e1:cutL l lo hi=[]:=by
   unfold cutL
   rw [show HT.sIx l.length l.length hi-HT.sIx l.length 0 lo=0 by omega,List.take_zero]
  rw [e0,e1]
  cases l with
  | nil=>rfl
  | cons c r=>rfl
theorem sl_T:SlR X (fun x lo hi H Q=>∃ a,x=T a∧a.length<=sizeLine∧Q (T (cutL a lo hi)) H):=by
 intro pins s σ H x v vl vu lo hi sl Q I rx hs pl pu h
 obtain ⟨a,rfl,hz,q⟩:=h
 obtain ⟨t,rfl⟩:=rx
 obtain ⟨l,hl1,hl2⟩:∃ l:Option (Int×Tok),partValue l=vl∧l.map (·.1)=lo:=by
  cases pl with
  | none=>exact ⟨none,rfl,rfl⟩
  | int i t=>exact ⟨some (i,t),rfl,rfl⟩
 obtain ⟨u,hu1,hu2⟩:∃ u:Option (Int×Tok),partValue u=vu∧u.map (·.1)=hi:=by
  cases pu with
  | none=>exact ⟨none,rfl,rfl⟩
  | int i t=>exact ⟨some (i,t),rfl,rfl⟩
 refine ⟨"str",_,F.slot_str_getitem.lookup,typeIs_str _ _ _,?_⟩
 have hsl:s.heap.IsSlice sl l u none:=by
  obtain ⟨o,ho,hc,hd⟩:=hs
  exact ⟨o,ho,hc,by rw [hl1,hu1];exact hd⟩
 refine wpAny_getItem_str_slice hsl rfl ?_
 have key:(if ((1:Int)==1&&(Builtin.Str.strSliceIndices lo hi 1 (tx a).length).length==(tx a).length)=true then (tx a) else ⟨((Builtin.Str.strSliceIndices lo hi 1 (tx a).length).filterMap ((tx a).cps[·]?)).toArray⟩)=tx (cutL a lo hi):=slice_tx a lo hi
 unfold sliceMade slicePicked
 rw [hl2,hu2]
 refine post_val_or_str ⟨?_,fun t' k=>?_⟩
 ·show (Txt.slice (tx a) lo hi).length<=sizeLine
  exact Nat.le_trans (Txt.slice_le _ _ _) (by rw [tx_len];exact hz)
 ·refine ⟨T (cutL a lo hi),H,I.tok _,⟨t',?_⟩,q⟩
  exact congrArg (fun z=>Value.str z t') key
theorem rep_length (n:Nat)(l:List Nat):(Wd.rep n l).length=n*l.length:=Wd.rep_len n l
theorem foldl_cps (n:Nat)(c:Array Nat):∀ acc:Array Nat,(List.replicate n c).foldl (· ++ ·) acc=acc++(Wd.rep n c.toList).toArray:=by
 induction n with
 | zero=>intro acc;simp [Wd.rep]
 | succ n ih =>
  intro acc
  rw [List.replicate_succ,List.foldl_cons,ih]
  rw [Wd.rep_succ,Array.append_assoc]
  congr 1
  apply Array.ext'
  simp
theorem mul_tx (n:Nat)(l:List Nat):Txt.mul (tx l) (n:Int)=tx (Wd.rep n l):=by
 unfold Txt.mul
 by_cases h1:(n:Int)<1
 ·have e:n=0:=by omega
  subst e
  rw [if_pos h1]
  rfl
 ·rw [if_neg h1]
  by_cases h2:((n:Int)==1||(tx l).length==0)=true
  ·rw [if_pos h2]
   rw [Bool.or_eq_true,beq_iff_eq,beq_iff_eq,tx_len] at h2
   rcases h2 with h2 | h2
   ·have e:n=1:=by omega
    subst e
    rw [Wd.rep_one]
   ·have e:l=[]:=List.length_eq_zero_iff.mp h2
    subst e
    have:Wd.rep n []=[]:=List.length_eq_zero_iff.mp (by rw [rep_length];simp)
    rw [this]
  ·rw [if_neg h2,Int.toNat_natCast,foldl_cps]
   simp [tx]
theorem op_mul_T:OpR X (binaryOp .Mult) (fun x y H Q=>∃ a,x=T a∧∃ n:Nat,y = .int n∧(n<=sizeLine∧n*a.length<=sizeLine)∧Q (T (Wd.rep n a)) H):=by
 intro pins s σ H x y v u Q I rx ry h
 obtain ⟨a,rfl,n,rfl,⟨h1,h2⟩,q⟩:=h
 obtain ⟨t,rfl⟩:=rx
 obtain ⟨t',rfl⟩:=ry
 have hs:sizeLine=16777216:=sizeLine_eq
 refine SB.mul ⟨?_,?_,?_⟩ fun t' k=>⟨T (Wd.rep n a),H,I.tok _,⟨t',by rw [mul_tx]⟩,q⟩
 ·have e1:decide ((n:Int) < -(2 ^ 63:Int))=false:=decide_eq_false (by omega)
  have e2:decide ((n:Int)≥2 ^ 63)=false:=decide_eq_false (by omega)
  rw [e1,e2]
  rfl
 ·intro hn _
  rw [tx_len]
  have h3:n*a.length<=16777216:=by omega
  intro hc
  have h4:((n*a.length:Nat):Int)<=16777216:=by omega
  have hn':(0:Int)<n:=by omega
  have h5:((2 ^ 63-1)/(n:Int))*n<=2 ^ 63-1:=Int.ediv_mul_le _ (by omega)
  have h6:(2 ^ 63-1:Int)<((2 ^ 63-1)/(n:Int)+1)*n:=Int.lt_ediv_add_one_mul_self _ hn'
  have h7:((2 ^ 63-1)/(n:Int)+1)*n<=(a.length:Int)*n:=Int.mul_le_mul_of_nonneg_right (by omega) (by omega)
  have h8:((n*a.length:Nat):Int)=(a.length:Int)*n:=by rw [Int.natCast_mul,Int.mul_comm]
  omega
 ·intro hn _
  rw [tx_len,Int.toNat_natCast,Nat.mul_comm]
  unfold Builtin.Str.tooLong
  exact decide_eq_false (by omega)
theorem strsAre_T:∀ {ls:List (List Nat)} {us:List Value},Vals (ls.map T) us->StrsAre us (ls.map tx)
 | [],us,r=>by
  cases r
  exact .nil
 | l::ls,us,r=>by
  rw [List.map_cons] at r
  cases r with
  | cons r1 r2 =>
   obtain ⟨t,rfl⟩:=r1
   exact .cons _ _ (strsAre_T r2)
theorem glued_empty:∀ (ls:List (List Nat)) (acc:Array Nat),(ls.map tx).foldl (fun acc p=>acc++(tx []).cps++p.cps) acc=acc++ls.flatten.toArray
 | [],acc=>by simp
 | l::ls,acc=>by
  rw [List.map_cons,List.foldl_cons,glued_empty ls]
  simp [tx]
theorem join_tx (ls:List (List Nat)):Txt.join (tx []) (ls.map tx)=tx ls.flatten:=by
 unfold Txt.join Builtin.Str.glued
 cases ls with
 | nil=>rfl
 | cons l ls =>
  rw [List.map_cons,List.drop_succ_cons,List.drop_zero,List.headD_cons,glued_empty]
  simp [tx]
theorem sum_len_tx (ls:List (List Nat)):((ls.map tx).map (·.length)).sum=ls.flatten.length:=by
 induction ls with
 | nil=>rfl
 | cons l ls ih=>rw [List.map_cons,List.map_cons,List.sum_cons,ih,List.flatten_cons,List.length_append,tx_len]
theorem mt_join:MtR X "str.join" (fun x xs H Q=>x=T []∧∃ (p:Addr) (ls:List (List Nat)),xs=[.ref p]∧SqL X.K H p (ls.map T)∧ls.flatten.length<=sizeLine∧Q (T ls.flatten) H):=by
 intro pins s σ H x xs v us Q I rx rs h
 obtain ⟨rfl,p,ls,rfl,hq,hz,q⟩:=h
 obtain ⟨t,rfl⟩:=rx
 obtain ⟨u,rfl,ru⟩:=vals1 rs
 cases ru
 obtain ⟨its,r,pl,_⟩:=I.list hq
 have hs:sizeLine=16777216:=sizeLine_eq
 refine join_list pl.isList (ys:=ls.map tx) (by simpa using strsAre_T r) ?_ fun t' k=>⟨T ls.flatten,H,I.tok _,⟨t',by rw [join_tx]⟩,q⟩
 rw [sum_len_tx,tx_len,List.length_nil,Nat.mul_zero]
 omega
end
end L2
namespace L2
theorem cutL_to {w:List Nat}{k:Nat}(h:k<=w.length):cutL w none (some (k:Int))=w.take k:=by
 unfold cutL
 rw [HT.sIx_nat,HT.sIx_none,Nat.min_eq_left h,List.drop_zero,Nat.sub_zero]
end L2
namespace L2
open PySem PySem.Spec PyProof.Rows
set_option genInjectivity false in
structure CompSc (N N':List Str)(sc scope:Scope)(x:Str):Prop where
 kind:scope.kind = .function
 cell:∀ y∈scope.names,y.2≠.cell
 names:∀ y∈scope.names,y.2 = .local->scope.names.lookup y.1=some .local
 var:scope.names.lookup x=some .local
 ok:∀ y∈scope.names,y.2 = .free->sc.names.lookup y.1=some .cell∨sc.names.lookup y.1=some .free
 hd:N'[0]?=some x
 len:N'.length=N.length+1
 sub:∀ i,i<N.length->N'[i+1]?=N[i]?∨(N'[i+1]?.map fun y=>scope.names.lookup y)=some none
 noe:scope.names.lookup ("" : Str)=none
 nol:∀ y∈N'.tail,scope.names.lookup y≠some .local
 nd:N'.Nodup
def closOf (cells:List (Str×Addr)):List (Str×NameKind)->List (Str×Addr)->List (Str×Addr)
 | [],acc=>acc
 | (n,k)::r,acc=>closOf cells r (if k == .free then (n,(cells.lookup n).getD 0)::acc else acc)
theorem clos_sound {cells:List (Str×Addr)}{y:Str}{c:Addr}:∀ (names:List (Str×NameKind)) (acc:List (Str×Addr)),(∀ z∈names,z.2 = .free->∃ c,cells.lookup z.1=some c) ->
  (acc.lookup y=some c->cells.lookup y=some c)->(closOf cells names acc).lookup y=some c->cells.lookup y=some c
 | [],acc,_,ha,h=>ha h
 | (n,k)::r,acc,hz,ha,h=>by
  unfold closOf at h
  refine clos_sound r _ (fun z hm=>hz z (List.mem_cons_of_mem _ hm)) (fun q=>?_) h
  split at q
  ·rename_i hk
   obtain ⟨c',e⟩:=hz (n,k) List.mem_cons_self (by simpa using hk)
   rw [List.lookup_cons] at q
   split at q
   ·rename_i he
    have:y=n:=by simpa using he
    subst this
    rw [e] at q
    rw [e]
    exact q
   ·exact ha q
  ·exact ha q
theorem clos_acc {cells:List (Str×Addr)}{y:Str}:∀ (names:List (Str×NameKind)) (acc:List (Str×Addr)),(∃ c,acc.lookup y=some c)->∃ c,(closOf cells names acc).lookup y=some c
 | [],acc,h=>h
 | (n,k)::r,acc,⟨c,h⟩=>by
  unfold closOf
  refine clos_acc r _ ?_
  split
  ·rw [List.lookup_cons]
   split
   ·exact ⟨_,rfl⟩
   ·exact ⟨c,h⟩
  ·exact ⟨c,h⟩
theorem clos_has {cells:List (Str×Addr)}{y:Str}:∀ (names:List (Str×NameKind)) (acc:List (Str×Addr)),(y,NameKind.free)∈names->∃ c,(closOf cells names acc).lookup y=some c
 | (n,k)::r,acc,h=>by
  unfold closOf
  rcases List.mem_cons.mp h with e | h
  ·cases e
   refine clos_acc r _ ⟨(cells.lookup y).getD 0,?_⟩
   simp
  ·exact clos_has r _ h
theorem clos_eq {scope:Scope}{env:Env}(h:∀ z∈scope.names,z.2 = .free->∃ c,env.cells.lookup z.1=some c):closureFor scope env=pure (closOf env.cells scope.names []):=by
 have gen:∀ (names:List (Str×NameKind)) (acc:List (Str×Addr)),(∀ z∈names,z.2 = .free->∃ c,env.cells.lookup z.1=some c) ->
   (forIn names acc fun (x:Str×NameKind) (r:List (Str×Addr))=>(if (x.2==NameKind.free)=true then (do let a <- cellOf env x.1;pure (ForInStep.yield ((x.1,a)::r))) else pure (ForInStep.yield r):Sem (ForInStep (List (Str×Addr)))))=(pure (closOf env.cells names acc):Sem (List (Str×Addr))):=by
  intro names
  induction names with
  | nil=>intro acc _;rfl
  | cons z r ih =>
   intro acc hz
   obtain ⟨n,k⟩:=z
   rw [List.forIn_cons]
   unfold closOf
   by_cases hk:(k==NameKind.free)=true
   ·obtain ⟨c,e⟩:=hz (n,k) List.mem_cons_self (by simpa using hk)
    have e':env.cells.lookup n=some c:=e
    simp only [hk,if_true,cellOf,e',pure_bind,Option.getD_some]
    exact ih _ fun z hm=>hz z (List.mem_cons_of_mem _ hm)
   ·simp only [hk,Bool.false_eq_true,if_false,pure_bind]
    exact ih _ fun z hm=>hz z (List.mem_cons_of_mem _ hm)
 have g:=gen scope.names [] h
 unfold closureFor
 refine Eq.trans ?_ (congrArg (fun (m:Sem (List (Str×Addr)))=>m >>= fun cs=>pure cs) g)
 rfl
theorem relabel_lookup (scope:Scope)(env:Env)(y:Str):(relabel scope env).names.lookup y=(scope.names.lookup y).map fun k=>if (k==NameKind.free&&env.scope.kind == .function&&env.kindOf y==some .cell)=true then NameKind.cell else k:=by
 unfold relabel
 show List.lookup y (scope.names.map fun (n,k)=>if (k==NameKind.free&&env.scope.kind == .function&&env.kindOf n==some .cell)=true then (n,NameKind.cell) else (n,k))=_
 induction scope.names with
 | nil=>rfl
 | cons z r ih =>
  obtain ⟨n,k⟩:=z
  rw [List.map_cons]
  by_cases hy:(y==n)=true
  ·have e:y=n:=by simpa using hy
   subst e
   by_cases hc:(k==NameKind.free&&env.scope.kind == .function&&env.kindOf y==some .cell)=true
   ·simp only [hc,if_true,List.lookup_cons,beq_self_eq_true,Option.map_some]
   ·simp only [hc,if_false,List.lookup_cons,beq_self_eq_true,Option.map_some,Bool.false_eq_true]
  ·have hy':(y==n)=false:=by simpa using hy
   by_cases hc:(k==NameKind.free&&env.scope.kind == .function&&env.kindOf n==some .cell)=true
   ·simp only [hc,if_true,List.lookup_cons,hy']
    exact ih
   ·simp only [hc,if_false,List.lookup_cons,hy',Bool.false_eq_true]
    exact ih
theorem lookup_mem {κ:Type}:∀ {l:List (Str×κ)} {y:Str} {k:κ},l.lookup y=some k->(y,k)∈l:=fun h=>PySem.mem_of_lookup h
abbrev cxComp (X:Cx)(N':List Str)(scope:Scope)(cl:List (Str×Addr))(C:Addr)(s:Shared)(H:Hp)(fp:List Addr):Cx :=
 { X with env:=compEnvC scope cl C X.env,N:=N',s₀:=s,H₀:=H,outer:=X.stack,stack:=X.stack,ex:=fp,fn:=fun _=>false,xe:=fun _ _=>False }
abbrev tstF (cds:List Expr)(env:Env):Sem Bool:=forIn cds true fun c r=>if r=true then do let ok <- isTrue c env (eval c env);pure (ForInStep.yield ok) else pure (ForInStep.yield r)
def PTL (X:Cx)(cds:List Expr)(t:TT):Prop :=
 ∀ (pins:List (Addr×Obj)) (s:Shared) (σ:St) (H:Hp) (Q:Bool->Hp->Prop),Inv X pins σ H s->t σ H Q->wpAny (model X.prog X.w) X.A (tstF cds X.env) (TP X pins σ Q) X.xe s
theorem ptl_nil {X:Cx}:PTL X [] (fun _ H k=>k true H):=fun pins s σ H Q I q=>wpAny_tests_nil ⟨H,I,q⟩
theorem ptl_one {X:Cx}{cd:Expr}{tc:TT}(h:PT X cd tc):PTL X [cd] tc:=fun pins s σ H Q I q=>wpAny_tests_one (h pins s σ H Q I q)
theorem codeAny_compLoop_ts {prog:Program}{w:World}{A:Around}{R:Result->Shared->Prop}{s:Shared}{elt target iter:Expr}{cds:List Expr}{scope:Scope}{pos:Pos}{it acc:Value}{env:Env}(I:Nat->Shared->Prop)
  (turn:∀ n s,I n s->wpAny (model prog w) A (pyNext it) (fun r s₁=>match r with
   | none=>R (.ok .next) s₁
   | some v=>wpAny (model prog w) A (letOwnedTupleGo target it v) (fun _ s₁'=>wpAny (model prog w) A (assign target env v) (fun _ s₂=>wpAny (model prog w) A (tstF cds env) (fun ok s₂' =>
    if ok=true then wpAny (model prog w) A (eval elt env) (fun x s₃ =>
     wpAny (model prog w) A (call (.builtin "list.append") [acc,x]) (fun _ s₄=>∃ m,m<n∧I m s₄) (fun _ _=>False) s₃) (fun _ _=>False) s₂'
    else ∃ m,m<n∧I m s₂') (fun _ _=>False) s₂) (fun _ _=>False) s₁') (fun _ _=>False) s₁) (fun _ _=>False) s)
  (n:Nat) (h:I n s) :
  codeAny (model prog w) A (.compLoop (.ListComp elt [⟨target,iter,cds,0⟩] scope pos) 0 it acc env) R s:=by
 refine codeAny_loop rfl I (fun n s hI=>?_) n h
 show wpAny _ A ((compTurn (.ListComp elt [⟨target,iter,cds,0⟩] scope pos) 0 it acc env).onRaise (fun x=>do noteFrame x env;theTreesLotGoes x)) _ _ s
 refine wpAny_noted ?_
 rw [compTurn_list]
 refine wpAny_bind (wpAny_standAt (wpAny_bind (wpAny_mono (turn n s hI) (fun r s₁ h₁=>?_) fun _ _ h'=>h'.elim)))
 cases r with
 | none=>exact wpAny_pure h₁
 | some v =>
  refine wpAny_bind (wpAny_mono h₁ (fun _ s₀ h₀=>?_) fun _ _ h'=>h'.elim)
  refine wpAny_bind (wpAny_mono h₀ (fun _ s₂ h₂=>?_) fun _ _ h'=>h'.elim)
  refine wpAny_bind ((wpAny_mono h₂ (fun ok s₃ h₃=>?_) fun _ _ h'=>h'.elim))
  cases ok with
  | false=>exact wpAny_pure ⟨rfl,by simpa using h₃⟩
  | true =>
   have h₃':=h₃
   simp only [if_true] at h₃'
   exact wpAny_bind (wpAny_bind (wpAny_mono h₃' (fun x s₄ h₄=>wpAny_bind (wpAny_mono h₄ (fun _ s₅ h₅=>wpAny_pure (wpAny_pure ⟨rfl,h₅⟩)) fun _ _ h'=>h'.elim)) fun _ _ h'=>h'.elim))
def compAt (te:TE)(σ:St)(Q:VK)(J:It)(H1:Hp):Prop:=∀ D,H1 D=none->∃ W:Nat->Nat->List V->Hp->Prop,(∃ m,W 0 m [] (upd H1 D (.lst [])))∧∀ i m ys H2,W i m ys H2 ->
 (J.stop i H2∧Q (.ref D) H2)∨(J.go i H2∧ys.length<sizeLine∧∃ N:V->Hp->Prop,(∀ v H',N v H'->H' D=some (.lst ys)∧∃ m',m'<m∧W (i+1) m' (ys++[v]) (upd H' D (.lst (ys++[v])))) ∧
  ∀ y H',J.yld i H2 y H'->te (some y::σ) H' N)
def tComp (wi:TI)(te:TE):TE:=fun σ H Q=>wi σ H (compAt te σ Q)
def compAtF (tc:TT)(te:TE)(σ:St)(Q:VK)(J:It)(H1:Hp):Prop:=∀ D,H1 D=none->∃ W:Nat->Nat->List V->Hp->Prop,(∃ m,W 0 m [] (upd H1 D (.lst [])))∧∀ i m ys H2,W i m ys H2 ->
 (J.stop i H2∧Q (.ref D) H2)∨(J.go i H2∧ys.length<sizeLine∧∃ N:V->Hp->Prop,(∀ v H',N v H'->H' D=some (.lst ys)∧∃ m',m'<m∧W (i+1) m' (ys++[v]) (upd H' D (.lst (ys++[v])))) ∧
  ∃ Nn:Hp->Prop,(∀ H',Nn H'->∃ m',m'<m∧W (i+1) m' ys H') ∧
  ∀ y H',J.yld i H2 y H'->tc (some y::σ) H' fun b H''=>if b=true then te (some y::σ) H'' N else Nn H'')
def tCompF (wi:TI)(tc:TT)(te:TE):TE:=fun σ H Q=>wi σ H (compAtF tc te σ Q)
section
variable {X:Cx}{N':List Str}{scope:Scope}{x:Str}{px:Pos}{elt iter:Expr}{cds:List Expr}{pos:Pos}{te:TE}{tc:TT}{wi:TI}
theorem compx_core (S:CompSc X.N N' X.env.scope scope x)(hc:X.calm=true)(ht:∀ cl C s H fp,PTL (cxComp X N' scope cl C s H fp) cds tc)(he:∀ cl C s H fp,PE (cxComp X N' scope cl C s H fp) elt te)
  {pins:List (Addr×Obj)} {σ:St} {H:Hp} {s:Shared} {Q:VK} {E:Value->Shared->Prop} {RR:Value->Addr->Result->Shared->Prop} {it:Addr} {fp:List Addr} {tn:Nat->Heap->Prop} {J:It}
  (I:Inv X pins σ H s) (T:Turn X.prog X.w X.K (.Name x px) J fp it tn) (st:tn 0 s.heap) (f2:∀ b∈fp,FpOk X pins H b)
  (hw:compAtF tc te σ Q J H)
  (hRR:∀ D C s' H',Inv X pins σ H' s'->(∃ m,s'.heap.Ns C m)->C≠X.env.locals->(∀ y c,X.env.cells.lookup y=some c->c≠C)->H' C=none->X.s₀.heap.objs.size<=C->(∀ p∈X.pn++pins,p.1≠C)->Q (.ref D) H'->RR (.ref D) C (.ok .next) s') :
  ∃ cl,closureFor scope X.env=pure cl∧wpAny (model X.prog X.w) X.A (newList []) (fun acc s₃=>wpAny (model X.prog X.w) X.A (newFunctionEnv scope X.env.globals cl [] X.env.qual none .none (some X.env)) (fun cenv s₄ =>
   codeAny (model X.prog X.w) X.A (.compStart (.ListComp elt [⟨.Name x px,iter,cds,0⟩] scope pos) 0 (.ref it) acc { cenv with scope:=relabel scope X.env }) (RR acc cenv.locals) s₄) E s₃) E s:=by
 have hfree:∀ z∈scope.names,z.2 = .free->∃ c,X.env.cells.lookup z.1=some c:=fun z hz hk=>by
  rcases S.ok z hz hk with q | q
  ·exact I.ok.has z.1 (.inl q)
  ·exact I.ok.has z.1 (.inr q)
 refine ⟨_,clos_eq hfree,?_⟩
 have clS:∀ y c,(closOf X.env.cells scope.names []).lookup y=some c->X.env.cells.lookup y=some c:=fun y c=>clos_sound scope.names [] hfree fun q=>by cases q
 generalize hcl:closOf X.env.cells scope.names []=cl at clS
 have clH:∀ y,scope.names.lookup y=some .free->∃ c,cl.lookup y=some c:=fun y hy=>by
  rw [<- hcl]
  exact clos_has scope.names [] (lookup_mem hy)
 refine wpAny_newObj_type (wpAny_newFunctionEnv S.cell (by intro y hy;simp at hy) (fun h₁ hns₁ hsb₁=>?_) S.kind)
 have I3:Inv X pins σ (upd H s.heap.objs.size (.lst [])) { s with heap:=s.heap.push { cls:=.type "list",data:=.seq ([]:List Value).toArray } }:=I.lnew (t':=s.toks) .nil (Nat.zero_le _)
 obtain ⟨W,⟨m0,w0⟩,turn⟩:=hw s.heap.objs.size I.fresh
 dsimp only at hns₁ hsb₁ ⊢
 generalize hs3:({ s with heap:=s.heap.push { cls:=.type "list",data:=.seq ([]:List Value).toArray } }:Shared)=s3 at I3
 have hh3:s3.heap=s.heap.push { cls:=.type "list",data:=.seq ([]:List Value).toArray }:=by rw [<- hs3]
 have hsz3:s3.heap.objs.size=s.heap.objs.size+1:=by rw [hh3,Heap.size_push]
 rw [<- hh3] at hns₁ hsb₁ ⊢
 have old:∀ b o,s3.heap.get? b=some o->h₁.get? b=some o:=fun b o e=>hsb₁.extBut b o (by have:=Heap.lt_size e;exact Nat.ne_of_lt this) (Heap.get?_push_of_some _ e)
 have old0:∀ b o,s.heap.get? b=some o->h₁.get? b=some o:=fun b o e=>old b o (by rw [hh3];exact Heap.get?_push_of_some _ e)
 have CneL:s3.heap.objs.size≠X.env.locals:=Nat.ne_of_gt I3.lt
 have CneC:∀ y c,X.env.cells.lookup y=some c->c≠s3.heap.objs.size:=fun y c e z=>by
  obtain ⟨v,q⟩:=I3.cell y c e
  have:=q.lt
  rw [z] at this
  exact absurd this (Nat.lt_irrefl _)
 have CneP:∀ p∈X.pn++pins,p.1≠s3.heap.objs.size:=fun p hp z=>by
  have:=Heap.lt_size (I3.pin p hp).1
  rw [z] at this
  exact absurd this (Nat.lt_irrefl _)
 have CfreeH:∀ b o,s3.heap.get? b=some o->b<s3.heap.objs.size:=fun b o e=>by have:=Heap.lt_size e;exact this
 have fpLt:∀ b∈fp,b<s3.heap.objs.size:=fun b hb=>by
  obtain ⟨o,e,_⟩:=T.obj 0 s.heap st b hb
  rw [hsz3]
  exact Nat.lt_succ_of_lt (Heap.lt_size e)
 have fpD:∀ b∈fp,b≠s.heap.objs.size:=fun b hb=>by
  obtain ⟨o,e,_⟩:=T.obj 0 s.heap st b hb
  exact Nat.ne_of_lt (Heap.lt_size e)
 have ok':(cxComp X N' scope cl s3.heap.objs.size s3 (upd H s.heap.objs.size (.lst [])) fp).Ok:=by
  refine ⟨I3.ok.mod,?_,I3.ok.glob,I3.ok.blt,Nat.le_refl _,fun y z c h1 h2=>I3.ok.inj y z c (clS y c h1) (clS z c h2),fun y hy=>?_,fun y c hf=>(by cases hf),I3.ok.hd,I3.ok.frames,.inl rfl,fun b hb=>⟨Nat.ne_of_lt (fpLt b hb),fun y c e=>(f2 b hb).2.2.2.2.1 y c (clS y c e)⟩,
   fun b o e=>I3.bs b o e,Nat.le_trans I3.ok.bsz I3.sz,fun b o e hb=>?_,fun b hb z=>?_,I3.stack,I3.stkFree⟩
  ·show (relabel scope X.env).kind = .function
   exact S.kind
  ·have hy':(relabel scope X.env).names.lookup y=some .cell∨(relabel scope X.env).names.lookup y=some .free:=hy
   rw [relabel_lookup] at hy'
   cases q:scope.names.lookup y with
   | none=>rw [q] at hy';rcases hy' with z | z <;> cases z
   | some k =>
    have hm:=lookup_mem q
    cases k with
    | free=>exact clH y q
    | cell=>exact absurd rfl (S.cell _ hm)
    | «local» => rw [q] at hy';rcases hy' with z | z <;> simp at z
    | globalExplicit=>rw [q] at hy';rcases hy' with z | z <;> simp at z
    | globalImplicit=>rw [q] at hy';rcases hy' with z | z <;> simp at z
  ·rcases (f2 b hb).2.2.2.1 with z | z
   ·exact I.ok.noex b o e z
   ·exact absurd (Nat.lt_of_lt_of_le (Heap.lt_size e) (Nat.le_trans I.ok.bsz z)) (Nat.lt_irrefl _)
  ·rcases List.mem_cons.mp (I3.stkSub b z) with q | q
   ·exact (f2 b hb).2.1 q
   ·exact (f2 b hb).2.2.1 q
 have fpOk':∀ {H':Hp},(∀ b∈fp,H' b=none)->∀ b∈fp,FpOk (cxComp X N' scope cl s3.heap.objs.size s3 (upd H s.heap.objs.size (.lst [])) fp) pins H' b:=fun hn b hb =>
  ⟨hn b hb,Nat.ne_of_lt (fpLt b hb),fun z=>by
   rcases List.mem_cons.mp (I3.stkSub b z) with q | q
   ·exact (f2 b hb).2.1 q
   ·exact (f2 b hb).2.2.1 q,.inl hb,fun y c e=>(f2 b hb).2.2.2.2.1 y c (clS y c e),(f2 b hb).2.2.2.2.2⟩
 have I4:Inv (cxComp X N' scope cl s3.heap.objs.size s3 (upd H s.heap.objs.size (.lst [])) fp) pins (none::σ) (upd H s.heap.objs.size (.lst [])) { s3 with heap:=h₁,toks:=s3.toks+([]:List (Str×Value)).length }:=by
  refine ⟨ok',rfl,I3.bare,Un.kept old,⟨_,hns₁,fun i y v e1 e2 vis=>?_⟩,fun y c e=>?_,?_,fun y c e=>I3.freeC y c (clS y c e),fun p hp=>?_,I3.hok.kept old,?_⟩
  ·cases i with
   | zero=>cases e2
   | succ i =>
    have e2':σ[i]?=some (some v):=by simpa using e2
    have hi:i<X.N.length:=by rw [<- I3.len];exact (List.getElem?_eq_some_iff.mp e2').1
    have vis':(relabel scope X.env).names.lookup y=some .local∨(relabel scope X.env).names.lookup y=some .cell∨(relabel scope X.env).names.lookup y=some .free:=vis
    have e1':N'[i+1]?=some y:=e1
    rcases S.sub i hi with q | q
    ·rw [e1'] at q
     have hy:X.N[i]?=some y:=q.symm
     have hmem:y∈N'.tail:=by
      rw [List.mem_iff_getElem?]
      exact ⟨i,by rw [List.getElem?_tail];exact e1'⟩
     have hfr:scope.names.lookup y=some .free:=by
      rw [relabel_lookup] at vis'
      cases q2:scope.names.lookup y with
      | none=>rw [q2] at vis';rcases vis' with z | z | z <;> cases z
      | some k =>
       cases k with
       | free=>rfl
       | cell=>exact absurd rfl (S.cell _ (lookup_mem q2))
       | «local» => exact absurd q2 (S.nol y hmem)
       | globalExplicit=>rw [q2] at vis';rcases vis' with z | z | z <;> simp at z
       | globalImplicit=>rw [q2] at vis';rcases vis' with z | z | z <;> simp at z
     have hok:=S.ok (y,.free) (lookup_mem hfr) rfl
     obtain ⟨m,hn,hl⟩:=I3.loc
     have visX:Vis X.env.scope y:=by
      rcases hok with z | z
      ·exact .inr (.inl z)
      ·exact .inr (.inr z)
     obtain ⟨u,r,l⟩:=hl i y v hy e2' visX
     refine ⟨u,r,.inr ⟨?_,?_⟩⟩
     ·show (relabel scope X.env).names.lookup y=some .cell∨(relabel scope X.env).names.lookup y=some .free
      rw [relabel_lookup,hfr,Option.map_some]
      by_cases hcnd:(NameKind.free==NameKind.free&&X.env.scope.kind == .function&&X.env.kindOf y==some .cell)=true
      ·left
       rw [if_pos hcnd]
      ·right
       rw [if_neg hcnd]
     ·rcases l with ⟨k,_⟩ | ⟨k,c,e,z⟩
      ·have k':X.env.scope.names.lookup y=some .local:=k
       have hok':X.env.scope.names.lookup y=some .cell∨X.env.scope.names.lookup y=some .free:=hok
       rw [k'] at hok'
       rcases hok' with z | z <;> cases z
      ·obtain ⟨c',e'⟩:=clH y hfr
       have e3:=clS y c' e'
       rw [e] at e3
       cases e3
       obtain ⟨o,ho,hd⟩:=z
       exact ⟨c,e',o,old c o ho,hd⟩
    ·rw [e1'] at q
     have q:scope.names.lookup y=none:=Option.some.inj q
     rw [relabel_lookup,q] at vis'
     rcases vis' with z | z | z <;> cases z
  ·obtain ⟨v,o,ho,hd⟩:=I3.cell y c (clS y c e)
   exact ⟨v,o,old c o ho,hd⟩
  ·show upd H s.heap.objs.size (.lst []) s3.heap.objs.size=none
   exact I3.hok.fresh (Nat.le_refl _)
  ·obtain ⟨e,n,ne,nf,d⟩:=I3.pin p hp
   refine ⟨old _ _ e,n,CneP p hp,fun z=>?_,d⟩
   rcases List.mem_cons.mp (I3.stkSub p.1 z) with q | q
   ·exact ne q
   ·exact nf q
  ·show (none::σ).length=N'.length
   rw [S.len,List.length_cons,I3.len]
 have st4:tn 0 h₁:=T.keep 0 s.heap h₁ st fun b _ o e=>old0 b o e
 have loop:∀ s₄:Shared,s₄ = { s3 with heap:=h₁,toks:=s3.toks+([]:List (Str×Value)).length } ->
   codeAny (model X.prog X.w) X.A (.compLoop (.ListComp elt [⟨.Name x px,iter,cds,0⟩] scope pos) 0 (.ref it) (.ref s.heap.objs.size) (compEnvC scope cl s3.heap.objs.size X.env)) (RR (.ref s.heap.objs.size) s3.heap.objs.size) s₄:=by
  rintro s₄ rfl
  refine codeAny_compLoop_ts (fun n s'=>∃ i v0 ys H',Inv (cxComp X N' scope cl s3.heap.objs.size s3 (upd H s.heap.objs.size (.lst [])) fp) pins (v0::σ) H' s'∧tn i s'.heap∧(∀ b∈fp,H' b=none)∧W i n ys H') ?_ m0
   ⟨0,none,[],_,I4,st4,fun b hb=>by rw [upd_ne (fpD b hb)];exact (f2 b hb).1,w0⟩
  rintro n s5 ⟨i,v0,ys,H5,I5,st5,fr5,w5⟩
  rcases turn i n ys H5 w5 with ⟨stop,qn⟩ | ⟨go,hz,N,hN,Nn,hNn,step⟩
  ·refine thn (T.done (cxComp X N' scope cl s3.heap.objs.size s3 (upd H s.heap.objs.size (.lst [])) fp) rfl rfl rfl hc i pins s5 (v0::σ) H5 (fun _ _=>False) I5 (fpOk' fr5) st5 stop) fun r s6 ⟨hr,I6⟩=>?_
   subst hr
   have hch:∀ b∈fp,(b∈X.ex∨X.s₀.heap.objs.size<=b)∧b≠X.env.locals∧(∀ x c,X.env.cells.lookup x=some c->c≠b)∧∀ p∈X.pn++pins,p.1≠b:=fun b hb =>
    ⟨(f2 b hb).2.2.2.1,(f2 b hb).2.1,(f2 b hb).2.2.2.2.1,(f2 b hb).2.2.2.2.2⟩
   have I7:Inv X pins σ H5 s6:=I3.call' (ch:=fp) I6.os I6.base I6.hok I6.bare hch
   obtain ⟨m,hm,_⟩:=I6.loc
   exact hRR s.heap.objs.size s3.heap.objs.size s6 H5 I7 ⟨m,hm⟩ CneL CneC I6.free (Nat.le_trans I3.sz (Nat.le_refl _)) CneP qn
  ·refine thn (T.item (cxComp X N' scope cl s3.heap.objs.size s3 (upd H s.heap.objs.size (.lst [])) fp) rfl rfl rfl hc i pins s5 (v0::σ) H5 (fun _ _=>False) I5 (fpOk' fr5) st5 go) fun r s6 ⟨u,hr,h6⟩=>?_
   subst hr
   refine thn h6 fun _ s7 ⟨y,H7,I7,r7,y7,st7,fr7⟩=>?_
   have I7':=I7.pinned (fpOk' fr7) (T.obj _ _ st7)
   refine wpAny_assign_Name (store_ok (i:=0) (v:=y) I7' S.nd S.hd (.inl (lookup_relabel_local S.var)) r7 (fun s8 I8=>?_) (.inr (lookup_relabel_local S.var)))
   have I8':Inv (cxComp X N' scope cl s3.heap.objs.size s3 (upd H s.heap.objs.size (.lst [])) fp) (pins++pinsAt fp s7.heap) (some y::σ) H7 s8:=I8
   refine thn (ht cl s3.heap.objs.size s3 (upd H s.heap.objs.size (.lst [])) fp _ s8 (some y::σ) H7 (fun b H''=>if b=true then te (some y::σ) H'' N else Nn H'') I8' (step y H7 y7)) fun okb s8 ⟨H8,I8,q8⟩=>?_
   cases okb with
   | false =>
    have q8':Nn H8:=by simpa using q8
    obtain ⟨m',hm,w9⟩:=hNn H8 q8'
    refine ⟨m',hm,i+1,some y,ys,_,I8.unpinned,T.keep _ _ _ st7 fun b hb o e=>(I8.pin (b,o) (List.mem_append_right _ (List.mem_append_right _ (mem_pinsAt hb e)))).1,fun b hb=>?_,w9⟩
    obtain ⟨o,e,d⟩:=T.obj _ _ st7 b hb
    exact (I8.pin (b,o) (List.mem_append_right _ (List.mem_append_right _ (mem_pinsAt hb e)))).2.1
   | true =>
    refine thn (he cl s3.heap.objs.size s3 (upd H s.heap.objs.size (.lst [])) fp _ s8 (some y::σ) H8 N I8 (by simpa using q8)) fun w s9 ⟨v,H9,I9,r9,q9⟩=>?_
    obtain ⟨hD9,m',hm,w9⟩:=hN v H9 q9
    refine thn (mt_append _ s9 (some y::σ) H9 (.ref s.heap.objs.size) [v] (.ref s.heap.objs.size) [w] (fun z H10=>z = .non∧H10=upd H9 s.heap.objs.size (.lst (ys++[v]))) I9 rfl (.cons r9 .nil) ⟨s.heap.objs.size,ys,v,rfl,rfl,hD9,hz,rfl,rfl⟩) fun _ s10 ⟨z,H10,I10,_,ez,e10⟩=>?_
    subst e10
    refine ⟨m',hm,i+1,some y,ys++[v],_,I10.unpinned,T.keep _ _ _ st7 fun b hb o e=>(I10.pin (b,o) (List.mem_append_right _ (List.mem_append_right _ (mem_pinsAt hb e)))).1,fun b hb=>?_,w9⟩
    obtain ⟨o,e,d⟩:=T.obj _ _ st7 b hb
    exact (I10.pin (b,o) (List.mem_append_right _ (List.mem_append_right _ (mem_pinsAt hb e)))).2.1
 exact codeAny_compStart_list (loop _ (by rw [<- hs3])) (T.self X.A 0 _ _ _ st4 (loop _ (by rw [<- hs3])))
theorem compAt.toF {te:TE}{σ:St}{Q:VK}{J:It}{H:Hp}(hw:compAt te σ Q J H):compAtF (fun _ H k=>k true H) te σ Q J H:=fun D hD=>by
 obtain ⟨W,h0,hW⟩:=hw D hD
 refine ⟨W,h0,fun i m ys H2 hw2=>?_⟩
 rcases hW i m ys H2 hw2 with g | ⟨g1,g2,N,g3,g4⟩
 ·exact .inl g
 ·exact .inr ⟨g1,g2,N,g3,fun _=>False,fun _ z=>z.elim,fun y H' hy=>iteT (g4 y H' hy)⟩
theorem pe_compx {at':St->VK->It->Hp->Prop}(S:CompSc X.N N' X.env.scope scope x)(hc:X.calm=true)(hi:PI X (.Name x px) iter wi)(ht:∀ cl C s H fp,PTL (cxComp X N' scope cl C s H fp) cds tc)(he:∀ cl C s H fp,PE (cxComp X N' scope cl C s H fp) elt te)(cv:∀ σ Q J H,at' σ Q J H->compAtF tc te σ Q J H)
  (hs:∀ x,foldedSetIterable iter X.env x=pure x:=by intro _;rfl):PE X (.ListComp elt [⟨.Name x px,iter,cds,0⟩] scope pos) (fun σ H Q=>wi σ H (at' σ Q)):=by
 intro pins s σ H Q I h
 rw [eval_ListComp]
 have hfree:∀ z∈scope.names,z.2 = .free->∃ c,X.env.cells.lookup z.1=some c:=fun z hz hk=>by
  rcases S.ok z hz hk with q | q
  ·exact I.ok.has z.1 (.inl q)
  ·exact I.ok.has z.1 (.inr q)
 refine wpAny_comprehension_free (use:=none) rfl hs (clos_eq hfree) S.kind S.names (thn (hi pins s σ H _ I h) fun xv s1 h1=>thn h1 fun itv s2 h2=>?_)
 obtain ⟨it,fp,tn,J,H2,e,I2,T,st2,f2,hw⟩:=h2
 subst e
 obtain ⟨cl,hcl,hrun⟩:=compx_core (tc:=tc) (cds:=cds) (elt:=elt) (iter:=iter) (pos:=pos) (px:=px) (E:=X.xe) (RR:=fun acc C=>compPost (model X.prog X.w) X.A X.xe none (EP X pins σ Q) acc C) S hc ht he I2 T st2 f2 (cv _ _ _ _ hw) (fun D C s' H' I' ⟨m,hm⟩ n1 n2 n3 n4 n5 q =>
  ⟨m,hm,fun h' hsb=>⟨.ref D,H',I'.turned (it:=C) (t':=s'.toks) (fun b o hb e=>(hsb.2 b hb).trans e) n3 n1 (.inr n4) n2 n5,rfl,q⟩⟩)
 have ecl:(pure (closOf X.env.cells scope.names []):Sem (List (Str×Addr)))=pure cl:=(clos_eq hfree).symm.trans hcl
 have ecl':closOf X.env.cells scope.names []=cl:=by
  injection ecl
 rw [ecl']
 exact hrun
theorem ps_setCompx {at':St->VK->It->Hp->Prop}{i:Nat}{y:Str}{py spos:Pos}(S:CompSc X.N N' X.env.scope scope x)(hc:X.calm=true)(hi:PI X (.Name x px) iter wi)(ht:∀ cl C s H fp,PTL (cxComp X N' scope cl C s H fp) cds tc)(he:∀ cl C s H fp,PE (cxComp X N' scope cl C s H fp) elt te)(cv:∀ σ Q J H,at' σ Q J H->compAtF tc te σ Q J H)
  (hN:X.N.Nodup) (hy:X.N[i]?=some y) (hyl:X.env.scope.names.lookup y=some .local)
  (hsw:swapsWith (.ListComp elt [⟨.Name x px,iter,cds,0⟩] scope pos) (some (.Name y py)) spos.line X.env=pure true:=by rfl)
  (hs:∀ x,foldedSetIterable iter X.env x=pure x:=by intro _;rfl):PS X (.Assign [.Name y py] (.ListComp elt [⟨.Name x px,iter,cds,0⟩] scope pos) spos) (tAsg (fun σ H Q=>wi σ H (at' σ Q)) (gName i)):=by
 intro pins s σ H D0 I h
 have hfree:∀ z∈scope.names,z.2 = .free->∃ c,X.env.cells.lookup z.1=some c:=fun z hz hk=>by
  rcases S.ok z hz hk with q | q
  ·exact I.ok.has z.1 (.inl q)
  ·exact I.ok.has z.1 (.inr q)
 rw [exec_Assign_Name_used _ _ _ _ hsw]
 refine wpAny_bind (wpAny_standAt (wpAny_bind ?_))
 show wpAny _ X.A (do let _ <- comprehension (.ListComp elt [⟨.Name x px,iter,cds,0⟩] scope pos) scope X.env _ (newList []) false (eval iter X.env) (some (assign (.Name y py) X.env))) _ _ s
 refine wpAny_bind (wpAny_mono (wpAny_comprehension_free (use:=some (assign (.Name y py) X.env)) (Q:=fun _ s'=>SP X pins D0 .next s') rfl hs (clos_eq hfree) S.kind S.names
  (thn (hi pins s σ H _ I h) fun xv s1 h1=>thn h1 fun itv s2 h2=>?_)) (fun _ s' hq=>wpAny_pure (wpAny_pure hq)) fun _ _ e=>e)
 obtain ⟨it,fp,tn,J,H2,e,I2,T,st2,f2,hw⟩:=h2
 subst e
 obtain ⟨cl,hcl,hrun⟩:=compx_core (tc:=tc) (cds:=cds) (elt:=elt) (iter:=iter) (pos:=pos) (px:=px) (E:=X.xe) (Q:=fun x H1=>gName i x σ H1 D0.nx) (RR:=fun acc C=>compPost (model X.prog X.w) X.A X.xe (some (assign (.Name y py) X.env)) (fun _ s'=>SP X pins D0 .next s') acc C) S hc ht he I2 T st2 f2 (cv _ _ _ _ hw) (fun D C s' H' I' ⟨m,hm⟩ n1 n2 n3 n4 n5 q=>by
  show wpAny _ X.A (assign (.Name y py) X.env (.ref D)) _ _ _
  refine wpAny_assign_Name (store_ok2 (i:=i) (v:=.ref D) I' hN hy (.inl hyl) rfl (fun s'' I'' ⟨a,hsa,hwa⟩=>?_) (.inr hyl))
  have haC:C≠a:=by
   rcases hwa with z | z
   ·rw [z];exact n1
   ·intro z2
    exact n2 y a z z2.symm
  refine ⟨m,hm.sameBut hsa haC,fun h' hsb=>?_⟩
  exact ⟨_,H',I''.turned (it:=C) (t':=s''.toks) (fun b o hb e=>(hsb.2 b hb).trans e) n3 n1 (.inr n4) n2 n5,q⟩)
 have ecl:(pure (closOf X.env.cells scope.names []):Sem (List (Str×Addr)))=pure cl:=(clos_eq hfree).symm.trans hcl
 have ecl':closOf X.env.cells scope.names []=cl:=by
  injection ecl
 rw [ecl']
 exact hrun
theorem pe_comp (S:CompSc X.N N' X.env.scope scope x)(hc:X.calm=true)(hi:PI X (.Name x px) iter wi)(he:∀ cl C s H fp,PE (cxComp X N' scope cl C s H fp) elt te)
  (hs:∀ x,foldedSetIterable iter X.env x=pure x:=by intro _;rfl):PE X (.ListComp elt [⟨.Name x px,iter,[],0⟩] scope pos) (tComp wi te) :=
 pe_compx (at':=fun σ Q=>compAt te σ Q) S hc hi (fun _ _ _ _ _=>ptl_nil) he (fun _ _ _ _ h=>h.toF) hs
theorem ps_setComp {i:Nat}{y:Str}{py spos:Pos}(S:CompSc X.N N' X.env.scope scope x)(hc:X.calm=true)(hi:PI X (.Name x px) iter wi)(he:∀ cl C s H fp,PE (cxComp X N' scope cl C s H fp) elt te)
  (hN:X.N.Nodup) (hy:X.N[i]?=some y) (hyl:X.env.scope.names.lookup y=some .local)
  (hsw:swapsWith (.ListComp elt [⟨.Name x px,iter,[],0⟩] scope pos) (some (.Name y py)) spos.line X.env=pure true:=by rfl)
  (hs:∀ x,foldedSetIterable iter X.env x=pure x:=by intro _;rfl):PS X (.Assign [.Name y py] (.ListComp elt [⟨.Name x px,iter,[],0⟩] scope pos) spos) (tAsg (tComp wi te) (gName i)) :=
 ps_setCompx (at':=fun σ Q=>compAt te σ Q) S hc hi (fun _ _ _ _ _=>ptl_nil) he (fun _ _ _ _ h=>h.toF) hN hy hyl hsw hs
end
theorem comp_range {lo:Int}{n:Nat}{te:TE}{σ:St}{H:Hp}{Q:VK}(f:Nat->V)(hn:n<=sizeLine)
  (he:∀ i H',i<n->Same H H'->∀ N:V->Hp->Prop,(∀ H'',Same H' H''->N (f i) H'')->te (some (.int (lo+i))::σ) H' N)
  (hq:∀ D H',H D=none->Same H H'->H' D=some (.lst ((List.range n).map f))->Q (.ref D) H') :
  compAt te σ Q (Itr lo n) H:=by
 intro D hD
 refine ⟨fun i m ys H2=>m=n-i∧i<=n∧ys=(List.range i).map f∧Same H H2∧H2 D=some (.lst ys),⟨n,rfl,Nat.zero_le _,rfl,fun b o e=>?_,upd_same⟩,?_⟩
 ·rw [upd_ne (ne_of_none e hD)]
  exact e
 ·rintro i m ys H2 ⟨rfl,hi,rfl,hs,hd⟩
  by_cases hlt:i<n
  ·refine .inr ⟨hlt,by rw [List.length_map,List.length_range];omega,fun v H'=>v=f i∧Same H2 H',fun v H' ⟨ev,hs'⟩=>⟨hs' D _ hd,n-(i+1),by omega,rfl,hlt,?_,fun b o e=>?_,upd_same⟩,fun y H' hy=>?_⟩
   ·rw [ev,List.range_succ,List.map_append]
    rfl
   ·rw [upd_ne (ne_of_none e hD)]
    exact hs' b o (hs b o e)
   ·obtain ⟨e1,e2⟩:=hy
    subst e1 e2
    exact he i _ hlt hs _ fun H'' h''=>⟨rfl,h''⟩
  ·have e:i=n:=by omega
   subst e
   exact .inl ⟨Nat.le_refl _,hq D H2 hD hs hd⟩
theorem comp_list {K:PySem.W.Frag}{a:Addr}{xs:List V}{te:TE}{σ:St}{H:Hp}{Q:VK}(f:Nat->V)(hl:SqL K H a xs)(hn:xs.length<=sizeLine)
  (he:∀ i x H',xs[i]?=some x->Same H H'->∀ N:V->Hp->Prop,(∀ H'',Same H' H''->N (f i) H'')->te (some x::σ) H' N)
  (hq:∀ D H',H D=none->Same H H'->H' D=some (.lst ((List.range xs.length).map f))->Q (.ref D) H') :
  compAt te σ Q (Itl K a) H:=by
 intro D hD
 refine ⟨fun i m ys H2=>m=xs.length-i∧i<=xs.length∧ys=(List.range i).map f∧Same H H2∧H2 D=some (.lst ys),⟨xs.length,rfl,Nat.zero_le _,rfl,fun b o e=>?_,upd_same⟩,?_⟩
 ·rw [upd_ne (ne_of_none e hD)]
  exact e
 ·rintro i m ys H2 ⟨rfl,hi,rfl,hs,hd⟩
  by_cases hlt:i<xs.length
  ·refine .inr ⟨⟨xs,xs[i],hs.seq hl,by simp [hlt]⟩,by rw [List.length_map,List.length_range];omega,fun v H'=>v=f i∧Same H2 H',fun v H' ⟨ev,hs'⟩=>⟨hs' D _ hd,xs.length-(i+1),by omega,rfl,hlt,?_,fun b o e=>?_,upd_same⟩,fun y H' hy=>?_⟩
   ·rw [ev,List.range_succ,List.map_append]
    rfl
   ·rw [upd_ne (ne_of_none e hD)]
    exact hs' b o (hs b o e)
   ·obtain ⟨e1,e2⟩:=hy
    subst e1
    exact he i y _ (e2 xs (hs.seq hl)) hs _ fun H'' h''=>⟨rfl,h''⟩
  ·have e:i=xs.length:=by omega
   subst e
   exact .inl ⟨⟨xs,hs.seq hl,Nat.le_refl _⟩,hq D H2 hD hs hd⟩
end L2
namespace L2
open PySem PySem.Spec PyProof.Rows
set_option genInjectivity false in
structure Cal (P:Program)(w:World)(K:PySem.W.Frag)(mg:Str->Option Value)(base:Heap)(CX:CXT)(x:Str)(k:Nat)(ps:List Str)(sp:Sp):Prop where
 ex:∃ (f:Addr) (fd:FuncData),FnOk P w K mg base CX k f fd ps sp∧mg x=some (.ref f)∧PySem.W.keepIn K (.ref f)=true∧Binds K fd ps []
section
variable {X:Cx}
theorem pe_cal {CX:CXT}{x:Str}{j k:Nat}{ps:List Str}{sp:Sp}{E:XK}{e:Expr}{es:List Expr}{t:TA}{p pos:Pos}(c:Cal X.prog X.w X.K X.mg X.base CX x j ps sp)(hr:Room k X.A)(hx:Passes CX X E)(ha:PA X (e::es) t)
  (hjk:j<=k:=by decide) (hg:Gl X x:=by rfl) (hdb:(x==("__debug__" : Str))=false:=by decide) (he:starEach (e::es) X.env=(false,eval e X.env)::starEach es X.env:=by rfl) (hpl:(backTo pos (starEach es X.env)).any (·.1)=false:=by rfl) :
  PE X (.Call (.Name x p) (e::es) [] pos) (tCall sp [] E t):=by
 obtain ⟨f,fd,F,hm,hk,hb⟩:=c.ex
 exact pe_call F (hr.mono hjk) hg hm hk hb .nil hx ha hdb he hpl
theorem pe_strT (l:List Nat){x:Str}{j pos}(h:x=tx l):PE X (.Constant (.str x) j pos) (tC (T l)):=by
 subst h
 exact pe_str
theorem call_len_T:CallR X (.builtin "len") (fun xs H Q=>∃ (l:List Nat),xs=[T l]∧l.length<=sizeLine∧Q (.int (l.length:Nat)) H):=by
 intro pins s σ H xs us Q I r h
 obtain ⟨l,e,hz,q⟩:=h
 exact call_len_str pins s σ H xs us Q I r ⟨tx l,e,by rw [tx_len];exact hz,by rw [tx_len];exact q⟩
theorem ix_T:IxR X (fun x y H Q=>∃ (l:List Nat),x=T l∧∃ (i:Int),y = .int i∧l.length<=sizeLine∧∃ c,atI l i=some c∧Q (T [c]) H):=by
 intro value slice pins s σ H x y v u Q I rx ry h hs
 obtain ⟨l,e1,i,e2,hz,c,hc,q⟩:=h
 exact ix_str value slice pins s σ H x y v u Q I rx ry ⟨tx l,i,c,e1,e2,by rw [tx_len];exact hz,by rw [tx_cps];exact hc,q⟩ hs
theorem op_catL:OpR X (binaryOp .Add) (fun x y H Q=>∃ (l b:Addr) (xs zs:List V),x = .ref l∧y = .ref b∧SqL X.K H l xs∧SqL X.K H b zs∧xs.length+zs.length<=sizeLine∧∀ p,H p=none->Q (.ref p) (upd H p (.lst (xs++zs)))):=by
 intro pins s σ H x y v u Q I rx ry h
 obtain ⟨l,b,xs,zs,rfl,rfl,hH,hB,hz,q⟩:=h
 cases rx
 cases ry
 obtain ⟨its,r,⟨⟨cls,dd,data,sl⟩,n,ho,hc,hdd,hd⟩,_⟩:=I.list hH
 obtain ⟨its2,r2,⟨⟨cls2,dd2,data2,sl2⟩,n2,ho2,hc2,hdd2,hd2⟩,_⟩:=I.list hB
 simp only at hc hd hc2 hd2
 subst hc hd hc2 hd2
 have e:its.toArray++its2.toArray=(its++its2).toArray:=by simp
 refine concat_meets ⟨_,ho,rfl⟩ ⟨_,ho2,rfl⟩ noFill_list_add seq_list_add PySem.F.slot_list_add PySem.F.entry_list_add (PySem.F.args_list_add_2 _ _) (list_addW l b its.toArray its2.toArray n n2 dd dd2 sl sl2 (by rw [List.size_toArray,List.size_toArray,<- r.length,<- r2.length];exact hz)) ⟨ho,ho2,?_⟩
 rw [e]
 exact ⟨.ref _,_,I.lnew (t':=s.toks) (r.append r2) (by rw [List.length_append];exact hz),rfl,q _ I.fresh⟩
theorem eqAt_T {ls ms:List (List Nat)}{us ws:List Value}(r:Vals (ls.map T) us)(r':Vals (ms.map T) ws){A:Around}{s:Shared}{j:Nat}{u w:Value}(hu:us[j]?=some u)(hw:ws[j]?=some w):SeqAt.EqAt A s u w (decide (ls[j]?=ms[j]?)):=by
 have h1:j<ls.length:=by have:=r.length;rw [List.length_map] at this;rw [this];exact (List.getElem?_eq_some_iff.mp hu).1
 have h2:j<ms.length:=by have:=r'.length;rw [List.length_map] at this;rw [this];exact (List.getElem?_eq_some_iff.mp hw).1
 obtain ⟨u',e1,q1⟩:=r.get (i:=j) (x:=T ls[j]) (by rw [List.getElem?_map,List.getElem?_eq_getElem h1];rfl)
 obtain ⟨w',e2,q2⟩:=r'.get (i:=j) (x:=T ms[j]) (by rw [List.getElem?_map,List.getElem?_eq_getElem h2];rfl)
 rw [hu] at e1
 cases e1
 rw [hw] at e2
 cases e2
 have e:=eqAt_V (A:=A) (s:=s) q1 q2 rfl rfl
 have ee:eqV (T ls[j]) (T ms[j])=decide (ls[j]?=ms[j]?):=by
  show (tx ls[j]==tx ms[j])=_
  rw [Bool.eq_iff_iff,beq_iff_eq,decide_eq_true_iff,List.getElem?_eq_getElem h1,List.getElem?_eq_getElem h2]
  exact ⟨fun h=>by rw [tx_inj h],fun h=>by rw [Option.some.inj h]⟩
 rw [ee] at e
 exact e
theorem all_range_eq {ls ms:List (List Nat)}(h:ls.length=ms.length):(List.range ls.length).all (fun j=>decide (ls[j]?=ms[j]?))=decide (ls=ms):=by
 rw [Bool.eq_iff_iff,List.all_eq_true,decide_eq_true_iff]
 constructor
 ·intro g
  apply List.ext_getElem?
  intro i
  by_cases hi:i<ls.length
  ·exact of_decide_eq_true (g i (List.mem_range.mpr hi))
  ·rw [List.getElem?_eq_none (by omega),List.getElem?_eq_none (by omega)]
 ·intro g j _
  rw [g]
  exact decide_eq_true rfl
theorem op_eq_LT (hu:X.A.units<cLine):OpR X (compareOp .Eq) (fun x y H Q=>∃ (p b:Addr) (ls ms:List (List Nat)),x = .ref p∧y = .ref b∧SqL X.K H p (ls.map T)∧SqL X.K H b (ms.map T)∧Q (.bl (decide (ls=ms))) H):=by
 intro pins s σ H x y v u Q I rx ry h
 obtain ⟨p,b,ls,ms,rfl,rfl,h1,h2,q⟩:=h
 cases rx
 cases ry
 obtain ⟨its,r,pl,_⟩:=I.list h1
 obtain ⟨its2,r2,pl2,_⟩:=I.list h2
 have l1:=r.length
 have l2:=r2.length
 rw [List.length_map] at l1 l2
 by_cases hl:ls.length=ms.length
 ·refine SeqAt.eq_listAt (e:=fun j=>decide (ls[j]?=ms[j]?)) pl.isList pl2.isList (by rw [List.size_toArray,List.size_toArray];omega) hu (fun j g1 g2=>eqAt_T r r2 (by simp) (by simp)) ?_
  rw [List.size_toArray,<- l1,all_range_eq hl]
  exact ⟨.bl _,H,I,rfl,q⟩
 ·refine SeqAt.eq_list_lengthsAt pl.isList pl2.isList (by rw [List.size_toArray,List.size_toArray,bne_iff_ne];omega) hu ?_
  have e:decide (ls=ms)=false:=decide_eq_false fun z=>hl (by rw [z])
  rw [e] at q
  exact ⟨.bl _,H,I,rfl,q⟩
end
end L2
namespace L2
open PySem PySem.Spec PyProof.Rows
set_option genInjectivity false in
structure Fly (P:Program)(w:World)(outer:List Env)(H:Hp)(s:Shared)(a:Addr)(cls:Value)(H':Hp)(s':Shared):Prop where
 os:s'.os=s.os
 bare:AllBare s'.gens
 ex:∃ (B:Heap) (t:Addr),Heap.FlyingW B outer a cls (.ref t) s'.heap∧HOk P w H' B∧(∀ b o,s.heap.get? b=some o->H b=none->b∉frs outer->B.get? b=some o) ∧
  ∀ b o,s.heap.get? b=some o->b∉frs outer->∃ o',B.get? b=some o'
 slot:∀ b o,s.heap.get? b=some o->H b=none->b∈frs outer->∃ sl,s'.heap.get? b=some { o with slots:=sl }
 free:∀ b o,s.heap.get? b=some o->H b=none->H' b=none
 tups:∀ b xs,H b=some (.tup xs)->H' b=some (.tup xs)
 frzs:∀ b o u,H b=some (.frz o u)->H' b=some (.frz o u)
 tbls:∀ b ps,H b=some (.tbl ps)->∃ more,H' b=some (.tbl (ps++more))
theorem noTrk {P:Program}{w:World}{H:Hp}{h:Heap}{a:Addr}(x:HOk P w H h)(e:h.get? a=none):H a=none:=by
 cases q:H a with
 | none=>rfl
 | some u =>
  have y:=x a u q
  have z:∃ o,h.get? a=some o:=by
   cases u with
   | lst xs=>obtain ⟨_,_,_,_,e⟩:=y;exact ⟨_,e⟩
   | tup xs=>obtain ⟨_,_,_,o,e,_⟩:=y;exact ⟨o,e⟩
   | dK kvs=>obtain ⟨_,_,_,_,o,_,_,e,_⟩:=y;exact ⟨o,e⟩
   | dT kvs=>obtain ⟨_,_,_,_,o,_,_,e,_⟩:=y;exact ⟨o,e⟩
   | set S n=>obtain ⟨o,_,_,_,e,_⟩:=y;exact ⟨o,e⟩
   | ins C dx fs=>obtain ⟨_,_,_,e,_⟩:=y;exact ⟨_,e⟩
   | own y'=>exact y
   | xd fs=>obtain ⟨_,⟨o,_,_,e,_⟩,_⟩:=y;exact ⟨o,e⟩
   | rng lo hi=>obtain ⟨_,_,_,e⟩:=y;exact ⟨_,e⟩
   | frz ob u=>exact ⟨_,y.1⟩
   | tbl ps=>exact ⟨_,y⟩
   | met f y'=>exact ⟨_,y⟩
   | ext φ=>exact y.2.1
  obtain ⟨o,z⟩:=z
  rw [e] at z
  cases z
section
variable {X:Cx}{pins:List (Addr×Obj)}{σ:St}{H H':Hp}{s s':Shared}{a:Addr}{cls:Value}{E:Value->Shared->Prop}
set_option genInjectivity false in
structure Own (X:Cx):Prop where
 stk:X.stack=X.env::X.outer
 fr:X.env.frame=some X.env.locals
 ex:X.ex=[]
theorem Own.frs (O:Own X){b:Addr}:b∈frs X.stack↔b=X.env.locals∨b∈frs X.outer:=by
 unfold L2.frs
 rw [O.stk,List.filterMap_cons,O.fr]
 exact List.mem_cons
theorem Inv.oldNe (I:Inv X pins σ H s){b:Addr}{o:Obj}(e:X.s₀.heap.get? b=some o):b≠X.env.locals:=Nat.ne_of_lt (Nat.lt_of_lt_of_le (Heap.lt_size e) I.ok.above)
theorem Inv.hidHok (I:Inv X pins σ H s):HOk X.prog X.w H (PySem.W.hideAll s.heap (L2.frs X.stack)):=fun b u e =>
 (I.hok b u e).stay (fun c v hc q=>PySem.W.hideAll_get _ q fun hm=>by
  have n:=I.stkFree c hm
  rcases hc with z | z
  ·rw [z,e] at n
   cases n
  ·rw [z] at n
   cases n) (fun _ q=>q) fun _ _ q=>q
theorem Fly.raised {args:List Value}{h:Heap}(I:Inv X pins σ H s)(O:Own X)(hx:Heap.MadeExcOf s.heap h a cls args) :
  wpAny (model X.prog X.w) X.A (leaving X.env (.ref a)) (fun _ s''=>Fly X.prog X.w X.outer X.H₀ X.s₀ a cls H s'') E { s with heap:=h }:=by
 have hst:=I.stack
 have hin:∀ env∈X.stack,∀ b,env.frame=some b->b∈L2.frs X.stack:=fun env he b hb=>List.mem_filterMap.mpr ⟨env,he,hb⟩
 have hl:=PySem.W.funFrames_hide hst hin
 rw [O.stk] at hl
 have hfr:=I.ok.frames
 rw [O.stk] at hfr
 have noEx:∀ b,b∉X.ex:=fun b z=>by
  rw [O.ex] at z
  cases z
 refine wpAny_leaves_madeW (s:={ s with heap:=h }) hfr O.fr (fun b o q=>PySem.W.of_hideAll _ q) hl hx fun h' t x1 x2 x3 x4=>?_
 have notIn:∀ b o,X.s₀.heap.get? b=some o->b∉L2.frs X.outer->b∉L2.frs (X.env::X.outer):=fun b o e nb z=>by
  rw [<- O.stk] at z
  rcases O.frs.mp z with q | q
  ·exact I.oldNe e q
  ·exact nb q
 have hokB:=I.hidHok
 rw [O.stk] at hokB
 refine ⟨I.os,I.bare,⟨_,t,x1,hokB,fun b o e n nb=>?_,fun b o e nb=>?_⟩,fun b o e n hb=>?_,fun b o e n=>I.base.free b o e n (noEx b),I.base.tups,I.base.frzs,I.base.tbls⟩
 ·exact PySem.W.hideAll_get _ (I.base.keep b o e n nb (noEx b)) (notIn b o e nb)
 ·obtain ⟨o',e'⟩:=I.base.there b o e (noEx b)
  exact ⟨o',PySem.W.hideAll_get _ e' (notIn b o e nb)⟩
 ·obtain ⟨sl,e1⟩:=I.base.slot b o e n hb (noEx b)
  obtain ⟨_,o2,e2,hd⟩:=I.funs.mem hb
  rw [e1] at e2
  cases e2
  obtain ⟨sl2,e3⟩:=x4 b _ (hx.keeps b _ e1) hd
  exact ⟨sl2,e3⟩
theorem Fly.on (I:Inv X pins σ H s)(O:Own X)(Y:Fly X.prog X.w X.stack H s a cls H' s') :
  wpAny (model X.prog X.w) X.A (leaving X.env (.ref a)) (fun _ s''=>Fly X.prog X.w X.outer X.H₀ X.s₀ a cls H' s'') E s':=by
 obtain ⟨B,t,hfl,hokB,kp,th⟩:=Y.ex
 have hfr:=I.ok.frames
 rw [O.stk] at hfr hfl
 have noEx:∀ b,b∉X.ex:=fun b z=>by
  rw [O.ex] at z
  cases z
 have notIn:∀ b o,X.s₀.heap.get? b=some o->b∉L2.frs X.outer->b∉L2.frs X.stack:=fun b o e nb z=>by
  rcases O.frs.mp z with q | q
  ·exact I.oldNe e q
  ·exact nb q
 refine wpAny_leaves_onW hfr O.fr hfl fun h' x1 x2=>?_
 refine ⟨Y.os.trans I.os,Y.bare,⟨B,t,x1,hokB,fun b o e n nb=>kp b o (I.base.keep b o e n nb (noEx b)) (I.base.free b o e n (noEx b)) (notIn b o e nb),fun b o e nb=>?_⟩,fun b o e n hb=>?_,fun b o e n=>?_,
  fun b xs q=>Y.tups b xs (I.base.tups b xs q),fun b o u q=>Y.frzs b o u (I.base.frzs b o u q),fun b ps q=>?_⟩
 ·obtain ⟨o',e'⟩:=I.base.there b o e (noEx b)
  exact th b o' e' (notIn b o e nb)
 ·obtain ⟨sl,e1⟩:=I.base.slot b o e n hb (noEx b)
  obtain ⟨_,o2,e2,hd⟩:=I.funs.mem hb
  rw [e1] at e2
  cases e2
  obtain ⟨sl2,e3⟩:=Y.slot b _ e1 (I.base.free b o e n (noEx b)) (O.frs.mpr (.inr hb))
  obtain ⟨sl3,e4⟩:=x2 b _ e3 hd
  exact ⟨sl3,e4⟩
 ·obtain ⟨o',e'⟩:=I.base.there b o e (noEx b)
  exact Y.free b o' e' (I.base.free b o e n (noEx b))
 ·obtain ⟨m1,e1⟩:=I.base.tbls b ps q
  obtain ⟨m2,e2⟩:=Y.tbls b _ e1
  exact ⟨m1++m2,by rw [e2,Array.append_assoc]⟩
theorem Fly.un (I:Inv X pins σ H s)(Y:Fly X.prog X.w X.stack H s a cls H' s'):Un (L2.frs X.stack) [] H H' s.heap s'.heap:=by
 obtain ⟨B,t,hfl,hokB,kp,th⟩:=Y.ex
 refine ⟨fun b o e n nb _=>hfl.1 b o (kp b o e n nb),fun b o e n hb _=>Y.slot b o e n hb,fun b o e n _=>Y.free b o e n,fun b o e _=>?_,Y.tups,Y.frzs,Y.tbls⟩
 by_cases hb:b∈L2.frs X.stack
 ·obtain ⟨sl,q⟩:=Y.slot b o e (I.stkFree b hb) hb
  exact ⟨_,q⟩
 ·obtain ⟨o',q⟩:=th b o e hb
  exact ⟨o',hfl.1 b o' q⟩
theorem Fly.inv (I:Inv X pins σ H s)(Y:Fly X.prog X.w X.stack H s a cls H' s'):Inv X pins σ H' s':=by
 have hok:HOk X.prog X.w H' s'.heap:=by
  obtain ⟨B,t,hfl,hokB,kp,th⟩:=Y.ex
  exact hokB.kept hfl.1
 exact I.call' (ch:=[]) Y.os (Y.un I) hok Y.bare fun _ z=>nomatch z
theorem Fly.slots {outer:List Env}{h':Heap}(Y:Fly X.prog X.w outer H s a cls H' s')(hd:∀ b∈L2.frs outer,∃ o,s.heap.get? b=some o∧∀ vs,o.data≠.fields vs)(x:s'.heap.UpToSlots h') :
  ∀ b o,s.heap.get? b=some o->H b=none->b∈L2.frs outer->∃ sl,h'.get? b=some { o with slots:=sl }:=fun b o e n hb=>by
 obtain ⟨sl,q⟩:=Y.slot b o e n hb
 obtain ⟨o2,e2,d2⟩:=hd b hb
 rw [e] at e2
 cases e2
 obtain ⟨sl',q'⟩:=x b _ q d2
 exact ⟨sl',q'⟩
theorem Fly.again {A:Around}{Q:Unit->Shared->Prop}(I:Inv X pins σ H s)(Y:Fly X.prog X.w X.stack H s a cls H' s')(h:∀ h',Fly X.prog X.w X.stack H s a cls H' { s' with heap:=h' }->Q () { s' with heap:=h' }) :
  wpAny (model X.prog X.w) A (setFlight (.ref a) none) Q E s':=by
 obtain ⟨B,t,hfl,hokB,kp,th⟩:=Y.ex
 refine lands_againW hfl fun h' x1 x2=>h h' ?_
 exact ⟨Y.os,Y.bare,⟨B,t,x1,hokB,kp,th⟩,Y.slots (fun b hb=>(I.stack.mem hb).2) x2,Y.free,Y.tups,Y.frzs,Y.tbls⟩
theorem Fly.look {Q:Unit->Shared->Prop}(I:Inv X pins σ H s)(O:Own X)(Y:Fly X.prog X.w X.stack H s a cls H' s')(h:∀ h',Fly X.prog X.w X.stack H s a cls H' { s' with heap:=h' }->Q () { s' with heap:=h' }) :
  wpAny (model X.prog X.w) X.A (noteFrame (.ref a) X.env) (fun _ s2=>wpAny (model X.prog X.w) X.A (setFlight (.ref a) none) Q E s2) E s':=by
 obtain ⟨B,t,hfl,hokB,kp,th⟩:=Y.ex
 have hfr:=I.ok.frames
 have hfl':=hfl
 rw [O.stk] at hfr hfl'
 refine wpAny_looks_onW hfr O.fr hfl' fun h4 x4 y4=>?_
 refine wpAny_landsW (s:={ s' with heap:=h4 }) x4 fun h5 x5 y5=>h h5 ?_
 rw [<- O.stk] at x5
 exact ⟨Y.os,Y.bare,⟨B,t,x5,hokB,kp,th⟩,Y.slots (fun b hb=>(I.stack.mem hb).2) (y4.trans y5),Y.free,Y.tups,Y.frzs,Y.tbls⟩
theorem Fly.looks {M:Model}{outer:List Env}(Y:Fly X.prog X.w outer H s a cls H' s'):PySem.W.Looks M s'.heap (typeOf (.ref a)) cls:=by
 obtain ⟨B,t,hfl,_⟩:=Y.ex
 obtain ⟨ob,hob,hc⟩:=hfl.there
 subst hc
 exact (PySem.W.Looks.ld hob).andThen .now
theorem Fly.track (I:Inv X pins σ H s)(Y:Fly X.prog X.w X.stack H s a cls H' s'):H' a=none∧Inv X pins σ (upd H' a (.ext fun h=>∃ o,h.get? a=some o∧o.cls=cls)) s':=by
 obtain ⟨B,t,hfl,hokB,kp,th⟩:=Y.ex
 have J:=Y.inv I
 have na:H' a=none:=noTrk hokB hfl.2.1
 obtain ⟨_,_,hfr,oe,vs,_,_,_,hoe,hcl,hda,_⟩:=id hfl
 have nfr:∀ b∈L2.frs X.stack,b≠a:=fun b hb z=>by
  obtain ⟨_,o,e,d⟩:=hfr.mem hb
  rw [z,hoe] at e
  cases e
  exact d vs hda
 have nold:∀ b o,s.heap.get? b=some o->b≠a:=fun b o e z=>by
  by_cases hb:b∈L2.frs X.stack
  ·exact nfr b hb z
  ·obtain ⟨o',e'⟩:=th b o e hb
   rw [z,hfl.2.1] at e'
   cases e'
 have n0:∀ b o,X.s₀.heap.get? b=some o->b∉X.ex->b≠a:=fun b o e hx=>by
  obtain ⟨o',e'⟩:=I.base.there b o e hx
  exact nold b o' e'
 obtain ⟨mL,⟨oL,_,_,hoL,_⟩,_⟩:=id I.loc
 have nL:X.env.locals≠a:=nold _ oL hoL
 refine ⟨na,J.ok,J.os,J.bare,⟨J.base.keep,J.base.slot,fun b o e n hx=>?_,J.base.there,fun b xs q=>?_,fun b o u q=>?_,fun b ps q=>?_⟩,J.loc,J.cell,?_,fun y c e=>?_,fun p hp=>?_,fun b u q=>?_,J.len⟩
 ·rw [upd_ne (n0 b o e hx)]
  exact J.base.free b o e n hx
 ·have z:=J.base.tups b xs q
  rw [upd_ne (ne_of_none z na)]
  exact z
 ·have z:=J.base.frzs b o u q
  rw [upd_ne (ne_of_none z na)]
  exact z
 ·obtain ⟨m,z⟩:=J.base.tbls b ps q
  exact ⟨m,by rw [upd_ne (ne_of_none z na)];exact z⟩
 ·rw [upd_ne nL]
  exact J.free
 ·obtain ⟨v,o,ho,_⟩:=I.cell y c e
  rw [upd_ne (nold c o ho)]
  exact J.freeC y c e
 ·obtain ⟨e,n,ne,nf,d⟩:=J.pin p hp
  refine ⟨e,?_,ne,nf,d⟩
  rw [upd_ne (nold _ _ (I.pin p hp).1)]
  exact n
 ·by_cases hb:b=a
  ·subst hb
   rw [upd_same] at q
   cases q
   exact ⟨⟨oe,hoe,hcl.1⟩,⟨oe,hoe⟩,fun h1 h2 ⟨o,e,c⟩ k=>⟨o,k o e,c⟩⟩
  ·rw [upd_ne hb] at q
   exact (J.hok b u q).stay (fun _ _ _ z=>z) (fun c z=>by rw [upd_ne (ne_of_none z na)];exact z) fun c xs z=>by rw [upd_ne (ne_of_none z na)];exact z
end
abbrev bmVE:List Value:=[.type "ValueError",.type "Exception",.type "BaseException",.type "object"]
set_option genInjectivity false in
structure Exc (K:PySem.W.Frag)(mg:Str->Option Value)(x:Str)(C:Addr):Prop where
 mg:mg x=some (.ref C)
 is:PySem.W.excIn K C bmVE "ValueError.__new__" = true
theorem Exc.own {K:PySem.W.Frag}{mg:Str->Option Value}{x:Str}{C:Addr}{h:Heap}(c:Exc K mg x C)(X:K.In h):OwnCls x C bmVE "ValueError.__new__" mg h:=by
 refine ⟨c.mg,?_⟩
 have q:=c.is
 unfold PySem.W.excIn at q
 split at q
 ·rename_i dd cd sl ho
  split at q
  ·rename_i C' bm k0 k1 k2 k3 n k5 hm hs
   simp only [beq_iff_eq,Bool.not_eq_true',Bool.and_eq_true] at q
   obtain ⟨⟨⟨⟨⟨g1,g2⟩,g3⟩,g4⟩,g5⟩,g6⟩:=q
   subst g1 g2
   obtain ⟨nm,bs,mro,ns,qn,hd,sn,sub,ab,col,del⟩:=cd
   have hsl:sl = #[k0,k1,k2,k3,some (.builtin "ValueError.__new__"),k5]:=by
    cases sl with
    | mk l =>
     have hs':l=_:=hs
     rw [hs']
   have hm':mro=_:=hm
   have g3':del=false:=g3
   subst hsl hm' g3'
   refine ⟨bm,ns,nm,qn,bs,hd,sn,sub,ab,col,dd,k0,k1,k2,k3,k5,h.nsMap ns,X _ _ ho,?_,?_,?_⟩
   ·exact .of_isNs (PySem.W.isNs_of_in X g5)
   ·exact PySem.W.nsMap_none_of_in X g5 g6
   ·exact PySem.W.tail_of_in X g4
  ·cases q
 ·cases q
def tRaise (E:Value->Hp->Prop)(C:Addr)(t:TA):TS:=fun _ σ H=>t σ H fun vs H1=>vs.length<=sizeLine∧E (.ref C) H1
theorem ps_raise {x:Str}{C:Addr}{e₀:Expr}{rest:List Expr}{np cpos pos:Pos}{t:TA}{E:Value->Hp->Prop}(c:Exc X.K X.mg x C)(hc:X.calm=true)
  (hE:∀ (pins:List (Addr×Obj)) (σ:St) (H:Hp) (s:Shared) (h:Heap) (a:Addr) (args:List Value),Inv X pins σ H s->Heap.MadeExcOf s.heap h a (.ref C) args->E (.ref C) H->X.xe (.ref a) { s with heap:=h })
  (ha:PA X (e₀::rest) t) (hg:Gl X x:=by rfl) (hd:(x==("__debug__" : Str))=false:=by decide)
  (he:starEach (e₀::rest) X.env=(false,eval e₀ X.env)::starEach rest X.env:=by rfl) (hpl:(backTo cpos (starEach rest X.env)).any (·.1)=false:=by rfl) :
  PS X (.Raise (some (.Call (.Name x np) (e₀::rest) [] cpos)) none pos) (tRaise E C t):=by
 intro pins s σ H D I h
 have O:=c.own I.mod.kin
 obtain ⟨tl,N,nm,q,bs,hdct,sn,sub,ab,col,dd,k0,k1,k2,k3,k5,mN,hC,hN,hni,T⟩:=O.obj
 refine wpAny_Raise_call_subT (C:=C) (nm:=nm) (q:=q) (N:=N) (bs:=bs) (bm:=tl) (hdct:=hdct) (sn:=sn) (sub:=sub) (ab:=ab) (col:=col) (dd:=dd) (k0:=k0) (k1:=k1) (k2:=k2) (k3:=k3) (k5:=k5) PySem.F.excBase_ValueError (mN:=mN)
  (T.hasType (by decide +kernel)) (I.ok.hd hc) (by rw [he];show (false||(backTo cpos (starEach rest X.env)).any (·.1))=false;rw [hpl];rfl) hni (ld_glob I hg c.mg ⟨rfl,?_⟩ hd)
 have hA:=ha cpos pins s σ H _ I h
 rw [he] at hA ⊢
 refine Calls.evalArgs_plain (thn hA fun us s2 ⟨vs,H2,I2,r2,hz,q2⟩=>?_)
 exact ⟨rfl,by rw [<- r2.length];exact hz,I2.bk _ _ hC,hN.keeps I2.bk,T.keeps I2.bk,fun h' e hx=>hE pins σ H2 s2 h' e us I2 hx q2⟩
section
variable {P:Program}{w:World}{K:PySem.W.Frag}{mg:Str->Option Value}{base:Heap}{N:List Str}{qual:Str}{scope:Scope}{f:Addr}{cdv:Value}{A:Around}{outer:List Env}{s:Shared}{H:Hp}{E:XK}
theorem ownX {CX:CXT}:Own (cxOf CX P w K mg base N qual scope f cdv A outer s H E):=⟨rfl,rfl,rfl⟩
end
end L2
namespace L2
open PySem PySem.Spec PyProof.Rows
def XP (X:Cx)(pins:List (Addr×Obj))(R:St->Value->Hp->Prop)(e:Value)(s':Shared):Prop :=
 ∃ a cls σ' H s1 H',e = .ref a∧Inv X pins σ' H s1∧Fly X.prog X.w X.stack H s1 a cls H' s'∧R σ' cls H'
abbrev TTy:=Ends->(St->Value->Hp->Prop)->St->Hp->Prop
def PTy (X:Cx)(st:List Stmt)(t:TTy):Prop :=
 ∀ (pins:List (Addr×Obj)) (s:Shared) (σ:St) (H:Hp) (D:Ends) (R:St->Value->Hp->Prop),Inv X pins σ H s->t D R σ H->wpAny (model X.prog X.w) X.A (execs st X.env) (SP X pins D) (XP X pins R) s
section
variable {X:Cx}
abbrev TH:=Ends->St->Value->Hp->Prop
def PH (X:Cx)(hs:List ExceptHandler)(t:TH):Prop :=
 ∀ (pins:List (Addr×Obj)) (σ:St) (H:Hp) (s:Shared) (a:Addr) (cls:Value) (H':Hp) (s':Shared) (D:Ends),Inv X pins σ H s->Fly X.prog X.w X.stack H s a cls H' s'->t D σ cls H' ->
  wpAny (model X.prog X.w) X.A (handleBy (.ref a) X.env hs) (SP X pins D) X.xe s'
abbrev cxMark (X:Cx)(a:Addr):Cx:={ X with A:=X.A.mark (some (.ref a)),calm:=false,xe:=fun _ _=>False }
theorem Inv.mark {pins:List (Addr×Obj)}{σ:St}{H:Hp}{s:Shared}(I:Inv X pins σ H s)(a:Addr):Inv (cxMark X a) pins σ H s:=by
 have ok:=I.ok
 exact ⟨⟨ok.mod,ok.kind,ok.glob,ok.blt,ok.above,ok.inj,ok.has,ok.cab,fun z=>(by cases z),ok.frames,ok.stk,ok.exf,ok.bs,ok.bsz,ok.noex,ok.exfs,ok.funs,ok.frf⟩,I.os,I.bare,I.base,I.loc,I.cell,I.free,I.freeC,I.pin,I.hok,I.len⟩
theorem Inv.unmark {pins:List (Addr×Obj)}{σ:St}{H:Hp}{s:Shared}{a:Addr}(I:Inv (cxMark X a) pins σ H s)(J:X.Ok):Inv X pins σ H s:=⟨J,I.os,I.bare,I.base,I.loc,I.cell,I.free,I.freeC,I.pin,I.hok,I.len⟩
theorem nsInj {h:Heap}{a:Addr}{m m':Str->Option Value}(x:h.Ns a m)(y:h.Ns a m'):∀ z,m z=m' z:=fun z=>by
 obtain ⟨o,es,ep,ho,hd,_,hf⟩:=x
 obtain ⟨o',es',ep',ho',hd',_,hf'⟩:=y
 rw [ho] at ho'
 cases ho'
 rw [hd] at hd'
 cases hd'
 rw [<- hf z,<- hf' z]
theorem Inv.turnFrame {pins:List (Addr×Obj)}{σ σ':St}{H:Hp}{s:Shared}{h':Heap}{m':Str->Option Value}(I:Inv X pins σ H s)(hn':h'.Ns X.env.locals m')(hs:Heap.SameBut X.env.locals s.heap h')(hl:σ'.length=σ.length)
  (hm:∀ (i:Nat) (x:Str) (v:V),X.N[i]?=some x->σ'[i]?=some (some v)->σ[i]?=some (some v)∧∀ m,s.heap.Ns X.env.locals m->m' x=m x):Inv X pins σ' H { s with heap:=h' }:=by
 have kp:∀ b o,b≠X.env.locals->s.heap.get? b=some o->h'.get? b=some o:=fun b o hb e=>(hs.2 b hb).trans e
 obtain ⟨m0,hn0,hl0⟩:=I.loc
 obtain ⟨oL,_,_,hoL,_⟩:=id hn0
 have ok:HOk X.prog X.w H h':=fun b ob e=>(I.hok b ob e).stay (fun c w' hc q=>kp c w' (fun z=>by
  subst z
  rcases hc with g | g
  ·rw [<- g,I.free] at e
   cases e
  ·rw [I.free] at g
   cases g) q) (fun _ q=>q) fun _ _ q=>q
 refine ⟨I.ok,I.os,I.bare,⟨fun b o e n hb hx=>kp b o (I.oldNe e) (I.base.keep b o e n hb hx),fun b o e n hb hx=>?_,I.base.free,fun b o e hx=>?_,I.base.tups,I.base.frzs,I.base.tbls⟩,⟨m',hn',fun i x v e1 e2 e3=>?_⟩,fun y c e=>?_,I.free,I.freeC,fun p hp=>?_,ok,hl.trans I.len⟩
 ·obtain ⟨sl,e1⟩:=I.base.slot b o e n hb hx
  exact ⟨sl,kp b _ (I.oldNe e) e1⟩
 ·obtain ⟨o',e1⟩:=I.base.there b o e hx
  exact ⟨o',kp b _ (I.oldNe e) e1⟩
 ·obtain ⟨g1,g2⟩:=hm i x v e1 e2
  obtain ⟨u,r,l⟩:=hl0 i x v e1 g1 e3
  refine ⟨u,r,?_⟩
  rcases l with ⟨k,z⟩ | ⟨k,c,e,o,ho,hd⟩
  ·exact .inl ⟨k,(g2 m0 hn0).trans z⟩
  ·exact .inr ⟨k,c,e,o,kp c o (I.cne x c e) ho,hd⟩
 ·obtain ⟨v,o,ho,hd⟩:=I.cell y c e
  exact ⟨v,o,kp c o (I.cne y c e) ho,hd⟩
 ·obtain ⟨e,n,ne,nf,d⟩:=I.pin p hp
  exact ⟨kp _ _ ne e,n,ne,nf,d⟩
end
end L2
namespace L2
open PySem PySem.Spec PyProof.Rows
namespace RV
theorem lri_no_len:typeLookup (.type "list_reverseiterator") "__len__" = pure none:=by rw [typeLookup_type,builtinLookup_eq_fast];kernel_rfl
theorem lri_hint:typeLookup (.type "list_reverseiterator") "__length_hint__" = pure (some (.builtin "list_reverseiterator.__length_hint__")):=by rw [typeLookup_type,builtinLookup_eq_fast];kernel_rfl
section
variable {prog:Program}{w:World}{A:Around}{E:Value->Shared->Prop}{s:Shared}
theorem hint_rev {it l:Addr}{i:Int}{Q:Bool->Shared->Prop}(hit:s.heap.IsRevIter it l i)(h:Q false s):wpAny (model prog w) A (Builtin.List.listLengthHint (.ref it)) Q E s:=by
 unfold Builtin.List.listLengthHint
 refine wpAny_bind (wpAny_specialOf hit.typeIs lri_no_len ?_)
 show wpAny _ A (specialOf (Value.ref it) (Str.ofString "__length_hint__") >>= _) _ _ _
 refine wpAny_bind (wpAny_specialOf hit.typeIs lri_hint ?_)
 generalize hid:("list_reverseiterator.__length_hint__" : String)=id0
 wp_delta
 rw [show splitId id0=some ("list_reverseiterator", "__length_hint__") from by subst hid;decide +kernel]
 subst hid
 refine wpAny_bind (wpAny_isInstance (T := "list_reverseiterator") (b:=true) hit.typeIs (by rw [isSubtype_type];kernel_rfl) ?_)
 refine wpAny_ite_split (fun hab=>absurd hab (by decide)) (fun _=>?_)
 refine wpAny_ite_split (fun _=>?_) (fun hab=>absurd (by decide +kernel) hab)
 refine wpAny_ite_split (fun hab=>absurd hab (by decide +kernel)) (fun _=>?_)
 exact wpAny_pure h
theorem extend_rev {R:Result->Shared->Prop}(hh:A.handled=none){it l:Addr}{items:Array Value}(hit:s.heap.IsRevIter it l ((items.size:Int)-1))(hl:s.heap.IsList l items)(hne:l≠it)(S:Addr)(res:Value)(c₀:Nat)
  (h1:S≠it) (h2:S≠l) (hS:s.heap.get? S=some { cls:=.type "list",data:=.seq #[] c₀ })
  (hR:∀ h' tk acc' c',(∀ b o,b≠S->b≠it->s.heap.get? b=some o->h'.get? b=some o)->h'.get? S=some { cls:=.type "list",dict:=none,data:=.seq acc' c',slots:=#[] } ->
   acc'.toList=items.toList.reverse->R (.ok (.ret res)) { s with heap:=h',toks:=tk }) (hn:items.size<=sizeLine) :
  wpAny (model prog w) A.in1 (Builtin.List.listExtendWith (.ref S) (.ref it) res)
   (fun fin s'=>match fin with | .done f=>R (.ok f) s' | .again c'=>c'.quiet=true∧codeAny (model prog w) A c' R s') (fun e s'=>R (.error e) s') s:=by
 have W:=(Walks.listRev (prog:=prog) (w:=w) (A:=A.in1) hh it l hne items).toS
 unfold Builtin.List.listExtendWith
 refine wpAny_bind (wpAny_typeOf hit.typeIs ?_)
 have g1:Builtin.List.listSameRef (.ref S) (.ref it)=false:=by simp [Builtin.List.listSameRef,h1]
 have g2:(Value.type "list_reverseiterator" == Value.type "list")=false:=by decide
 have g3:(Value.type "list_reverseiterator" == Value.type "tuple")=false:=by decide
 simp only [g1,g2,g3,Bool.or_false,Bool.false_eq_true,if_false]
 refine wpAny_bind (wpAny_pyIter_revIter hit ?_)
 refine wpAny_bind (wpAny_holding (hint_rev hit ?_))
 refine wpAny_ite_split (fun hab=>absurd hab (by decide +kernel)) (fun _=>?_)
 have e0:(items.size:Int)-1-((0:Nat):Int)=(items.size:Int)-1:=by omega
 refine wpAny_pure ⟨plainId_quiet F.plain_extend_loop _,codeAny_extend_loopS W hn S (by simp [h1,h2]) res items.size 0 _ #[] c₀ rfl (Nat.zero_le _) ⟨Nat.zero_le _,by rw [e0];exact hit,hl⟩ hS (ItemsOf.nil _) fun s' acc' c' hm hS' hacc=>?_⟩
 rw [Moved.eq_with hm]
 refine hR s'.heap s'.toks acc' c' (fun b o hb hb2 e=>hm.heap b o (by simp [hb,hb2]) e) hS' ?_
 ·apply List.ext_getElem?
  intro i
  have hsz:=hacc.1
  by_cases hi:i<items.size
  ·have e1:acc'[i]?=some (acc'[i]'(by omega)):=Array.getElem?_eq_getElem (by omega)
   have e2:=hacc.2 i _ e1
   rw [List.getElem?_reverse (by simpa using hi),Array.getElem?_toList,Array.getElem?_toList,e1,<- e2]
   simp
  ·rw [List.getElem?_eq_none (by simp;omega),List.getElem?_eq_none (by simp;omega)]
end
end RV
section
variable {X:Cx}
theorem arg1 {e:Expr}{pos:Pos}{s:Shared}{Q:List Value->Shared->Prop}{E:Value->Shared->Prop}(h:wpAny (model X.prog X.w) X.A (eval e X.env) (fun u s1=>Q [u] s1) E s)(hs:starEach [e] X.env=(false,eval e X.env)::starEach [] X.env) :
  wpAny (model X.prog X.w) X.A (spliced (backTo pos (starEach [e] X.env))) Q E s:=by
 rw [hs]
 show wpAny _ _ (spliced ((false,eval e X.env)::backTo pos (starEach [] X.env))) _ _ s
 exact Calls.spliced_cons (thn h fun u s1 q=>Calls.spliced_nil q)
theorem rising_pw:∀ (x:List Nat) (ls:List (List Nat)),risingS (tx x) (ls.map tx)=true->(∀ y∈ls,¬ y<x)∧ls.Pairwise (fun a b=>¬ b<a)
 | x,[],_=>⟨fun _ h=>(by cases h),.nil⟩
 | x,y::ls,h=>by
  have h':(!ltCps (tx y).cps.toList (tx x).cps.toList&&risingS (tx y) (ls.map tx))=true:=h
  rw [Bool.and_eq_true,tx_cps,tx_cps,ltCps_eq] at h'
  obtain ⟨a,b⟩:=rising_pw y ls h'.2
  have h1:¬ y<x:=by simpa using h'.1
  refine ⟨fun z hz=>?_,List.pairwise_cons.mpr ⟨a,b⟩⟩
  rcases List.mem_cons.mp hz with rfl | hz
  ·exact h1
  ·exact Wd.lele h1 (a z hz)
theorem sorted_pw:∀ (ls:List (List Nat)),sortedS (ls.map tx)=true->ls.Pairwise (fun a b=>¬ b<a)
 | [],_=>.nil
 | x::ls,h=>List.pairwise_cons.mpr (rising_pw x ls h)
theorem strs_back:∀ {us:List Value} {ss:List Str},StrsAre us ss->Vals ((ss.map fun x=>x.cps.toList).map T) us
 | _,_,.nil=>.nil
 | _,_,.cons x t h=>.cons ⟨t,by show Value.str x t=Value.str (tx x.cps.toList) t;rw [tx_eta]⟩ (strs_back h)
end
end L2
namespace L2
open PySem PySem.Spec PyProof.Rows
def nub:List (List Nat)->List (List Nat)->List (List Nat)
 | acc,[]=>acc
 | acc,l::ls=>if l∈acc then nub acc ls else nub (acc++[l]) ls
def nubTo (ls:List (List Nat)):Nat->List (List Nat)
 | 0=>[]
 | i+1=>if ls.getD i []∈nubTo ls i then nubTo ls i else nubTo ls i++[ls.getD i []]
theorem nubTo_len (ls:List (List Nat)):∀ i,(nubTo ls i).length<=i
 | 0=>Nat.le_refl _
 | i+1=>by
  have h:=nubTo_len ls i
  rw [nubTo]
  split
  ·omega
  ·rw [List.length_append,List.length_singleton]
   omega
theorem nubTo_nodup (ls:List (List Nat)):∀ i,(nubTo ls i).Nodup
 | 0=>List.nodup_nil
 | i+1=>by
  have h:=nubTo_nodup ls i
  rw [nubTo]
  split
  ·exact h
  ·rename_i hn
   refine List.nodup_append.mpr ⟨h,by simp,fun a ha b hb e=>?_⟩
   have hb':b=ls.getD i []:=by simpa using hb
   rw [e,hb'] at ha
   exact hn ha
theorem nubTo_mem (ls:List (List Nat))(x:List Nat):∀ i,i<=ls.length->(x∈nubTo ls i↔x∈ls.take i)
 | 0,_=>by simp [nubTo]
 | i+1,hi=>by
  have h:=nubTo_mem ls x i (by omega)
  have e:ls.take (i+1)=ls.take i++[ls.getD i []]:=by
   rw [List.take_add_one,List.getD_eq_getElem?_getD,List.getElem?_eq_getElem (by omega)]
   rfl
  rw [e,List.mem_append,nubTo]
  split
  ·rename_i hm
   rw [h]
   constructor
   ·exact .inl
   ·rintro (q | q)
    ·exact q
    ·have q':x=ls.getD i []:=by simpa using q
     rw [q',<- nubTo_mem ls _ i (by omega)]
     exact hm
  ·rw [List.mem_append,h]
def uniq (ls:List (List Nat)):List (List Nat):=nubTo ls ls.length
theorem uniq_nodup (ls:List (List Nat)):(uniq ls).Nodup:=nubTo_nodup ls _
theorem uniq_mem (ls:List (List Nat))(x:List Nat):x∈uniq ls↔x∈ls:=by
 rw [uniq,nubTo_mem ls x _ (Nat.le_refl _),List.take_length]
namespace SE
section
variable {prog:Program}{w:World}{A:Around}{R:Result->Shared->Prop}{J:Addr}{fp wr:List Addr}{G:Array GenState->Array GenState->Prop}{n:Nat}{P:Nat->Value->Prop}{St:Nat->Shared->Prop}
abbrev Has (prog:Program)(w:World)(h:Heap)(D:Addr)(ms:List (List Nat)):Prop:=h.SetOf (PySem.strKind prog w) D (fun x=>decide (x.cps.toList∈ms)) ms.length
theorem Has.at {h h':Heap}{D:Addr}{ms:List (List Nat)}(x:Has prog w h D ms)(k:∀ o,h.get? D=some o->h'.get? D=some o):Has prog w h' D ms:=by
 obtain ⟨o,es,ep,tb,ho,r⟩:=x
 exact ⟨o,es,ep,tb,k o ho,r⟩
theorem loop (W:WalksS prog w A.in1 J fp wr G n P St){D:Addr}(hD:D∉fp)(ls:List (List Nat))(hv:∀ i v,P i v->∃ t,v=Value.str (tx (ls.getD i [])) t)(hn:n+1<scanBound) :
  ∀ (k i:Nat) (s:Shared),n-i=k->i<=n->St i s->Has prog w s.heap D (nubTo ls i) ->
   (∀ s',Moved (D::wr) G s s'->Has prog w s'.heap D (nubTo ls n)->R (.ok (.ret .none)) s')->codeAny (model prog w) A (.builtin "set.update.loop" ⟨[.ref D,.ref J],[]⟩) R s:=by
 have hDw:D∉wr:=fun z=>hD (W.sub _ z)
 have up:∀ b∈wr,b∈D::wr:=fun b hb=>.tail _ hb
 intro k
 induction k with
 | zero =>
  intro i s hk hi st hs hR
  obtain rfl:i=n:=by omega
  refine codeAny_builtin PyProof.Rows.F.entry_set_update_loop ?_
  rw [Around.under_plainId PyProof.Rows.F.plain_set_update_loop]
  refine wpAny_bind (m:=pyNext (.ref J)) (W.done s _ _ st fun s2 mv=>?_)
  exact (show wpAny _ A.in1 (ret Value.none) _ _ s2 from wpAny_pure (hR s2 (mv.mono up) (hs.at fun o e=>mv.heap D o hDw e)))
 | succ k ih =>
  intro i s hk hi st hs hR
  have hlt:i<n:=by omega
  refine codeAny_builtin PyProof.Rows.F.entry_set_update_loop ?_
  rw [Around.under_plainId PyProof.Rows.F.plain_set_update_loop]
  refine wpAny_bind (m:=pyNext (.ref J)) (W.item i s _ _ hlt st fun v s2 pv st2 mv=>?_)
  obtain ⟨t,rfl⟩:=hv i v pv
  have hs2:=hs.at fun o e=>mv.heap D o hDw e
  refine wpAny_bind (m:=holding [Value.str (tx (ls.getD i [])) t] (setAdd D (.str (tx (ls.getD i [])) t))) (wpAny_holding ?_)
  unfold setAdd
  refine wpAny_holding (wpAny_bind ((PySem.strKind prog w).pyHash (k:=tx (ls.getD i [])) (strKind_is _ _ _ _) ?_))
  have hl:=nubTo_len ls i
  refine wpAny_setAddHashed_of (knd:=PySem.strKind prog w) (s:={ s2 with toks:=s2.toks+1 }) (strKind_is _ _ _ _) rfl hs2 (by omega) fun h3 sb x3=>?_
  have x4:Has prog w h3 D (nubTo ls (i+1)):=by
   refine PyProof.Rows.SetOf_congr x3 (fun y=>?_) ?_
   ·rw [nubTo]
    split
    ·rename_i hm
     rw [Bool.eq_iff_iff,Bool.or_eq_true,decide_eq_true_iff,decide_eq_true_iff]
     constructor
     ·rintro (q | q)
      ·exact q
      ·rw [q,tx_cps]
       exact hm
     ·exact .inl
    ·rw [Bool.eq_iff_iff,Bool.or_eq_true,decide_eq_true_iff,decide_eq_true_iff,decide_eq_true_iff,List.mem_append,List.mem_singleton]
     constructor
     ·rintro (q | q)
      ·exact .inl q
      ·right
       rw [q,tx_cps]
     ·rintro (q | q)
      ·exact .inl q
      ·right
       rw [<- q,tx_eta]
   ·rw [tx_cps,nubTo]
    by_cases hm:ls.getD i []∈nubTo ls i
    ·rw [if_pos hm,if_pos (decide_eq_true hm)]
    ·rw [if_neg hm,if_neg (by rw [decide_eq_false hm];exact Bool.false_ne_true),List.length_append]
     rfl
  refine wpAny_pure ⟨plainId_quiet PyProof.Rows.F.plain_set_update_loop _,ih (i+1) _ (by omega) hlt (W.frame _ s2 _ _ st2 (Nat.le_succ _) fun b hb o e=>(sb.2 b fun z=>hD (z▸hb)).trans e) x4 fun s5 m5 x5=>?_⟩
  refine hR s5 (Moved.trans W.gtrans ((mv.mono up).then_heap (Nat.le_succ _) fun b o hb e=>(sb.2 b fun z=>hb (z▸.head _)).trans e) m5) x5
variable {E:Value->Shared->Prop}{s:Shared}
theorem call_of {l:Addr}{its:Array Value}{ls:List (List Nat)}{Q:Value->Shared->Prop}(hh:A.handled=none)(hl:s.heap.IsList l its)(hv:∀ i v,its[i]?=some v->∃ t,v=Value.str (tx (ls.getD i [])) t)(hn:its.size+1<scanBound)
  (h:∀ (h':Heap) (tk:Nat),Has prog w h' s.heap.objs.size (nubTo ls its.size)->(∀ b o,s.heap.get? b=some o->h'.get? b=some o)->Q (.ref s.heap.objs.size) { s with heap:=h',toks:=tk }) :
  wpAny (model prog w) A (call (.type "set") [.ref l]) Q E s:=by
 obtain ⟨mc,mt,f0⟩:=F.called_set.mro
 have f1:=F.called_set.made;have f2:=F.called_set.sub;have f3:=F.called_set.notType;have f4:=F.called_set.canCreate;have f5:=F.typeCall_set_1 (.ref l)
 refine wpAny_call (codeAny_of_tree (show wpAny _ _ (callAny (.type "set") _) _ _ _ from wpAny_pure ⟨Code.quiet_builtin _ (by decide +kernel),codeAny_builtin F.entry_type_call ?_⟩))
 rw [Around.under_plain (weight_type_call_type "set" [.ref l] []) rfl]
 repeat (any_goals (first | wp_step | assumption))
 refine codeAny_mono (code_set_new_1 (.ref l) (E:=E) (Q₁:=fun ob s1=>∃ b:Bool,ob = .ref s.heap.objs.size∧s1 = { s with heap:=s.heap.push { cls:=.type "set",dict:=none,data:=.set #[] 0 (.fresh 0 0 b) } }) fun b=>⟨b,rfl,rfl⟩) fun r s1 hr=>?_
 cases r with
 | error e=>exact hr
 | ok fl =>
  cases fl with
  | ret ob =>
   obtain ⟨b,rfl,rfl⟩:=hr
   generalize hob:({ cls:=.type "set",dict:=none,data:=.set #[] 0 (.fresh 0 0 b) }:Obj)=ob
   have hD:(s.heap.push ob).get? s.heap.objs.size=some ob:=Heap.get?_push_size _ (by rw [<- hob];rfl)
   have hT:Shared.TypeIs { s with heap:=s.heap.push ob } (.ref s.heap.objs.size) "set" := ⟨_,hD,by rw [<- hob]⟩
   have f6:=F.called_set.init.lookup;have f7:=F.called_set.init.bind (.ref s.heap.objs.size)
   repeat (any_goals (first | wp_step | assumption))
   refine codeAny_mono (codeAny_call_builtin (R:=wants (fun r s2=>r = .none∧∃ h' tk,s2 = { s with heap:=h',toks:=tk }∧Has prog w h' s.heap.objs.size (nubTo ls its.size)∧∀ b o,s.heap.get? b=some o->h'.get? b=some o) E)
    F.called_set.init.plain F.entry_set_init (check_set_init_1 hT ?_)) fun r2 s2 hr2=>?_
   ·obtain ⟨⟨oc,od,odt,osl⟩,hol,hcl,nl,hdl⟩:=id hl
    simp only at hcl hdl
    subst hcl hdl
    have hol':(s.heap.push ob).get? l=some { cls:=.type "list",dict:=od,data:=.seq its nl,slots:=osl }:=Heap.get?_push_of_some _ hol
    have f8:=F.sub_list_set;have f9:=F.sub_list_frozenset
    have f10:(Value.type "list" == Value.type "dict")=false:=by decide
    have hl1:(s.heap.push ob).IsList l its:=⟨_,hol',rfl,nl,rfl⟩
    subst hob
    unfold Builtin.«set.__init__» noKeywords Builtin.Frozenset.updateFrom
    generalize hPI:pyIter=PI
    wp_walk
    subst hPI
    refine wpAny_pyIter_list hl1 ?_
    refine wpAny_bind (wpAny_runValue ?_)
    have hlt:l<s.heap.objs.size:=Heap.lt_size hol
    have hh3:A.in1.in1.in1.handled=none:=by simp [hh]
    have hsz:(s.heap.push { cls:=.type "set",dict:=none,data:=.set #[] 0 (.fresh 0 0 b) }).objs.size=s.heap.objs.size+1:=Heap.size_push _ _
    have hne:l≠(s.heap.push { cls:=.type "set",dict:=none,data:=.set #[] 0 (.fresh 0 0 b) }).objs.size:=by rw [hsz];exact Nat.ne_of_lt (Nat.lt_succ_of_lt hlt)
    have hfp:s.heap.objs.size∉[(s.heap.push { cls:=.type "set",dict:=none,data:=.set #[] 0 (.fresh 0 0 b) }).objs.size,l]:=by
     rw [hsz]
     intro z
     rcases List.mem_cons.mp z with e | e
     ·exact Nat.ne_of_lt (Nat.lt_succ_self _) e
     ·exact Nat.ne_of_gt hlt (List.mem_singleton.mp e)
    refine loop ((Walks.list hh3 _ l hne its).toS) (D:=s.heap.objs.size) hfp ls hv hn (its.size-0) 0 _ (by omega) (Nat.zero_le _) ⟨⟨_,Heap.get?_push_size _ rfl,rfl,rfl⟩,hl1.push _⟩ ?_ fun s3 mv x3=>?_
    ·have hg:((s.heap.push { cls:=.type "set",dict:=none,data:=.set #[] 0 (.fresh 0 0 b) }).push { cls:=.type "list_iterator",data:=.fields #[.ref l,.int 0 0] }).get? s.heap.objs.size=some { cls:=.type "set",dict:=none,data:=.set #[] 0 (.fresh 0 0 b) }:=Heap.get?_push_of_some _ hD
     exact PyProof.Rows.SetOf_congr ((PyProof.Rows.setObjOf_fresh (knd:=PySem.strKind prog w) b).setOf hg (by unfold scanBound;omega)) (fun _=>rfl) rfl
    ·obtain ⟨h3,g3,d3,tk3,os3⟩:=s3
     obtain rfl:g3=s.gens:=mv.gens
     obtain rfl:d3=s.drawn:=mv.drawn
     obtain rfl:os3=s.os:=mv.os
     refine wpAny_pure (show wpAny _ _ (ret Value.none) _ _ _ from wpAny_pure ⟨rfl,h3,tk3,rfl,x3,fun c o e=>?_⟩)
     have hc:=Heap.lt_size e
     exact mv.heap c o (show c∉[s.heap.objs.size,(s.heap.push { cls:=.type "set",dict:=none,data:=.set #[] 0 (.fresh 0 0 b) }).objs.size] by
      rw [hsz]
      intro z
      rcases List.mem_cons.mp z with e | e
      ·exact Nat.ne_of_lt hc e
      ·exact Nat.ne_of_lt (Nat.lt_succ_of_lt hc) (List.mem_singleton.mp e)) (Heap.get?_push_of_some _ (Heap.get?_push_of_some _ e))
   ·cases r2 with
    | error e=>exact hr2
    | ok fl2 =>
     cases fl2 with
     | ret r =>
      obtain ⟨rfl,h3,tk,rfl,x3,k3⟩:=hr2
      repeat (any_goals (first | wp_step | assumption))
      exact h _ _ x3 k3
     | _=>exact hr2.elim
  | _=>exact hr.elim
end
end SE
def SetT (P:Program)(w:World)(D:Addr)(ms:List (List Nat)):HO:=.ext fun h=>SE.Has P w h D ms
section
variable {X:Cx}
theorem str_at {ls:List (List Nat)}{us:List Value}(r:Vals (ls.map T) us){i:Nat}{v:Value}(h:us[i]?=some v):∃ t,v=Value.str (tx (ls.getD i [])) t:=by
 have hl:=r.length
 rw [List.length_map] at hl
 have hi:i<ls.length:=by have:=(List.getElem?_eq_some_iff.mp h).1;omega
 obtain ⟨u,h1,h2⟩:=r.get (i:=i) (x:=T ls[i]) (by rw [List.getElem?_map,List.getElem?_eq_getElem hi];rfl)
 rw [h] at h1
 cases h1
 rw [List.getD_eq_getElem?_getD,List.getElem?_eq_getElem hi]
 exact h2
theorem call_setT (hc:X.calm=true):CallR X (.type "set") (fun xs H Q=>∃ (p:Addr) (ls:List (List Nat)),xs=[.ref p]∧SqL X.K H p (ls.map T)∧ls.length+1<4096∧∀ D,H D=none->Q (.ref D) (upd H D (SetT X.prog X.w D (uniq ls)))):=by
 intro pins s σ H xs us Q I r h
 obtain ⟨p,ls,rfl,hq,hz,q⟩:=h
 obtain ⟨u,rfl,ru⟩:=vals1 r
 cases ru
 obtain ⟨its,rv,pl,_⟩:=I.list hq
 have hlen:=rv.length
 rw [List.length_map] at hlen
 refine SE.call_of (I.ok.hd hc) pl.isList (ls:=ls) (fun i v e=>str_at rv (by simpa using e)) (by rw [List.size_toArray];unfold scanBound;omega) fun h' tk x k=>?_
 have e:nubTo ls its.toArray.size=uniq ls:=by rw [List.size_toArray,<- hlen];rfl
 rw [e] at x
 have hf:H s.heap.objs.size=none:=I.hok.fresh (Nat.le_refl _)
 refine ⟨.ref s.heap.objs.size,_,I.laid (t':=tk) k (Nat.le_refl _) (o:=SetT X.prog X.w s.heap.objs.size (uniq ls)) ?_,rfl,q _ hf⟩
 refine ⟨x,?_,fun h1 h2 x1 kk=>x1.at kk⟩
 obtain ⟨o,_,_,_,ho,_⟩:=x
 exact ⟨o,ho⟩
theorem call_lenS:CallR X (.builtin "len") (fun xs H Q=>∃ (D:Addr) (ms:List (List Nat)),xs=[.ref D]∧H D=some (SetT X.prog X.w D ms)∧Q (.int (ms.length:Nat)) H):=by
 intro pins s σ H xs us Q I r h
 obtain ⟨D,ms,rfl,hD,q⟩:=h
 obtain ⟨u,rfl,ru⟩:=vals1 r
 cases ru
 obtain ⟨⟨o,es,ep,tb,ho,hex,hd,_,_,hb,hf,hn⟩,_⟩:=(show ObjOk X.prog X.w H s.heap D (SetT X.prog X.w D ms) from I.hok D _ hD)
 have hb':es.size<4096:=hb
 exact call_len_set ho hex hd hf (by omega) ⟨.int (ms.length:Nat),H,I.tok _,⟨s.toks+1,by rw [<- hn]⟩,q⟩
end
end L2
namespace L2
open PySem PySem.Spec PyProof.Rows
section
variable {X:Cx}
namespace LM
end LM
theorem call_len_K (K:PySem.W.Frag)(hK:X.K=K):CallR X (.builtin "len") (fun xs H Q=>∃ p ys,xs=[.ref p]∧(SqL K H p ys∨SqT K H p ys)∧Q (.int ys.length) H):=by
 subst hK
 exact call_len_seq
theorem ix_list_K (K:PySem.W.Frag)(hK:X.K=K):IxR X (rIxL K):=by
 subst hK
 exact ix_list
end
end L2
namespace L2
open PySem PySem.Spec PyProof.Rows
def Itx (l:List Nat):It:=⟨fun i _=>i<l.length,fun i H x H'=>H'=H∧∃ c,l[i]?=some c∧x=T [c],fun i _=>l.length<=i⟩
theorem turn_text {P:Program}{w:World}{K:PySem.W.Frag}{tg:Expr}{it:Addr}{ty:String}{l:List Nat}{t:Tok}(hty:ty = "str_ascii_iterator" ∨ ty = "str_iterator")
  (W:∀ A:Around,A.handled=none->Walks P w A it [it] [it] (tx l).cps.size (SignAt (tx l)) (fun i h=>h.IsStrIter it ty (tx l) t i)):Turn P w K tg (Itx l) [it] it (fun i h=>h.IsStrIter it ty (tx l) t i) where
 mem:=by simp
 obj:=fun i h st b hb=>by
  have e:b=it:=by simpa using hb
  subst e
  obtain ⟨o,e,c,d⟩:=st
  exact ⟨o,e,fun v z=>by rw [d] at z;cases z⟩
 keep:=fun i h h' st k=>by
  obtain ⟨o,e,r⟩:=st
  exact ⟨o,k it (by simp) o e,r⟩
 item:=by
  intro X hP hw hK hc i pins s σ H E I hf st hg
  subst hP hw hK
  obtain ⟨f0,f1,f2,f3,f4,f5⟩:=hf it (by simp)
  refine (W X.A (I.ok.hd hc)).item i s _ _ (by have:i<l.length:=hg;simpa [tx] using this) st fun v h' tk hv st' kk=>?_
  obtain ⟨c,u,hcu,rfl⟩:=hv
  have I1:Inv X pins σ H { s with heap:=h',toks:=tk }:=I.turned (fun b o hb e=>kk b o (by simpa using hb) e) f0 f1 f3 f4 f5
  obtain ⟨o,e,cl,d⟩:=id st'
  refine ⟨_,rfl,go_of (s:={ s with heap:=h',toks:=tk }) (n:=ty) e cl d (by rcases hty with rfl | rfl <;> decide) ⟨T [c],H,I1,⟨u,rfl⟩,⟨rfl,c,?_,rfl⟩,st',fun b hb=>(hf b hb).1⟩⟩
  simpa [tx] using hcu
 done:=by
  intro X hP hw hK hc i pins s σ H E I hf st hg
  subst hP hw hK
  obtain ⟨f0,f1,f2,f3,f4,f5⟩:=hf it (by simp)
  have hn:l.length<=i:=hg
  obtain ⟨o,e,cl,d⟩:=id st
  rcases hty with rfl | rfl
  ·exact wpAny_pyNext_ascii_end (I.ok.hd hc) st (by simpa [tx] using hn) fun h' eb=>⟨rfl,I.turned (t':=s.toks) (fun b o hb e=>eb b o hb e) f0 f1 f3 f4 f5⟩
  ·exact wpAny_pyNext_wide_end (I.ok.hd hc) st (by simpa [tx] using hn) fun h' eb=>⟨rfl,I.turned (t':=s.toks) (fun b o hb e=>eb b o hb e) f0 f1 f3 f4 f5⟩
 self:=fun A i s Q E st h=>by
  rcases hty with rfl | rfl
  ·exact wpAny_pyIter_striter_ascii st h
  ·exact wpAny_pyIter_striter_wide st h
def iStr (tl:TE):TI:=fun σ H R=>tl σ H fun x H1=>∃ l,x=T l∧R (Itx l) H1
section
variable {X:Cx}{tg:Expr}
theorem pi_str {e:Expr}{tl:TE}(hl:PE X e tl):PI X tg e (iStr tl):=by
 intro pins s σ H R I h
 refine thn (hl pins s σ H _ I h) fun v s1 ⟨x,H1,I1,r1,q1⟩=>?_
 obtain ⟨l,rfl,q⟩:=q1
 obtain ⟨t,rfl⟩:=r1
 have fin:∀ (ty:String) (o:Obj),(ty = "str_ascii_iterator" ∨ ty = "str_iterator")->(∀ A:Around,A.handled=none->Walks X.prog X.w A s1.heap.objs.size [s1.heap.objs.size] [s1.heap.objs.size] (tx l).cps.size (SignAt (tx l)) (fun i h=>h.IsStrIter s1.heap.objs.size ty (tx l) t i)) ->
   (s1.heap.push o).IsStrIter s1.heap.objs.size ty (tx l) t 0->PIE X pins σ tg R (.ref s1.heap.objs.size) { s1 with heap:=s1.heap.push o }:=fun ty o hty W st=>by
  refine ⟨s1.heap.objs.size,[s1.heap.objs.size],_,_,H1,rfl,I1.kept (t':=s1.toks) fun b o e=>Heap.get?_push_of_some _ e,turn_text hty W,st,fun b hb=>?_,q⟩
  have e:b=s1.heap.objs.size:=by simpa using hb
  subst e
  exact I1.fpOk (Nat.le_refl _) (I1.hok.fresh (Nat.le_refl _))
 cases ha:(tx l).cps.all (· < 128)
 ·exact wpAny_pyIter_wide ha (fin "str_iterator" _ (.inr rfl) (fun A hA=>Walks.strWide hA _ (tx l) t) ⟨_,Heap.get?_push_size _ rfl,rfl,rfl⟩)
 ·exact wpAny_pyIter_ascii ha (fin "str_ascii_iterator" _ (.inl rfl) (fun A hA=>Walks.strAscii hA _ (tx l) t) ⟨_,Heap.get?_push_size _ rfl,rfl,rfl⟩)
end
theorem for_text {l:List Nat}{g:TG}{tb:TS}{D:Ends}{σ:St}{H:Hp}(Pv:Nat->St->Hp->Prop)(h0:Pv 0 σ H)
  (hs:∀ i c σ H,l[i]?=some c->Pv i σ H->g (T [c]) σ H fun σ2 H2=>tb { D with nx:=Pv (i+1),ct:=Pv (i+1),bk:=D.nx } σ2 H2) (hd:∀ σ H,Pv l.length σ H->D.nx σ H) :
  ∃ W:Nat->Nat->St->Hp->Prop,(∃ m,W 0 m σ H)∧∀ i m σ H,W i m σ H ->
   ((Itx l).stop i H∧D.nx σ H)∨((Itx l).go i H∧∃ N:St->Hp->Prop,(∀ σ' H',N σ' H'->∃ m',m'<m∧W (i+1) m' σ' H')∧∀ x H',(Itx l).yld i H x H'->g x σ H' fun σ2 H2=>tb { D with nx:=N,ct:=N,bk:=D.nx } σ2 H2):=by
 refine ⟨fun i m σ H=>m=l.length-i∧i<=l.length∧Pv i σ H,⟨l.length,by simp,Nat.zero_le _,h0⟩,?_⟩
 rintro i m σ H ⟨rfl,hi,p⟩
 by_cases hlt:i<l.length
 ·refine .inr ⟨hlt,Pv (i+1),fun σ' H' p'=>⟨l.length-(i+1),by omega,rfl,hlt,p'⟩,fun x H' y=>?_⟩
  obtain ⟨rfl,c,hc,rfl⟩:=y
  exact hs i c σ _ hc p
 ·obtain rfl:i=l.length:=by omega
  exact .inl ⟨Nat.le_refl _,hd σ H p⟩
section
variable {X:Cx}
theorem op_in_sT:OpR X (compareOp .In) (fun x y H Q=>∃ c,x=T [c]∧∃ l,y=T l∧Q (.bl (decide (c∈l))) H):=by
 intro pins s σ H x y v u Q I rx ry h
 obtain ⟨c,e1,l,e2,q⟩:=h
 exact op_in_str pins s σ H x y v u Q I rx ry ⟨tx [c],tx l,e1,e2,by rw [show tx [c]=⟨#[c]⟩ from rfl,StrLaws.found_one,tx_cps];exact q⟩
theorem op_notin_sT:OpR X (compareOp .NotIn) (fun x y H Q=>∃ c,x=T [c]∧∃ l,y=T l∧Q (.bl (!decide (c∈l))) H):=by
 intro pins s σ H x y v u Q I rx ry h
 obtain ⟨c,e1,l,e2,q⟩:=h
 exact op_notin_str pins s σ H x y v u Q I rx ry ⟨tx [c],tx l,e1,e2,by rw [show tx [c]=⟨#[c]⟩ from rfl,StrLaws.found_one,tx_cps];exact q⟩
namespace RV
variable {prog:Program}{w:World}{A:Around}{E:Value->Shared->Prop}{s:Shared}
theorem collect_rev {Q:List Value->Shared->Prop}(hh:A.handled=none){it l:Addr}{items:Array Value}(hit:s.heap.IsRevIter it l ((items.size:Int)-1))(hl:s.heap.IsList l items)(hne:l≠it)
  (hQ:∀ h' tk,(∀ b o,b≠it->s.heap.get? b=some o->h'.get? b=some o)->Q items.toList.reverse { s with heap:=h',toks:=tk }) (hn:items.size<=sizeLine) :
  wpAny (model prog w) A (collect (.ref it)) Q E s:=by
 obtain ⟨oi,hoi,ri⟩:=id hit
 obtain ⟨ol,hol,rl⟩:=id hl
 unfold collect
 refine wpAny_bind (wpAny_runValue (codeAny_builtin F.entry_proto_collect ?_))
 rw [Around.under_plainId F.plain_proto_collect]
 refine wpAny_bind (m:=newList []) (wpAny_newObj_type (wpAny_pure ⟨plainId_quiet F.plain_list_iadd _,codeAny_builtin F.entry_list_iadd ?_⟩))
 rw [Around.under_plainId F.plain_list_iadd]
 have hS:(s.heap.push { cls:=.type "list",data:=.seq #[] }).get? s.heap.objs.size=some { cls:=.type "list",data:=.seq #[] }:=Heap.get?_push_size _ rfl
 have go:∀ R:Result->Shared->Prop,(∀ h' tk acc c,(∀ b o,b≠it->s.heap.get? b=some o->h'.get? b=some o)->h'.get? s.heap.objs.size=some { cls:=.type "list",dict:=none,data:=.seq acc c,slots:=#[] }->acc.toList=items.toList.reverse ->
   R (.ok (.ret (.ref s.heap.objs.size))) { s with heap:=h',toks:=tk })->wpAny (model prog w) A.in1 (Builtin.List.listExtendWith (.ref s.heap.objs.size) (.ref it) (.ref s.heap.objs.size))
    (fun fin s'=>match fin with | .done f=>R (.ok f) s' | .again c'=>c'.quiet=true∧codeAny (model prog w) A c' R s') (fun e s'=>R (.error e) s') { s with heap:=s.heap.push { cls:=.type "list",data:=.seq #[] } }:=fun R hR =>
  extend_rev (A:=A) (s:={ s with heap:=s.heap.push { cls:=.type "list",data:=.seq #[] } }) hh ⟨oi,Heap.get?_push_of_some _ hoi,ri⟩ ⟨ol,Heap.get?_push_of_some _ hol,rl⟩ hne s.heap.objs.size (.ref s.heap.objs.size) 0
   (Ne.symm (Nat.ne_of_lt (Heap.lt_size hoi))) (Ne.symm (Nat.ne_of_lt (Heap.lt_size hol))) hS (fun h' tk acc' c' hk hS' hacc=>hR h' tk acc' c' (fun b o hb e=>hk b o (Nat.ne_of_lt (Heap.lt_size e)) hb (Heap.get?_push_of_some _ e)) hS' hacc) hn
 refine go (fun r s'=>match r with
  | .ok (.ret v)=>wpAny (model prog w) A (match v with
   | .ref a=>do
    match (<- load a).data with
    | .seq xs _=>pure xs.toList
    | _=>unsupported "internal:collect"
   | _=>unsupported "internal:collect") Q E s'
  | .ok _=>False
  | .error e=>E e s') fun h' tk acc c hk hS' hacc=>?_
 refine wpAny_bind (m:=load s.heap.objs.size) (wpAny_load hS' (wpAny_pure ?_))
 rw [hacc]
 exact hQ h' tk hk
theorem join_rev {Q:Value->Shared->Prop}(hh:A.handled=none){it l:Addr}{items:Array Value}{x:Str}{t:Tok}{ys:List Str}(hit:s.heap.IsRevIter it l ((items.size:Int)-1))(hl:s.heap.IsList l items)(hne:l≠it)(hy:StrsAre items.toList.reverse ys)
  (hok:(ys.map (·.length)).sum+ys.length*x.length<=16777216)
  (hQ:∀ h' tk t',(∀ b o,b≠it->s.heap.get? b=some o->h'.get? b=some o)->Q (.str (Txt.join x ys) t') { s with heap:=h',toks:=tk }) (hn:items.size<=sizeLine) :
  wpAny (model prog w) A (call (.builtin "str.join") [.str x t,.ref it]) Q E s:=by
 refine wpAny_call (codeAny_call_builtin F.slot_str_join.plain F.entry_str_join (F.slot_str_join.check _ _ _ _ _ _ _ _ (typeIs_str _ _ _) (F.args_str_join_2 _ _) ?_))
 rw [join_tree_other]
 refine wpAny_bind (wpAny_typeOf hit.typeIs ?_)
 rw [if_neg (by decide)]
 refine wpAny_bind (wpAny_tryCatch (wpAny_pyIter_revIter hit (wpAny_bind (collect_rev (A:=A.in1) hh hit hl hne (fun h' tk hk=>?_) hn))))
 obtain ⟨lt,hv,ht⟩:=strsAre_values hy
 rw [hv]
 have hok':=joinOk_of hok
 unfold JoinOk at hok'
 rw [Bool.not_eq_true',<- ht] at hok'
 have g:Gives (joinTail x (strValues lt)) (joinMade x lt):=by
  have g0:=gives_joinTail x lt hok'
  cases lt with
  | nil=>exact g0
  | cons p r=>cases r with
   | nil=>exact g0
   | cons q r'=>exact g0
 refine g prog w A (wants Q E) { s with heap:=h',toks:=tk } (post_join lt ⟨joinFit_length hok',fun t' k=>?_⟩)
 rw [ht]
 exact hQ h' k t' hk
end RV
def tJR (K:PySem.W.Frag)(t:TE):TE:=fun σ H Q=>t σ H fun x H1=>∃ (p:Addr) (ls:List (List Nat)),x = .ref p∧SqL K H1 p (ls.map T)∧ls.flatten.length<=sizeLine∧Q (T ls.reverse.flatten) H1
theorem pe_joinrev {e:Expr}{t:TE}{j}{cp apos cpos p2 pos2:Pos}(hc:X.calm=true)(g2:Gl X "reversed")(m2:X.mg "reversed" = none)(he:PE X e t){x0:Str}(hx:x0=tx [])
  (hbase:attributeBase (.Constant (.str x0) j cp) "join" X.env (eval (.Constant (.str x0) j cp) X.env)=eval (.Constant (.str x0) j cp) X.env:=by rfl)
  (hline:(apos.endLine==cpos.line)=true:=by rfl) (s1:starEach [e] X.env=(false,eval e X.env)::starEach [] X.env:=by rfl)
  (hb2:bootBuiltins "reversed" = some (.type "reversed"):=by decide +kernel) :
  PE X (.Call (.Attribute (.Constant (.str x0) j cp) "join" apos) [.Call (.Name "reversed" p2) [e] [] pos2] [] cpos) (tJR X.K t):=by
 intro pins s σ H Q I h
 subst hx
 refine wpAny_Call_method_late hbase rfl hline rfl (Calls.Constant_str ?_)
 refine ⟨"str", "str.join",PySem.F.plainAttrs_str,PySem.F.slot_str_join,PySem.F.type_str_join,typeIs_str _ _ _,fun a z=>(by cases z),?_⟩
 refine Calls.callWith_builtin rfl (Calls.evalArgs_plain ?_)
 show wpAny _ _ (spliced ((false,eval (.Call (.Name "reversed" p2) [e] [] pos2) X.env)::backTo cpos (starEach [] X.env))) _ _ _
 refine Calls.spliced_cons (thn (Q:=fun u s1=>wpAny (model X.prog X.w) X.A (call (.builtin "str.join") [.str (tx []) s.toks,u]) (EP X pins σ Q) X.xe s1) ?_ fun u s1 z=>Calls.spliced_nil z)
 have I0:Inv X pins σ H { s with toks:=s.toks+1 }:=I.tok _
 refine wpAny_Call_Name_kw (ld_blt I0 g2 m2 hb2 ?_ (by decide) (by decide))
 refine PyProof.Rows.callWith_type1 (arg1 (thn (he pins _ σ H _ I0 h) fun u s' ⟨v,H1,I1,r1,q1⟩=>?_) s1) s1 rfl
 obtain ⟨p,ls,rfl,hq,hz2,q⟩:=q1
 cases r1
 obtain ⟨its,r,pl,hz⟩:=I1.list hq
 have hl:=pl.isList
 refine call_reversed_list hl ?_
 have hlt:p<s'.heap.objs.size:=by obtain ⟨o,ho,_⟩:=hl;exact Heap.lt_size ho
 have hl2:(s'.heap.push (revObj p ((its.toArray.size:Int)-1))).IsList p its.toArray:=by
  obtain ⟨o,ho,rr⟩:=hl
  exact ⟨o,Heap.get?_push_of_some _ ho,rr⟩
 have hrv:Vals (ls.reverse.map T) its.toArray.toList.reverse:=by
  rw [List.map_reverse]
  simpa using r.reverse
 have hs:sizeLine=16777216:=sizeLine_eq
 have hfl:(ls.reverse.flatten).length=ls.flatten.length:=((List.reverse_perm ls).flatten).length_eq
 refine RV.join_rev (I1.ok.hd hc) (it:=s'.heap.objs.size) (l:=p) (items:=its.toArray) (ys:=ls.reverse.map tx) ⟨_,Heap.get?_push_size _ rfl,rfl,rfl⟩ hl2 (Nat.ne_of_lt hlt) (strsAre_T hrv) (by rw [sum_len_tx,tx_len,List.length_nil,Nat.mul_zero];omega) (fun h' tk t' hk=>?_) (by rw [List.size_toArray,<- r.length];exact hz)
 refine ⟨T ls.reverse.flatten,H1,I1.kept (t':=tk) fun b u eb=>hk b u (Nat.ne_of_lt (Heap.lt_size eb)) (Heap.get?_push_of_some _ eb),⟨t',by rw [join_tx]⟩,q⟩
end
end L2
namespace L2
open PySem PySem.Spec PyProof.Rows
section
variable {P:Program}{w:World}{K:PySem.W.Frag}{mg:Str->Option Value}{base:Heap}
end
open PySem.W in
set_option genInjectivity false in
structure Knd (K:PySem.W.Frag)(C:Addr):Prop where
 ga:findIn K (.ref C) "__getattribute__" = some (some (.builtin "BaseException.__getattribute__"))
 hk:findIn K (.ref C) "__getattr__" = some none
 ha:findIn K (.ref C) "__class__" = some (some (.builtin "object.__class__"))
 hn:specialIn K (.builtin "object.__class__") "__get__" = some (some (.builtin "getset_descriptor.__get__"))
 htk:takesIn K (.builtin "object.__class__")=some true
 hm:mroIn K C (.type "object")=some true
 hb:mroIn K C (.type "BaseException")=some true
 cl:(clsIn K C).isSome=true
namespace EX
open PySem.W PySem.Calls PySem.Builtin PySem.Builtin.ObjectAttr PySem.Builtin.Getset_descriptor
variable {prog:Program}{w:World}{A:Around}{E:Value->Shared->Prop}{s:Shared}{K:PySem.W.Frag}{a C:Addr}
theorem ty {M:Model}{h:Heap}(p:∃ o,h.get? a=some o∧o.cls = .ref C):Looks M h (typeOf (.ref a)) (.ref C):=by
 obtain ⟨o,h1,h2⟩:=p
 exact h2▸(Looks.ld h1).andThen .now
theorem found {M:Model}{h:Heap}(X:K.In h)(k:Knd K C):Looks M h (find (.ref a) (.ref C) "__class__") (.bind (.builtin "getset_descriptor.__get__") (.builtin "object.__class__")):=by
 have L1:=looks_findIn (M:=M) X k.ha
 have L2:Looks M h (getOf (some (.builtin "object.__class__"))) (some (.builtin "getset_descriptor.__get__")):=looks_specialIn X k.hn
 have L3:=looks_takesIn (M:=M) X k.htk
 refine L1.andThen (L2.andThen ?_)
 exact (show Looks M h (dataDescriptor? (some (.builtin "object.__class__")) (some (.builtin "getset_descriptor.__get__"))) (some (.builtin "getset_descriptor.__get__",.builtin "object.__class__")) from L3.andThen .now).andThen (Looks.tag .now)
theorem get {tp:Value}{R:Result->Shared->Prop}(X:K.In s.heap)(k:Knd K C)(p:∃ o,s.heap.get? a=some o∧o.cls = .ref C)(h:R (.ok (.ret (.ref C))) s) :
  codeAny (model prog w) A (.call (.builtin "getset_descriptor.__get__") ⟨[.builtin "object.__class__",.ref a,tp],[]⟩) R s:=by
 obtain ⟨hh,g,dr,t,os⟩:=s
 have L0:=ty (M:=model prog w) p
 have L1:=looks_mroIn (M:=model prog w) X k.hm
 refine codeAny_call_builtin KF.slot_gs.plain KF.entry_gs (KF.slot_gs.check _ _ _ _ _ _ _ _ KF.type_class (KF.args_gs _ _ _) ?_)
 unfold Builtin.«getset_descriptor.__get__» descrGet
 rw [dga_obj]
 refine wpAny_bind (wpAny_pure ?_)
 unfold descrGetter descrCheckInstance descrNameAndClass isInstance
 simp only [KF.owner_class]
 repeat lk
 refine ⟨Code.quiet_builtin _ (by decide +kernel),codeAny_builtin KF.entry_class ?_⟩
 unfold Builtin.«object.__class__» shownTypeOf
 repeat lk
 exact h
theorem attr {Q:Option Value->Shared->Prop}(X:K.In s.heap)(k:Knd K C)(p:∃ o,s.heap.get? a=some o∧o.cls = .ref C)(h:Q (some (.ref C)) { s with toks:=s.toks+1 }) :
  wpAny (model prog w) A (getAttr? (.ref a) "__class__") Q E s:=by
 obtain ⟨hh,g,d,t,os⟩:=s
 have L0:=ty (M:=model prog w) p
 have L1:=looks_findIn (M:=model prog w) X k.ga
 have L2:=looks_findIn (M:=model prog w) X k.hk
 have L3:=found (M:=model prog w) (a:=a) X k
 have L4:=looks_mroIn (M:=model prog w) X k.hb
 unfold getAttr? getAttrBy? getAttrBy
 refine wpAny_bind (wpAny_mkText (wpAny_bind (wpAny_attempt (wpAny_holding (wpAny_bind (L0.at (wpAny_bind (L1.at ?_))))))))
 dsimp only
 have hx:(Value.builtin "BaseException.__getattribute__" == Value.builtin "object.__getattribute__")=false:=by decide +kernel
 rw [if_neg (by rw [hx,Bool.and_false];exact Bool.false_ne_true)]
 unfold getAttrByItsOwn hookBefore
 refine wpAny_bind (L2.at (wpAny_bind (wpAny_attempt (wpAny_holding ?_))))
 unfold callGetattribute boundAndCalled
 rw [if_neg (show ¬ (false&&onTheHeap (Value.builtin "BaseException.__getattribute__"))=true by decide)]
 refine wpAny_bind (wpAny_of_eq (F.attr_ValueError.ga.bind (.ref a)) ?_)
 have hk0:builtinKind "BaseException.__getattribute__" = some .slot:=by decide +kernel
 have hs0:splitId "BaseException.__getattribute__" = some ("BaseException", "__getattribute__"):=by decide +kernel
 have ha0:=F.args_bexc_ga (.ref a) (.str "__class__" t)
 refine wpAny_call (codeAny_call_builtin F.attr_ValueError.ga.plain F.entry_bexc_ga ?_)
 simp only [checkBuiltinCall,hk0,hs0]
 unfold isInstance
 refine wpAny_bind (wpAny_bind (L0.at (L4.at ?_)))
 rw [if_neg (by decide)]
 refine wpAny_of_eq ha0 ?_
 show wpAny _ A.in1 («object.__getattribute__» ⟨[.ref a,.str "__class__" t],[]⟩) _ _ _
 unfold «object.__getattribute__» slotArgs attrName
 iterate 8 lk
 refine wpAny_bind (wpAny_pure (wpAny_bind (L0.at (wpAny_bind (L3.at ?_)))))
 dsimp only
 unfold bindTo
 refine wpAny_bind (wpAny_holding (wpAny_call (get (a:=a) (C:=C) X k p (show wpAny _ _ (ret (Value.ref C)) _ _ _ from wpAny_pure (handed_on rfl (wpAny_pure h))))))
theorem kit (k:Knd K C):KitX K (.ref a) (.ref C) (fun h=>∃ o,h.get? a=some o∧o.cls = .ref C) where
 ty:=fun _ _ _ p=>ty p
 it:=fun _ _ X _=>by
  obtain ⟨cd,hc⟩:=Option.isSome_iff_exists.mp k.cl
  unfold clsIn at hc
  split at hc
  ·rename_i ho
   intro A' Q' E' s' kp q
   unfold isType loadHead
   exact wpAny_bind (wpAny_loadPart (kp _ _ (X _ _ ho)) (wpAny_pure q))
  ·cases hc
 ne:=fun h tp dd its n sl X htp=>by
  obtain ⟨cd,hc⟩:=Option.isSome_iff_exists.mp k.cl
  refine Bool.eq_false_iff.mpr fun q=>?_
  obtain rfl:C=tp:=Value.ref.inj (beq_iff_eq.mp q)
  unfold clsIn at hc
  split at hc
  ·rename_i ho
   have z:=(X _ _ ho).symm.trans htp
   cases z
  ·cases hc
 ca:=fun X p h=>attr X k p h
end EX
section
variable {X:Cx}
def clsV:Value->Option V
 | .ref c=>some (.ref c)
 | .type n=>some (.ty n)
 | _=>none
theorem clsV_rel {c:Value}{v:V}{u:Value}(h:clsV c=some v)(r:RelV v u):u=c:=by
 cases c <;> first
  | (cases h;exact r)
  | cases h
theorem vals_refs:∀ {cs:List Addr} {us:List Value},Vals (cs.map V.ref) us->us=cs.map Value.ref
 | [],_,r=>by cases r;rfl
 | c::cs,us,r=>by
  rw [List.map_cons] at r
  cases r with
  | cons r1 r2 =>
   cases r1
   rw [vals_refs r2]
   rfl
end
end L2
namespace L2
open PySem PySem.Spec PyProof.Rows
section
variable {X:Cx}{es:List Expr}{te:TE}{t:TA}
end
end L2
namespace L2
open PySem PySem.Spec PyProof.Rows
section
variable {X:Cx}{tg:Expr}
end
end L2
namespace L2
open PySem
section
variable {X:Cx}{N':List Str}{scope:Scope}{x:Str}{px:Pos}{elt iter cd:Expr}{pos:Pos}{te:TE}{tc:TT}{wi:TI}
theorem pe_compf (S:CompSc X.N N' X.env.scope scope x)(hc:X.calm=true)(hi:PI X (.Name x px) iter wi)(ht:∀ cl C s H fp,PT (cxComp X N' scope cl C s H fp) cd tc)(he:∀ cl C s H fp,PE (cxComp X N' scope cl C s H fp) elt te)
  (hs:∀ x,foldedSetIterable iter X.env x=pure x:=by intro _;rfl):PE X (.ListComp elt [⟨.Name x px,iter,[cd],0⟩] scope pos) (tCompF wi tc te) :=
 pe_compx (at':=fun σ Q=>compAtF tc te σ Q) S hc hi (fun cl C s H fp=>ptl_one (ht cl C s H fp)) he (fun _ _ _ _ h=>h) hs
theorem ps_setCompf {i:Nat}{y:Str}{py spos:Pos}(S:CompSc X.N N' X.env.scope scope x)(hc:X.calm=true)(hi:PI X (.Name x px) iter wi)(ht:∀ cl C s H fp,PT (cxComp X N' scope cl C s H fp) cd tc)(he:∀ cl C s H fp,PE (cxComp X N' scope cl C s H fp) elt te)
  (hN:X.N.Nodup) (hy:X.N[i]?=some y) (hyl:X.env.scope.names.lookup y=some .local)
  (hsw:swapsWith (.ListComp elt [⟨.Name x px,iter,[cd],0⟩] scope pos) (some (.Name y py)) spos.line X.env=pure true:=by rfl)
  (hs:∀ x,foldedSetIterable iter X.env x=pure x:=by intro _;rfl):PS X (.Assign [.Name y py] (.ListComp elt [⟨.Name x px,iter,[cd],0⟩] scope pos) spos) (tAsg (tCompF wi tc te) (gName i)) :=
 ps_setCompx (at':=fun σ Q=>compAtF tc te σ Q) S hc hi (fun cl C s H fp=>ptl_one (ht cl C s H fp)) he (fun _ _ _ _ h=>h) hN hy hyl hsw hs
end
section
variable {X:Cx}
end
theorem take_filter {α:Type}(p:α->Bool)(l:List α)(i:Nat)(v:α)(h:l[i]?=some v):(l.take (i+1)).filter p=(l.take i).filter p++(if p v then [v] else []):=by
 rw [List.take_add_one,h,List.filter_append]
 cases hp:p v <;> simp [hp]
theorem filter_take_len {α:Type}(p:α->Bool)(l:List α)(i:Nat):((l.take i).filter p).length<=i:=by
 have h1:=List.length_filter_le p (l.take i)
 rw [List.length_take] at h1
 omega
theorem compf_texts {K:PySem.W.Frag}{a:Addr}{ls:List (List Nat)}{tc:TT}{te:TE}{σ:St}{H:Hp}{Q:VK}(p:List Nat->Bool)(hl:SqL K H a (ls.map T))(hn:ls.length<=sizeLine)
  (he:∀ (i:Nat) l H',ls[i]?=some l->Same H H'->∀ N:Bool->Hp->Prop,(∀ H'',Same H' H''->N (p l) H'')->tc (some (T l)::σ) H' N)
  (hv:∀ x H' (N:V->Hp->Prop),N x H'->te (some x::σ) H' N)
  (hq:∀ D H',H D=none->Same H H'->H' D=some (.lst ((ls.filter p).map T))->Q (.ref D) H') :
  compAtF tc te σ Q (Itl K a) H:=by
 intro D hD
 refine ⟨fun i m ys H2=>m=ls.length-i∧i<=ls.length∧ys=((ls.take i).filter p).map T∧Same H H2∧H2 D=some (.lst ys),⟨ls.length,rfl,Nat.zero_le _,rfl,fun b o e=>?_,upd_same⟩,?_⟩
 ·rw [upd_ne (ne_of_none e hD)]
  exact e
 ·rintro i m ys H2 ⟨rfl,hi,rfl,hs,hd⟩
  by_cases hlt:i<ls.length
  ·have hx:ls[i]?=some ls[i]:=List.getElem?_eq_getElem hlt
   have hx2:(ls.map T)[i]?=some (T ls[i]):=by rw [List.getElem?_map,hx];rfl
   refine .inr ⟨⟨ls.map T,T ls[i],hs.seq hl,hx2⟩,by have:=filter_take_len p ls i;rw [List.length_map];omega,fun v H'=>v=T ls[i]∧p ls[i]=true∧Same H2 H',fun v H' ⟨ev,hp,hs'⟩=>⟨hs' D _ hd,ls.length-(i+1),by omega,rfl,hlt,?app,fun b o e=>?kp,upd_same⟩,
    fun H'=>p ls[i]=false∧Same H2 H',fun H' ⟨hp,hs'⟩=>⟨ls.length-(i+1),by omega,rfl,hlt,?skp,fun b o e=>hs' b o (hs b o e),hs' D _ hd⟩,fun y H' hy=>?stp⟩
   case app =>
    rw [ev,take_filter p ls i _ hx,hp,List.map_append]
    rfl
   case kp =>
    rw [upd_ne (ne_of_none e hD)]
    exact hs' b o (hs b o e)
   case skp =>
    rw [take_filter p ls i _ hx,hp]
    simp
   case stp =>
    obtain ⟨e1,e2⟩:=hy
    subst e1
    have e3:=e2 _ (hs.seq hl)
    have e4:y=T ls[i]:=by rw [hx2] at e3;exact (Option.some.inj e3).symm
    subst e4
    refine he i ls[i] _ hx hs _ fun H'' h''=>?_
    by_cases hp:p ls[i]=true
    ·rw [if_pos hp]
     exact hv _ H'' _ ⟨rfl,hp,h''⟩
    ·rw [if_neg hp]
     exact ⟨by simpa using hp,h''⟩
  ·have e:i=ls.length:=by omega
   subst e
   rw [List.take_length] at hd
   exact .inl ⟨⟨ls.map T,hs.seq hl,by rw [List.length_map];exact Nat.le_refl _⟩,hq D H2 hD hs hd⟩
end L2
set_option autoImplicit false
namespace SR
open PySem PyProof.Rows
def LtR (prog:Program)(w:World)(A:Around)(E:Value->Shared->Prop)(s:Shared)(κ:KeyKind)(kd:SortKind):Prop :=
 ∀ (st:SortSt) (x y:Keyed) (a b:κ.α) (Q:Option Bool->SortSt->Prop),kindOf st=kd->κ.keyOf x.1=some a->κ.keyOf y.1=some b->Q (some (κ.blt a b)) st->wpS (model prog w) A E s (lt' x y) Q st
theorem ltR_of {prog:Program}{w:World}{A:Around}{E:Value->Shared->Prop}{s:Shared}{κ:KeyKind}{kd:SortKind}
  (h:∀ (E:Value->Shared->Prop) (x y:Value) (a b:κ.α) (Q:Bool->Shared->Prop),κ.keyOf x=some a->κ.keyOf y=some b->Q (κ.blt a b) s->wpAny (model prog w) A (keyLt' kd x y) Q E s):LtR prog w A E s κ kd:=by
 intro st x y a b Q hk ha hb hq
 rw [lt'_eq];refine wpS_bind (wpS_get ?_);rw [hk]
 exact wpS_bind (wpS_lift (wpAny_attempt (h _ x.1 y.1 a b _ ha hb ⟨rfl,wpS_pure hq⟩)))
theorem ltR_one {prog:Program}{w:World}{A:Around}{E:Value->Shared->Prop}{s:Shared}{κ:KeyKind}(hO:κ.OneLt):LtR prog w A E s κ oneType' :=
 ltR_of fun E x y a b Q ha hb hq=>by rw [keyLt'_oneType];exact hO prog w A E s x y a b ha hb hq
set_option genInjectivity false in
structure SB (kd:SortKind)(z:Array Keyed)(st:SortSt):Prop where
 prm:(arrOf st).Perm z
 knd:kindOf st=kd
 ffl:failedOf st=none
theorem SB.sz {kd:SortKind}{z:Array Keyed}{st:SortSt}(h:SB kd z st):(arrOf st).size=z.size:=h.prm.size_eq
theorem SB.put {kd:SortKind}{z:Array Keyed}{st:SortSt}(h:SB kd z st){xs:Array Keyed}(hp:xs.Perm (arrOf st)):SB kd z (setArr st xs):=⟨hp.trans h.prm,h.knd,h.ffl⟩
def Up (κ:KeyKind)(xs:Array Keyed)(l r:Nat):Prop:=∀ i j,l<=i->i<=j->j<r->κ.kle (KK κ xs i) (KK κ xs j)
def Dn (κ:KeyKind)(xs:Array Keyed)(l r:Nat):Prop:=∀ i j,l<=i->i<=j->j<r->κ.kle (KK κ xs j) (KK κ xs i)
set_option genInjectivity false in
structure Kp (lo:Nat)(st st':SortSt):Prop where
 low:∀ k,k<lo->(arrOf st')[k]?=(arrOf st)[k]?
 pen:pendingOf st'=pendingOf st
theorem Kp.rfl' {lo:Nat}{st:SortSt}:Kp lo st st:=⟨fun _ _=>rfl,rfl⟩
theorem Kp.tr {lo:Nat}{a b c:SortSt}(h:Kp lo a b)(h':Kp lo b c):Kp lo a c:=⟨fun k hk=>(h'.low k hk).trans (h.low k hk),h'.pen.trans h.pen⟩
theorem kp_mirror {lo i j:Nat}{st:SortSt}(hj:j<=(arrOf st).size)(hi:lo<=i):Kp lo st (setArr st (mirror (arrOf st) i j ((j-i)/2))):=⟨fun k hk=>by
 show (mirror (arrOf st) i j ((j-i)/2))[k]?=_
 rw [getElem?_mirror_all hj,if_neg (by omega)],rfl⟩
section
variable {prog:Program}{w:World}{A:Around}{E:Value->Shared->Prop}{s:Shared}{z:Array Keyed}{κ:KeyKind}{kd:SortKind}
theorem SB.key {st:SortSt}(h:SB kd z st)(hz:KeysOf κ z){i:Nat}(hi:i<z.size):∃ x p a,(arrOf st)[i]?=some (x,p)∧κ.keyOf x=some a∧KK κ (arrOf st) i=a:=by
 have hi':i<(arrOf st).size:=by rw [h.sz];exact hi
 have hm:(arrOf st)[i]∈z.toList:=(Array.perm_iff_toList_perm.mp h.prm).mem_iff.mp (by simp)
 obtain ⟨a,ha⟩:=hz _ hm
 have e:(arrOf st)[i]?=some (arrOf st)[i]:=getElem?_pos _ i hi'
 exact ⟨(arrOf st)[i].1,(arrOf st)[i].2,a,by rw [e],ha,by unfold KK;rw [e];simp [ha]⟩
theorem w_lt {st:SortSt}{i j:Nat}{Q:Option Bool->SortSt->Prop}(hO:LtR prog w A E s κ kd)(hB:SB kd z st)(hz:KeysOf κ z)(hi:i<z.size)(hj:j<z.size)
  (h:Q (some (κ.blt (KK κ (arrOf st) i) (KK κ (arrOf st) j))) st):wpS (model prog w) A E s (ltAt' i j) Q st:=by
 obtain ⟨x,p,a,e1,ha,ka⟩:=hB.key hz hi
 obtain ⟨y,q,b,e2,hb,kb⟩:=hB.key hz hj
 rw [ka,kb] at h
 rw [ltAt'_eq];refine wpS_bind (wpS_get ?_);dsimp only
 rw [elem'_eq,elem'_eq,e1,e2];refine wpS_bind (wpS_pure (wpS_bind (wpS_pure ?_)))
 exact hO st (x,p) (y,q) a b Q hB.knd ha hb h
def upL (lo a m:Nat):StateT SortSt Sem AscSt :=
 forIn [a:m] ((none,a):AscSt) fun _ c=>do
  let o <- ltAt' (lo+c.snd) (lo+c.snd-1)
  match o with
  | some t=>if t=true then pure (ForInStep.done (none,c.snd)) else pure (ForInStep.yield (none,c.snd+1))
  | _=>pure (ForInStep.done (some none,c.snd))
def endL (lo n m:Nat):StateT SortSt Sem (Option Nat):=do
 reverseSlice' lo (lo+n)
 let c <- upL lo n m
 match c.fst with
 | some r=>pure r
 | none=>pure (some c.snd)
def dnL (lo n m:Nat):StateT SortSt Sem DescSt :=
 forIn [n:m] ((none,n,0):DescSt) fun _ c=>do
  let o <- ltAt' (lo+c.snd.fst) (lo+c.snd.fst-1)
  match o with
  | some t =>
   if t=true then
    if c.snd.snd>0 then do
     reverseSlice' (lo+c.snd.fst-(c.snd.snd+1)) (lo+c.snd.fst)
     pure (ForInStep.yield (none,c.snd.fst+1,0))
    else pure (ForInStep.yield (none,c.snd.fst+1,0))
   else do
    let o <- ltAt' (lo+c.snd.fst-1) (lo+c.snd.fst)
    match o with
    | some t=>if t=true then pure (ForInStep.done (none,c.snd.fst,c.snd.snd)) else pure (ForInStep.yield (none,c.snd.fst+1,c.snd.snd+1))
    | _=>pure (ForInStep.done (some none,c.snd.fst,c.snd.snd))
  | _=>pure (ForInStep.done (some none,c.snd.fst,c.snd.snd))
def dnP (lo n m:Nat):StateT SortSt Sem (Option Nat):=do
 liftM (rule "list.sort.descending-run")
 let c <- dnL lo (n+1) m
 match c.fst with
 | some r=>pure r
 | none =>
  if c.snd.snd>0 then do
   reverseSlice' (lo+c.snd.fst-(c.snd.snd+1)) (lo+c.snd.fst)
   endL lo c.snd.fst m
  else endL lo c.snd.fst m
theorem bnd {α β:Type}{x y:StateT SortSt Sem α}{f g:α->StateT SortSt Sem β}(h:x=y)(h':∀ a,f a=g a):(x >>= f)=(y >>= g):=by
 rw [h,show f=g from funext h']
theorem run_eq (lo m:Nat):countRun' lo m=(do
  let c <- upL lo 1 m
  match c.fst with
  | some r=>pure r
  | none =>
   if (c.snd==m)=true then pure (some c.snd)
   else if c.snd>1 then do
    let o <- ltAt' lo (lo+c.snd-1)
    match o with
    | some t=>if t=true then pure (some c.snd) else do
      reverseSlice' lo (lo+c.snd)
      dnP lo c.snd m
    | _=>pure none
   else dnP lo c.snd m):=by
 rw [countRun'_eq]
 unfold dnP endL dnL upL
 refine bnd rfl fun c=>?_
 obtain ⟨r,n⟩:=c
 cases r with
 | some r=>rfl
 | none =>
  dsimp only
  split
  ·rfl
  ·split
   ·refine bnd rfl fun x=>?_
    cases x with
    | none=>rfl
    | some t =>
     dsimp only
     split
     ·rfl
     ·refine bnd rfl fun _r=>?_
      refine bnd rfl fun _u=>?_
      refine bnd rfl fun s2=>?_
      obtain ⟨r2,n2,q2⟩:=s2
      cases r2 with
      | some r2=>rfl
      | none =>
       dsimp only
       split
       ·refine bnd rfl fun _v=>?_
        (refine bnd rfl fun _w=>?_;refine bnd rfl fun s3=>?_;obtain ⟨r3,n3⟩:=s3;cases r3 <;> rfl)
       ·(refine bnd rfl fun _w=>?_;refine bnd rfl fun s3=>?_;obtain ⟨r3,n3⟩:=s3;cases r3 <;> rfl)
   ·refine bnd rfl fun _u=>?_
    refine bnd rfl fun s2=>?_
    obtain ⟨r2,n2,q2⟩:=s2
    cases r2 with
    | some r2=>rfl
    | none =>
     dsimp only
     split
     ·refine bnd rfl fun _v=>?_
      (refine bnd rfl fun _w=>?_;refine bnd rfl fun s3=>?_;obtain ⟨r3,n3⟩:=s3;cases r3 <;> rfl)
     ·(refine bnd rfl fun _w=>?_;refine bnd rfl fun s3=>?_;obtain ⟨r3,n3⟩:=s3;cases r3 <;> rfl)
theorem up_one {xs:Array Keyed}{l:Nat}:Up κ xs l (l+1):=fun i j h1 h2 h3=>by
 obtain rfl:i=j:=by omega
 exact KeyOrd.kle_refl _
theorem up_snoc {xs:Array Keyed}{l r:Nat}(hr:l<r)(h:Up κ xs l r)(hl:κ.kle (KK κ xs (r-1)) (KK κ xs r)):Up κ xs l (r+1):=fun i j h1 h2 h3=>by
 by_cases hj:j<r
 ·exact h i j h1 h2 hj
 ·obtain rfl:j=r:=by omega
  by_cases hi:i=j
  ·subst hi;exact KeyOrd.kle_refl _
  ·exact KeyOrd.kle_trans (h i (j-1) h1 (by omega) (by omega)) hl
theorem dn_snoc {xs:Array Keyed}{l r:Nat}(hr:l<r)(h:Dn κ xs l r)(hl:κ.kle (KK κ xs r) (KK κ xs (r-1))):Dn κ xs l (r+1):=fun i j h1 h2 h3=>by
 by_cases hj:j<r
 ·exact h i j h1 h2 hj
 ·obtain rfl:j=r:=by omega
  by_cases hi:i=j
  ·subst hi;exact KeyOrd.kle_refl _
  ·exact KeyOrd.kle_trans hl (h i (j-1) h1 (by omega) (by omega))
theorem w_up {st:SortSt}{lo a m:Nat}{Q:AscSt->SortSt->Prop}(hO:LtR prog w A E s κ kd)(hz:KeysOf κ z)(hm:lo+m<=z.size)(ha:1<=a)(ham:a<=m)(hB:SB kd z st)(hs:Up κ (arrOf st) lo (lo+a))
  (h:∀ n,a<=n->n<=m->Up κ (arrOf st) lo (lo+n)->(n=m∨κ.klt (KK κ (arrOf st) (lo+n)) (KK κ (arrOf st) (lo+n-1)))->Q (none,n) st):wpS (model prog w) A E s (upL lo a m) Q st:=by
 unfold upL
 refine wpS_forRange (I:=fun x c st'=>st'=st∧c=(none,x)∧Up κ (arrOf st) lo (lo+x)) ?sp ?fi ⟨rfl,rfl,hs⟩
 case fi =>
  rintro c st' ⟨rfl,rfl,hu⟩
  rw [show max a m=m by omega] at hu ⊢
  exact h m ham (Nat.le_refl _) hu (.inl rfl)
 case sp =>
  rintro x c st' hax hxm ⟨rfl,rfl,hu⟩
  dsimp only
  refine wpS_bind (w_lt hO hB hz (by omega) (by omega) ?_)
  cases hq:κ.blt (KK κ (arrOf st') (lo+x)) (KK κ (arrOf st') (lo+x-1)) with
  | true =>
   simp only [if_true]
   exact wpS_pure (h x hax (by omega) hu (.inr hq))
  | false =>
   simp only [Bool.false_eq_true,if_false]
   exact wpS_pure ⟨rfl,rfl,up_snoc (r:=lo+x) (by omega) hu hq⟩
theorem w_end {st:SortSt}{lo n m:Nat}{Q:Option Nat->SortSt->Prop}(hO:LtR prog w A E s κ kd)(hz:KeysOf κ z)(hm:lo+m<=z.size)(h1:1<=n)(hn:n<=m)(hB:SB kd z st)(hs:Dn κ (arrOf st) lo (lo+n))
  (h:∀ k st',SB kd z st'->Kp lo st st'->1<=k->k<=m->Up κ (arrOf st') lo (lo+k)->Q (some k) st'):wpS (model prog w) A E s (endL lo n m) Q st:=by
 unfold endL
 have hsz:lo+n<=(arrOf st).size:=by rw [hB.sz];omega
 refine wpS_bind (wpS_reverse ?_)
 have hB':SB kd z (setArr st (mirror (arrOf st) lo (lo+n) ((lo+n-lo)/2))):=hB.put (mirror_perm _ _ _ _)
 refine wpS_bind (w_up hO hz hm h1 hn hB' ?_ fun k hk1 hk2 hu _=>wpS_pure (h k _ hB' (kp_mirror hsz (Nat.le_refl _)) (by omega) hk2 hu))
 intro i j hi hij hj
 show κ.kle (KK κ (mirror (arrOf st) lo (lo+n) ((lo+n-lo)/2)) i) (KK κ (mirror (arrOf st) lo (lo+n) ((lo+n-lo)/2)) j)
 rw [KK_mirror hsz,KK_mirror hsz,if_pos ⟨by omega,by omega⟩,if_pos ⟨by omega,by omega⟩]
 exact hs _ _ (by omega) (by omega) (by omega)
theorem w_dn {st:SortSt}{lo n m:Nat}{Q:DescSt->SortSt->Prop}(hO:LtR prog w A E s κ kd)(hz:KeysOf κ z)(hm:lo+m<=z.size)(h1:1<=n)(hn:n<=m)(hB:SB kd z st)(hs:Dn κ (arrOf st) lo (lo+n))
  (h:∀ k e st',SB kd z st'->Kp lo st st'->n<=k->k<=m->Dn κ (arrOf st') lo (lo+k)->e+1<=k->(∀ i,lo+k-(e+1)<=i->i<lo+k->KK κ (arrOf st') i=KK κ (arrOf st') (lo+k-1))->Q (none,k,e) st') :
  wpS (model prog w) A E s (dnL lo n m) Q st:=by
 unfold dnL
 refine wpS_forRange (I:=fun x c st'=>∃ e,c=(none,x,e)∧SB kd z st'∧Kp lo st st'∧Dn κ (arrOf st') lo (lo+x)∧e+1<=x∧(∀ i,lo+x-(e+1)<=i->i<lo+x->KK κ (arrOf st') i=KK κ (arrOf st') (lo+x-1))) ?sp ?fi
  ⟨0,rfl,hB,Kp.rfl',hs,by omega,fun i g1 g2=>by rw [show i=lo+n-1 by omega]⟩
 case fi =>
  rintro c st' ⟨e,rfl,hB',hk',hd,he,hq⟩
  rw [show max n m=m by omega] at hd he hq ⊢
  exact h m e st' hB' hk' hn (Nat.le_refl _) hd he hq
 case sp =>
  rintro x c st' hax hxm ⟨e,rfl,hB',hk',hd,he,hq⟩
  dsimp only
  have hsz:lo+x<=(arrOf st').size:=by rw [hB'.sz];omega
  refine wpS_bind (w_lt hO hB' hz (by omega) (by omega) ?_)
  cases hl:κ.blt (KK κ (arrOf st') (lo+x)) (KK κ (arrOf st') (lo+x-1)) with
  | true =>
   simp only [if_true]
   have hstep:∀ xs:Array Keyed,(∀ k,KK κ xs k=KK κ (arrOf st') k)->Dn κ xs lo (lo+(x+1)):=fun xs hk=>by
    have h2:=dn_snoc (r:=lo+x) (by omega) hd (KeyOrd.kle_of_klt hl)
    intro i j g1 g2 g3
    rw [hk,hk]
    exact h2 i j g1 g2 (by omega)
   by_cases he0:e>0
   ·rw [if_pos he0]
    exact wpS_bind (wpS_reverse (wpS_pure ⟨0,rfl,hB'.put (mirror_perm _ _ _ _),hk'.tr (kp_mirror hsz (by omega)),hstep _ (KK_mirror_equal hsz hq),by omega,fun i g1 g2=>by rw [show i=lo+(x+1)-1 by omega]⟩))
   ·rw [if_neg he0]
    exact wpS_pure ⟨0,rfl,hB',hk',hstep _ (fun _=>rfl),by omega,fun i g1 g2=>by rw [show i=lo+(x+1)-1 by omega]⟩
  | false =>
   simp only [Bool.false_eq_true,if_false]
   refine wpS_bind (w_lt hO hB' hz (by omega) (by omega) ?_)
   cases hg:κ.blt (KK κ (arrOf st') (lo+x-1)) (KK κ (arrOf st') (lo+x)) with
   | true =>
    simp only [if_true]
    exact wpS_pure (h x e st' hB' hk' hax (by omega) hd he hq)
   | false =>
    simp only [Bool.false_eq_true,if_false]
    have hx:KK κ (arrOf st') (lo+x)=KK κ (arrOf st') (lo+x-1):=KeyOrd.kle_antisymm hg hl
    refine wpS_pure ⟨e+1,rfl,hB',hk',dn_snoc (r:=lo+x) (by omega) hd hg,by omega,fun i g1 g2=>?_⟩
    rw [show lo+(x+1)-1=lo+x by omega]
    by_cases hi:i=lo+x
    ·rw [hi]
    ·rw [hx];exact hq i (by omega) (by omega)
theorem w_dnP {st:SortSt}{lo n m:Nat}{Q:Option Nat->SortSt->Prop}(hO:LtR prog w A E s κ kd)(hz:KeysOf κ z)(hm:lo+m<=z.size)(hn:n+1<=m)(hB:SB kd z st)(hs:Dn κ (arrOf st) lo (lo+(n+1)))
  (h:∀ k st',SB kd z st'->Kp lo st st'->1<=k->k<=m->Up κ (arrOf st') lo (lo+k)->Q (some k) st'):wpS (model prog w) A E s (dnP lo n m) Q st:=by
 unfold dnP
 refine wpS_bind (wpS_lift (wpAny_rule ⟨rfl,?_⟩))
 refine wpS_bind (w_dn hO hz hm (by omega) hn hB hs fun k e st' hB' hk' hk1 hk2 hd he hq=>?_)
 dsimp only
 have hsz:lo+k<=(arrOf st').size:=by rw [hB'.sz];omega
 by_cases he0:e>0
 ·rw [if_pos he0]
  refine wpS_bind (wpS_reverse (w_end hO hz hm (by omega) hk2 (hB'.put (mirror_perm _ _ _ _)) ?_ fun j st2 b1 b2 b3 b4 b5=>h j st2 b1 ((hk'.tr (kp_mirror hsz (by omega))).tr b2) b3 b4 b5))
  intro i j hi hij hj
  show κ.kle (KK κ (mirror (arrOf st') _ _ _) j) (KK κ (mirror (arrOf st') _ _ _) i)
  rw [KK_mirror_equal hsz hq,KK_mirror_equal hsz hq]
  exact hd i j hi hij hj
 ·rw [if_neg he0]
  exact w_end hO hz hm (by omega) hk2 hB' hd fun j st2 b1 b2 b3 b4 b5=>h j st2 b1 (hk'.tr b2) b3 b4 b5
theorem w_run {st:SortSt}{lo m:Nat}{Q:Option Nat->SortSt->Prop}(hO:LtR prog w A E s κ kd)(hz:KeysOf κ z)(hm:lo+m<=z.size)(h1:1<=m)(hB:SB kd z st)
  (h:∀ k st',SB kd z st'->Kp lo st st'->1<=k->k<=m->Up κ (arrOf st') lo (lo+k)->Q (some k) st'):wpS (model prog w) A E s (countRun' lo m) Q st:=by
 rw [run_eq]
 refine wpS_bind (w_up hO hz hm (Nat.le_refl 1) h1 hB up_one fun n hn1 hn2 hu hor=>?_)
 dsimp only
 by_cases hnm:n=m
 ·rw [if_pos (by simpa using hnm)]
  exact wpS_pure (h n st hB Kp.rfl' hn1 hn2 hu)
 ·rw [if_neg (by simpa using hnm)]
  have hlt:=hor.resolve_left hnm
  by_cases hgt:n>1
  ·rw [if_pos hgt]
   refine wpS_bind (w_lt hO hB hz (by omega) (by omega) ?_)
   cases hr:κ.blt (KK κ (arrOf st) lo) (KK κ (arrOf st) (lo+n-1)) with
   | true =>
    simp only [if_true]
    exact wpS_pure (h n st hB Kp.rfl' hn1 hn2 hu)
   | false =>
    simp only [Bool.false_eq_true,if_false]
    have hsz:lo+n<=(arrOf st).size:=by rw [hB.sz];omega
    have hall:∀ k,lo<=k->k<lo+n->KK κ (arrOf st) k=KK κ (arrOf st) (lo+n-1):=fun k k1 k2 =>
     KeyOrd.kle_antisymm (hu k (lo+n-1) k1 (by omega) (by omega)) (KeyOrd.kle_trans hr (hu lo k (Nat.le_refl _) k1 k2))
    refine wpS_bind (wpS_reverse (w_dnP hO hz hm (by omega) (hB.put (mirror_perm _ _ _ _)) ?_ fun j st2 b1 b2 b3 b4 b5=>h j st2 b1 ((kp_mirror hsz (Nat.le_refl _)).tr b2) b3 b4 b5))
    have hd:Dn κ (arrOf st) lo (lo+n):=fun i j g1 g2 g3=>by rw [hall i (by omega) (by omega),hall j (by omega) (by omega)];exact KeyOrd.kle_refl _
    have hd2:=dn_snoc (by omega) hd (KeyOrd.kle_of_klt hlt)
    intro i j g1 g2 g3
    show κ.kle (KK κ (mirror (arrOf st) _ _ _) j) (KK κ (mirror (arrOf st) _ _ _) i)
    rw [KK_mirror_equal hsz hall,KK_mirror_equal hsz hall]
    exact hd2 i j g1 g2 (by omega)
  ·rw [if_neg hgt]
   obtain rfl:n=1:=by omega
   refine w_dnP hO hz hm (by omega) hB ?_ h
   refine dn_snoc (by omega) (fun i j g1 g2 g3=>?_) (KeyOrd.kle_of_klt hlt)
   obtain rfl:i=j:=by omega
   exact KeyOrd.kle_refl _
theorem w_ins {st:SortSt}{lo n ok:Nat}{Q:Bool->SortSt->Prop}(hO:LtR prog w A E s κ kd)(hz:KeysOf κ z)(hn:lo+n<=z.size)(h1:1<=ok)(hok:ok<=n)(hB:SB kd z st)(hs:Up κ (arrOf st) lo (lo+ok))
  (h:∀ st',SB kd z st'->Kp lo st st'->Up κ (arrOf st') lo (lo+n)->Q true st'):wpS (model prog w) A E s (binarySort' lo n ok) Q st:=by
 rw [binarySort'_eq]
 refine wpS_bind (wpS_mono (wpS_forRange (I:=fun k c st'=>c=(none,())∧SB kd z st'∧Kp lo st st'∧Up κ (arrOf st') lo (lo+k)) (Q:=fun c st'=>c=(none,())∧SB kd z st'∧Kp lo st st'∧Up κ (arrOf st') lo (lo+n)) ?sp ?fi ?ini) ?po)
 case po =>
  rintro c st' ⟨rfl,hB',hk',hu⟩
  exact wpS_pure (h st' hB' hk' hu)
 case ini =>
  rw [Nat.max_eq_left h1]
  exact ⟨rfl,hB,Kp.rfl',hs⟩
 case fi =>
  rintro c st' ⟨hc,hB',hk',hu⟩
  rw [Nat.max_eq_left h1,Nat.max_eq_right hok] at hu
  exact ⟨hc,hB',hk',hu⟩
 case sp =>
  rintro k c st' hak hkn ⟨rfl,hB',hk',hu⟩
  have hk:lo+k<z.size:=by omega
  refine wpS_bind (wpS_mono (wpS_forRange (I:=fun x c st2=>st2=st'∧∃ l r,c=(none,l,r)∧l<=r∧r<=k∧r-l<=k-x∧(∀ i,i<l->κ.kle (KK κ (arrOf st') (lo+i)) (KK κ (arrOf st') (lo+k)))∧(∀ i,r<=i->i<k->κ.klt (KK κ (arrOf st') (lo+k)) (KK κ (arrOf st') (lo+i))))
   (Q:=fun c st2=>st2=st'∧∃ l r,c=(none,l,r)∧l<=k∧(∀ i,i<l->κ.kle (KK κ (arrOf st') (lo+i)) (KK κ (arrOf st') (lo+k)))∧(∀ i,l<=i->i<k->κ.klt (KK κ (arrOf st') (lo+k)) (KK κ (arrOf st') (lo+i)))) ?isp ?ifi ?iini) ?ipo)
  case iini=>exact ⟨rfl,0,k,rfl,Nat.zero_le _,Nat.le_refl _,by omega,fun i g=>absurd g (Nat.not_lt_zero i),fun i g1 g2=>absurd g2 (Nat.not_lt.mpr g1)⟩
  case ifi =>
   rintro c st2 ⟨rfl,l,r,rfl,hlr,hrk,hx,hlo,hhi⟩
   obtain rfl:l=r:=by omega
   exact ⟨rfl,l,l,rfl,hrk,hlo,hhi⟩
  case isp =>
   rintro x c st2 _ hxk ⟨rfl,l,r,rfl,hlr,hrk,hx,hlo,hhi⟩
   dsimp only
   by_cases hge:l≥r
   ·rw [if_pos hge]
    obtain rfl:l=r:=by omega
    exact wpS_pure ⟨rfl,l,l,rfl,hrk,hlo,hhi⟩
   ·rw [if_neg hge]
    refine wpS_bind (w_lt hO hB' hz hk (by omega) ?_)
    cases hl:κ.blt (KK κ (arrOf st2) (lo+k)) (KK κ (arrOf st2) (lo+(l+r)/2)) with
    | true =>
     simp only [if_true]
     exact wpS_pure ⟨rfl,l,(l+r)/2,rfl,by omega,by omega,by omega,hlo,fun i g1 g2=>KeyOrd.klt_of_klt_of_kle hl (hu _ _ (by omega) (by omega) (by omega))⟩
    | false =>
     simp only [Bool.false_eq_true,if_false]
     exact wpS_pure ⟨rfl,(l+r)/2+1,r,rfl,by omega,by omega,by omega,fun i g=>KeyOrd.kle_trans (hu (lo+i) (lo+(l+r)/2) (by omega) (by omega) (by omega)) hl,hhi⟩
  case ipo =>
   rintro c st2 ⟨rfl,l,r,rfl,hlk,hlo,hhi⟩
   show wpS _ _ _ _ (do moveDown' (lo+k) (lo+l);pure (ForInStep.yield (none,()))) _ _
   rw [moveDown'_eq]
   have hks:lo+k<(arrOf st2).size:=by rw [hB'.sz];exact hk
   refine wpS_bind (wpS_modify (wpS_pure ⟨rfl,hB'.put (bubble_perm _ _ _),hk'.tr ⟨fun i hi=>?_,rfl⟩,?_⟩))
   ·show (bubble (arrOf st2) (lo+k) (lo+k-(lo+l)))[i]?=_
    rw [getElem?_bubble hks _ (by omega),if_neg (by omega),if_neg (by omega)]
   intro i j g1 g2 g3
   show κ.kle (KK κ (bubble (arrOf st2) (lo+k) (lo+k-(lo+l))) i) (KK κ (bubble (arrOf st2) (lo+k) (lo+k-(lo+l))) j)
   rw [KK_bubble hks (by omega),KK_bubble hks (by omega),Nat.sub_sub_self (Nat.add_le_add_left hlk lo)]
   have hlo':∀ i,lo<=i->i<lo+l->κ.kle (KK κ (arrOf st2) i) (KK κ (arrOf st2) (lo+k)):=fun i g1 g2=>by
    have:=hlo (i-lo) (by omega)
    rwa [Nat.add_sub_cancel' g1] at this
   have hhi':∀ i,lo+l<=i->i<lo+k->κ.klt (KK κ (arrOf st2) (lo+k)) (KK κ (arrOf st2) i):=fun i g1 g2=>by
    have:=hhi (i-lo) (by omega) (by omega)
    rwa [Nat.add_sub_cancel' (Nat.le_trans (Nat.le_add_right lo l) g1)] at this
   repeat' split
   all_goals first
    | (exfalso;omega)
    | exact KeyOrd.kle_refl _
    | exact hlo' _ (by omega) (by omega)
    | exact KeyOrd.kle_of_klt (hhi' _ (by omega) (by omega))
    | exact hu _ _ (by omega) (by omega) (by omega)
end
end SR
set_option autoImplicit false
namespace SR
open PySem PyProof.Rows
def gal':Bool->Keyed->Array Keyed->Nat->Nat->Nat->StateT SortSt Sem (Option Nat):=sortPriv% PySem.Builtin.gallop
def bq (left:Bool)(key:Keyed)(arr:Array Keyed)(base:Nat)(i:Nat):StateT SortSt Sem (Option Bool):=do
 let x <- elem' arr (base+i)
 if left then lt' x key else return (<- lt' key x).map (!·)
theorem gal'_eq (left:Bool)(key:Keyed)(arr:Array Keyed)(base n hint:Nat):gal' left key arr base n hint=(do
 let mut la:=0
 let mut po:=1
 let mut l:=0
 let mut h:=0
 let some r0 <- bq left key arr base hint | return none
 if r0 then
  let mx:=n-hint
  for _ in [0:n] do
   if po≥mx then break
   let some mo <- bq left key arr base (hint+po) | return none
   if !mo then break
   la:=po
   po:=2*po+1
  l:=hint+la+1
  h:=hint+min po mx
 else
  let mx:=hint+1
  for _ in [0:n] do
   if po≥mx then break
   let some mo <- bq left key arr base (hint-po) | return none
   if mo then break
   la:=po
   po:=2*po+1
  l:=hint+1-min po mx
  h:=hint-la
 for _ in [0:n] do
  if l≥h then break
  let m:=l+(h-l)/2
  let some mo <- bq left key arr base m | return none
  if mo then l:=m+1 else h:=m
 return some h):=rfl
section
variable {prog:Program}{w:World}{A:Around}{E:Value->Shared->Prop}{s:Shared}{z:Array Keyed}{κ:KeyKind}{kd:SortKind}
theorem w_eq {α:Type}{m m':StateT SortSt Sem α}{Q:α->SortSt->Prop}{st:SortSt}(e:m=m')(h:wpS (model prog w) A E s m' Q st):wpS (model prog w) A E s m Q st:=e▸h
theorem w_lt2 {st:SortSt}{x y:Keyed}{a b:κ.α}{Q:Option Bool->SortSt->Prop}(hO:LtR prog w A E s κ kd)(hk:kindOf st=kd)(ha:κ.keyOf x.1=some a)(hb:κ.keyOf y.1=some b)(h:Q (some (κ.blt a b)) st) :
 wpS (model prog w) A E s (lt' x y) Q st:=hO st x y a b Q hk ha hb h
theorem w_bq {st:SortSt}{left:Bool}{key x:Keyed}{arr:Array Keyed}{base i:Nat}{a b:κ.α}{Q:Option Bool->SortSt->Prop}(hO:LtR prog w A E s κ kd)(hk:kindOf st=kd)(hx:arr[base+i]?=some x)(ha:κ.keyOf x.1=some a)(hb:κ.keyOf key.1=some b)
  (h:Q (some (if left=true then κ.blt a b else !κ.blt b a)) st):wpS (model prog w) A E s (bq left key arr base i) Q st:=by
 unfold bq
 rw [elem'_eq,hx]
 refine wpS_bind (wpS_pure ?_)
 cases left with
 | true=>exact w_lt2 hO hk ha hb (by simpa using h)
 | false =>
  simp only [Bool.false_eq_true,if_false] at h ⊢
  exact wpS_bind (w_lt2 hO hk hb ha (wpS_pure h))
def srch (left:Bool)(key:Keyed)(arr:Array Keyed)(base n l h:Nat):StateT SortSt Sem (Option Nat):=do
 let c <- forIn [0:n] ((none,l,h):Option (Option Nat)×Nat×Nat) fun _ c =>
  if c.snd.fst≥c.snd.snd then pure (ForInStep.done (none,c.snd.fst,c.snd.snd))
  else do
   let o <- bq left key arr base (c.snd.fst+(c.snd.snd-c.snd.fst)/2)
   match o with
   | some mo=>if mo=true then pure (ForInStep.yield (none,c.snd.fst+(c.snd.snd-c.snd.fst)/2+1,c.snd.snd)) else pure (ForInStep.yield (none,c.snd.fst,c.snd.fst+(c.snd.snd-c.snd.fst)/2))
   | _=>pure (ForInStep.done (some none,c.snd.fst,c.snd.snd))
 match c.fst with
 | some r=>pure r
 | none=>pure (some c.snd.snd)
theorem w_srch {st:SortSt}{left:Bool}{key:Keyed}{arr:Array Keyed}{base n l h:Nat}{b:Nat->Bool}{Q:Option Nat->SortSt->Prop}
  (hb:∀ i (R:Option Bool->SortSt->Prop),i<n->R (some (b i)) st->wpS (model prog w) A E s (bq left key arr base i) R st)
  (hm:∀ i j,i<=j->j<n->b j=true->b i=true) (hlh:l<=h) (hn:h<=n) (h1:∀ i,i<l->b i=true) (h2:∀ i,h<=i->i<n->b i=false)
  (hq:∀ k,k<=n->(∀ i,i<k->b i=true)->(∀ i,k<=i->i<n->b i=false)->Q (some k) st):wpS (model prog w) A E s (srch left key arr base n l h) Q st:=by
 unfold srch
 refine wpS_bind (wpS_mono (wpS_forRange (I:=fun x c st2=>st2=st∧∃ l h,c=(none,l,h)∧l<=h∧h<=n∧h-l<=n-x∧(∀ i,i<l->b i=true)∧∀ i,h<=i->i<n->b i=false)
  (Q:=fun c st2=>st2=st∧∃ k,c.1=none∧c.2.2=k∧k<=n∧(∀ i,i<k->b i=true)∧∀ i,k<=i->i<n->b i=false) ?sp ?fi ⟨rfl,l,h,rfl,hlh,hn,by omega,h1,h2⟩) ?po)
 case po =>
  rintro ⟨o,x,y⟩ st2 ⟨rfl,k,e1,rfl,g1,g2,g3⟩
  dsimp only at e1 g1 g2 g3 ⊢
  subst e1
  exact wpS_pure (hq y g1 g2 g3)
 case fi =>
  rintro c st2 ⟨rfl,l,h,rfl,g1,g2,g3,g4,g5⟩
  obtain rfl:l=h:=by omega
  exact ⟨rfl,l,rfl,rfl,g2,g4,g5⟩
 case sp =>
  rintro x c st2 _ hx ⟨rfl,l,h,rfl,g1,g2,g3,g4,g5⟩
  dsimp only
  by_cases hge:l≥h
  ·rw [if_pos hge]
   obtain rfl:l=h:=by omega
   exact wpS_pure ⟨rfl,l,rfl,rfl,g2,g4,g5⟩
  ·rw [if_neg hge]
   refine wpS_bind (hb (l+(h-l)/2) _ (by omega) ?_)
   dsimp only
   cases hq2:b (l+(h-l)/2) with
   | true =>
    simp only [if_true]
    exact wpS_pure ⟨rfl,l+(h-l)/2+1,h,rfl,by omega,by omega,by omega,fun i hi=>hm i (l+(h-l)/2) (by omega) (by omega) hq2,g5⟩
   | false =>
    simp only [Bool.false_eq_true,if_false]
    refine wpS_pure ⟨rfl,l,l+(h-l)/2,rfl,by omega,by omega,by omega,g4,fun i hi hi2=>?_⟩
    cases hbi:b i with
    | false=>rfl
    | true=>rw [hm _ i hi hi2 hbi] at hq2;cases hq2
theorem w_gal {st:SortSt}{left:Bool}{key:Keyed}{arr:Array Keyed}{base n hint:Nat}{b:Nat->Bool}{Q:Option Nat->SortSt->Prop}(hh:hint<n)
  (hb:∀ i (R:Option Bool->SortSt->Prop),i<n->R (some (b i)) st->wpS (model prog w) A E s (bq left key arr base i) R st)
  (hm:∀ i j,i<=j->j<n->b j=true->b i=true)
  (h:∀ k,k<=n->(∀ i,i<k->b i=true)->(∀ i,k<=i->i<n->b i=false)->Q (some k) st):wpS (model prog w) A E s (gal' left key arr base n hint) Q st:=by
 rw [gal'_eq]
 dsimp only
 refine wpS_bind (hb hint _ hh ?_)
 dsimp only
 cases h0:b hint with
 | true =>
  rw [if_pos rfl]
  refine wpS_bind (wpS_mono (wpS_forRange (I:=fun x c st2=>st2=st∧∃ la po,c=(none,la,po)∧la<po∧x+1<=po∧hint+la<n∧b (hint+la)=true)
   (Q:=fun c st2=>st2=st∧∃ la po,c=(none,la,po)∧la<po∧hint+la<n∧b (hint+la)=true∧(n-hint<=po∨(hint+po<n∧b (hint+po)=false))) ?sp ?fi ⟨rfl,0,1,rfl,by omega,by omega,hh,h0⟩) ?po)
  case fi =>
   rintro c st2 ⟨rfl,la,po,rfl,g1,g2,g3,g4⟩
   exact ⟨rfl,la,po,rfl,g1,g3,g4,.inl (by omega)⟩
  case sp =>
   rintro x c st2 _ hx ⟨rfl,la,po,rfl,g1,g2,g3,g4⟩
   dsimp only
   by_cases hge:po≥n-hint
   ·rw [if_pos hge]
    exact wpS_pure ⟨rfl,la,po,rfl,g1,g3,g4,.inl hge⟩
   ·rw [if_neg hge]
    refine wpS_bind (hb (hint+po) _ (by omega) ?_)
    dsimp only
    cases hq2:b (hint+po) with
    | true =>
     simp only [Bool.not_true,Bool.false_eq_true,if_false]
     exact wpS_pure ⟨rfl,po,2*po+1,rfl,by omega,by omega,by omega,hq2⟩
    | false =>
     simp only [Bool.not_false,if_true]
     exact wpS_pure ⟨rfl,la,po,rfl,g1,g3,g4,.inr ⟨by omega,hq2⟩⟩
  case po =>
   rintro c st2 ⟨rfl,la,po,rfl,g1,g3,g4,g5⟩
   dsimp only
   refine w_eq (m':=srch left key arr base n (hint+la+1) (hint+min po (n-hint))) (bnd rfl fun c=>by obtain ⟨r,x,y⟩:=c;cases r <;> rfl) ?_
   refine w_srch hb hm (by omega) (by omega) (fun i hi=>hm i (hint+la) (by omega) g3 g4) (fun i hi hi2=>?_) h
   rcases g5 with g5 | ⟨g5,g6⟩
   ·omega
   ·cases hbi:b i with
    | false=>rfl
    | true=>rw [hm (hint+po) i (by omega) hi2 hbi] at g6;cases g6
 | false =>
  rw [if_neg Bool.false_ne_true]
  refine wpS_bind (wpS_mono (wpS_forRange (I:=fun x c st2=>st2=st∧∃ la po,c=(none,la,po)∧la<po∧x+1<=po∧la<=hint∧b (hint-la)=false)
   (Q:=fun c st2=>st2=st∧∃ la po,c=(none,la,po)∧la<po∧la<=hint∧b (hint-la)=false∧(hint+1<=po∨(po<=hint∧b (hint-po)=true))) ?sp ?fi ⟨rfl,0,1,rfl,by omega,by omega,by omega,h0⟩) ?po)
  case fi =>
   rintro c st2 ⟨rfl,la,po,rfl,g1,g2,g3,g4⟩
   exact ⟨rfl,la,po,rfl,g1,g3,g4,.inl (by omega)⟩
  case sp =>
   rintro x c st2 _ hx ⟨rfl,la,po,rfl,g1,g2,g3,g4⟩
   dsimp only
   by_cases hge:po≥hint+1
   ·rw [if_pos hge]
    exact wpS_pure ⟨rfl,la,po,rfl,g1,g3,g4,.inl hge⟩
   ·rw [if_neg hge]
    refine wpS_bind (hb (hint-po) _ (by omega) ?_)
    dsimp only
    cases hq2:b (hint-po) with
    | true =>
     simp only [if_true]
     exact wpS_pure ⟨rfl,la,po,rfl,g1,g3,g4,.inr ⟨by omega,hq2⟩⟩
    | false =>
     simp only [Bool.false_eq_true,if_false]
     exact wpS_pure ⟨rfl,po,2*po+1,rfl,by omega,by omega,by omega,hq2⟩
  case po =>
   rintro c st2 ⟨rfl,la,po,rfl,g1,g3,g4,g5⟩
   dsimp only
   refine w_eq (m':=srch left key arr base n (hint+1-min po (hint+1)) (hint-la)) (bnd rfl fun c=>by obtain ⟨r,x,y⟩:=c;cases r <;> rfl) ?_
   refine w_srch hb hm (by omega) (by omega) (fun i hi=>?_) (fun i hi hi2=>?_) h
   ·rcases g5 with g5 | ⟨g5,g6⟩
    ·omega
    ·exact hm i (hint-po) (by omega) (by omega) g6
   ·cases hbi:b i with
    | false=>rfl
    | true=>rw [hm (hint-la) i (by omega) hi2 hbi] at g4;cases g4
end
end SR
set_option autoImplicit false
namespace SR
open PySem PyProof.Rows
set_option genInjectivity false in
structure MI (R:Keyed->Keyed->Prop)(Z o ra rb:List Keyed):Prop where
 so:o.Pairwise R
 be:∀ x∈o,∀ y,y∈ra∨y∈rb->R x y
 pm:(o++(ra++rb)).Perm Z
 sa:ra.Pairwise R
 sb:rb.Pairwise R
theorem MI.sw {R:Keyed->Keyed->Prop}{Z o ra rb:List Keyed}(h:MI R Z o ra rb):MI R Z o rb ra :=
 ⟨h.so,fun x hx y hy=>h.be x hx y hy.symm,((List.perm_append_comm (l₁:=rb) (l₂:=ra)).append_left o).trans h.pm,h.sb,h.sa⟩
theorem MI.blk {R:Keyed->Keyed->Prop}{Z o u ra rb:List Keyed}(h:MI R Z o (u++ra) rb)(hu:∀ x∈u,∀ y∈rb,R x y):MI R Z (o++u) ra rb:=by
 obtain ⟨s1,s2,s3⟩:=List.pairwise_append.mp h.sa
 refine ⟨List.pairwise_append.mpr ⟨h.so,s1,fun x hx y hy=>h.be x hx y (.inl (List.mem_append_left _ hy))⟩,fun x hx y hy=>?_,?_,s2,h.sb⟩
 ·rcases List.mem_append.mp hx with g | g
  ·exact h.be x g y (hy.imp_left (List.mem_append_right _))
  ·rcases hy with hy | hy
   ·exact s3 x g y hy
   ·exact hu x g y hy
 ·have:=h.pm
  rw [List.append_assoc] at this ⊢
  exact this
def Fi (R:Keyed->Keyed->Prop)(Z:List Keyed)(r:Array Keyed):Prop:=r.toList.Perm Z∧r.toList.Pairwise R
theorem MI.fin {R:Keyed->Keyed->Prop}{Z o ra:List Keyed}(h:MI R Z o ra []):(o++ra).Perm Z∧(o++ra).Pairwise R:=by
 refine ⟨?_,List.pairwise_append.mpr ⟨h.so,h.sa,fun x hx y hy=>h.be x hx y (.inl hy)⟩⟩
 have:=h.pm
 rw [List.append_nil] at this
 exact this
theorem ext_from (a:Array Keyed)(i:Nat):(a.extract i a.size).toList=a.toList.drop i:=by
 rw [Array.toList_extract,List.extract_eq_take_drop]
 exact List.take_of_length_le (by rw [List.length_drop,Array.length_toList];exact Nat.le_refl _)
theorem ext_mid (a:Array Keyed)(i k:Nat):(a.extract i (i+k)).toList=(a.toList.drop i).take k:=by
 rw [Array.toList_extract,List.extract_eq_take_drop,Nat.add_sub_cancel_left]
theorem drop_cons {a:Array Keyed}{i:Nat}(h:i<a.size):a.toList.drop i=a[i]::a.toList.drop (i+1):=by
 rw [List.drop_eq_getElem_cons (by rw [Array.length_toList];exact h),Array.getElem_toList]
theorem split_at (a:Array Keyed)(i k:Nat):a.toList.drop i=(a.toList.drop i).take k++a.toList.drop (i+k):=by
 rw [<- List.drop_drop,List.take_append_drop]
theorem MI.pushA {R:Keyed->Keyed->Prop}{Z:List Keyed}{o a:Array Keyed}{i:Nat}{rb:List Keyed}(h:MI R Z o.toList (a.toList.drop i) rb)(hi:i<a.size)(hu:∀ y∈rb,R a[i] y):MI R Z (o.push a[i]).toList (a.toList.drop (i+1)) rb:=by
 rw [drop_cons hi,<- List.singleton_append] at h
 have:=h.blk fun x hx y hy=>by rw [List.mem_singleton.mp hx];exact hu y hy
 rw [Array.toList_push]
 exact this
theorem MI.blkA {R:Keyed->Keyed->Prop}{Z:List Keyed}{o a:Array Keyed}{i k:Nat}{rb:List Keyed}(h:MI R Z o.toList (a.toList.drop i) rb)(hu:∀ x∈(a.toList.drop i).take k,∀ y∈rb,R x y):MI R Z (o++a.extract i (i+k)).toList (a.toList.drop (i+k)) rb:=by
 rw [split_at a i k] at h
 rw [Array.toList_append,ext_mid]
 exact h.blk hu
theorem MI.doneA {R:Keyed->Keyed->Prop}{Z:List Keyed}{o a b:Array Keyed}{i j:Nat}(h:MI R Z o.toList (a.toList.drop i) (b.toList.drop j))(hj:b.size<=j):Fi R Z (o++a.extract i a.size++b.extract j b.size):=by
 unfold Fi
 rw [List.drop_eq_nil_of_le (as:=b.toList) (by rw [Array.length_toList];exact hj)] at h
 rw [Array.toList_append,Array.toList_append,ext_from,ext_from,List.drop_eq_nil_of_le (as:=b.toList) (by rw [Array.length_toList];exact hj),List.append_nil]
 exact h.fin
theorem MI.doneB {R:Keyed->Keyed->Prop}{Z:List Keyed}{o a b:Array Keyed}{i j:Nat}(h:MI R Z o.toList (a.toList.drop i) (b.toList.drop j))(hi:a.size<=i):Fi R Z (o++a.extract i a.size++b.extract j b.size):=by
 unfold Fi
 rw [List.drop_eq_nil_of_le (as:=a.toList) (by rw [Array.length_toList];exact hi)] at h
 rw [Array.toList_append,Array.toList_append,ext_from,ext_from,List.drop_eq_nil_of_le (as:=a.toList) (by rw [Array.length_toList];exact hi),List.append_nil]
 exact h.sw.fin
theorem MI.lastA {R:Keyed->Keyed->Prop}{Z:List Keyed}{o a b:Array Keyed}{i j:Nat}(h:MI R Z o.toList (a.toList.drop i) (b.toList.drop j))(hi:i+1=a.size)(hl:∀ y∈b.toList,∀ x,a.toList.getLast?=some x->R y x):Fi R Z (o++b.extract j b.size++a.extract i a.size):=by
 unfold Fi
 have e:a.toList.drop i=[a[i]'(by omega)]:=by
  rw [drop_cons (by omega),List.drop_eq_nil_of_le (by rw [Array.length_toList];omega)]
 have el:a.toList.getLast?=some (a[i]'(by omega)):=by
  rw [List.getLast?_eq_getElem?,Array.length_toList,show a.size-1=i by omega,Array.getElem?_toList,getElem?_pos a i (by omega)]
 rw [Array.toList_append,Array.toList_append,ext_from,ext_from]
 have h2:MI R Z (o.toList++b.toList.drop j) (a.toList.drop i) []:=by
  have h3:=h.sw
  rw [show b.toList.drop j=b.toList.drop j++[] from (List.append_nil _).symm] at h3
  refine (h3.blk fun x hx y hy=>?_).sw
  rw [e,List.mem_singleton] at hy
  rw [hy]
  exact hl x (List.mem_of_mem_drop hx) _ el
 exact h2.fin
def setG (g:Nat):StateT SortSt Sem Unit:=modify fun s=>SortSt.mk' (kindOf s) (arrOf s) (pendingOf s) g (failedOf s)
def mLo':Array Keyed->Array Keyed->StateT SortSt Sem (Array Keyed):=sortPriv% PySem.Builtin.mergeLo
theorem ex4 {α β γ δ ε:Type}{P:ε->Prop}{f:α->β->γ->δ->ε}{A:Prop}{R L:α->β->γ->δ->Prop}(h:∀ a b c d,A->R a b c d->L a b c d->P (f a b c d)):∀ e,(A∧∃ a b c d,e=f a b c d∧R a b c d∧L a b c d)->P e:=by
 rintro e ⟨x,a,b,c,d,rfl,r,l⟩
 exact h a b c d x r l
theorem ex5 {α β γ δ ζ ε:Type}{P:ε->Prop}{f:α->β->γ->δ->ζ->ε}{A:Prop}{R L:α->β->γ->δ->ζ->Prop}(h:∀ a b c d z,A->R a b c d z->L a b c d z->P (f a b c d z)):∀ e,(A∧∃ a b c d z,e=f a b c d z∧R a b c d z∧L a b c d z)->P e:=by
 rintro e ⟨x,a,b,c,d,z,rfl,r,l⟩
 exact h a b c d z x r l
theorem ex6 {α β γ δ ζ η ε:Type}{P:ε->Prop}{f:α->β->γ->δ->ζ->η->ε}{A:Prop}{R L:α->β->γ->δ->ζ->η->Prop}(h:∀ a b c d z y,A->R a b c d z y->L a b c d z y->P (f a b c d z y)):∀ e,(A∧∃ a b c d z y,e=f a b c d z y∧R a b c d z y∧L a b c d z y)->P e:=by
 rintro e ⟨x,a,b,c,d,z,y,rfl,r,l⟩
 exact h a b c d z y x r l
theorem or6 {α β γ δ ρ:Type}{P:Option α×β×γ×δ×ρ->Prop}{A:Prop}{F:α->Prop}(G L:β->γ->δ->Prop)(h1:∀ r b c d e,A->F r->P (some r,b,c,d,e))(h2:∀ b c d e,A->G b c d->L b c d->P (none,b,c,d,e)) :
  ∀ x,(A∧((∃ r,x.1=some r∧F r)∨(x.1=none∧G x.2.1 x.2.2.1 x.2.2.2.1∧L x.2.1 x.2.2.1 x.2.2.2.1)))->P x:=by
 rintro ⟨o,b,c,d,e⟩ ⟨x,⟨r,e1,f⟩ | ⟨e1,g,l⟩⟩
 ·obtain rfl:o=some r:=e1
  exact h1 r b c d e x f
 ·obtain rfl:o=none:=e1
  exact h2 b c d e x g l
def mLoT (a b o:Array Keyed)(i j:Nat):StateT SortSt Sem (Array Keyed):=do
 let tot:=a.size+b.size
 let dn (o:Array Keyed) (i j:Nat):=o++a.extract i a.size++b.extract j b.size
 let la (o:Array Keyed) (i j:Nat):=o++b.extract j b.size++a.extract i a.size
 let mut o:=o
 let mut i:=i
 let mut j:=j
 let mut g:=gallopOf (<- get)
 for _ in [0:tot] do
  let mut p:=0
  let mut q:=0
  for _ in [0:tot] do
   let some t <- lt' (<- elem' b j) (<- elem' a i) | return dn o i j
   if t then
    o:=o.push (<- elem' b j);j:=j+1;q:=q+1;p:=0
    if j==b.size then return dn o i j
    if q≥g then break
   else
    o:=o.push (<- elem' a i);i:=i+1;p:=p+1;q:=0
    if i+1==a.size then return la o i j
    if p≥g then break
  rule "list.sort.gallop"
  g:=g+1
  for _ in [0:tot] do
   if g>1 then g:=g-1
   setG g
   let some k <- gal' false (<- elem' b j) a i (a.size-i) 0 | return dn o i j
   p:=k
   if k>0 then
    o:=o++a.extract i (i+k);i:=i+k
    if i+1==a.size then return la o i j
    if i==a.size then return dn o i j
   o:=o.push (<- elem' b j);j:=j+1
   if j==b.size then return dn o i j
   let some k <- gal' true (<- elem' a i) b j (b.size-j) 0 | return dn o i j
   q:=k
   if k>0 then
    o:=o++b.extract j (j+k);j:=j+k
    if j==b.size then return dn o i j
   o:=o.push (<- elem' a i);i:=i+1
   if i+1==a.size then return la o i j
   if p<7&&q<7 then break
  g:=g+1
  setG g
 unsupported "internal:list.sort.merge-bound"
theorem mLo'_eq (a b:Array Keyed):mLo' a b=(do
 rule "list.sort.merge-lo"
 let x <- elem' b 0
 if 1==b.size then return #[x]++a.extract 0 a.size++b.extract 1 b.size
 if 0+1==a.size then return #[x]++b.extract 1 b.size++a.extract 0 a.size
 mLoT a b #[x] 0 1):=rfl
def kf (κ:KeyKind)(p:Keyed):κ.α:=(κ.keyOf p.1).getD κ.dflt
def Le (κ:KeyKind)(x y:Keyed):Prop:=κ.kle (kf κ x) (kf κ y)
def Hk (κ:KeyKind)(x:Keyed):Prop:=∃ c,κ.keyOf x.1=some c
set_option genInjectivity false in
structure Ev (st st':SortSt):Prop where
 knd:kindOf st'=kindOf st
 arr:arrOf st'=arrOf st
 pen:pendingOf st'=pendingOf st
 ffl:failedOf st'=failedOf st
theorem Ev.r {st:SortSt}:Ev st st:=⟨rfl,rfl,rfl,rfl⟩
theorem Ev.t {a b c:SortSt}(h:Ev a b)(h':Ev b c):Ev a c:=⟨h'.knd.trans h.knd,h'.arr.trans h.arr,h'.pen.trans h.pen,h'.ffl.trans h.ffl⟩
section
variable {prog:Program}{w:World}{A:Around}{E:Value->Shared->Prop}{s:Shared}{z:Array Keyed}{κ:KeyKind}{kd:SortKind}
theorem w_el {st:SortSt}{a:Array Keyed}{i:Nat}{Q:Keyed->SortSt->Prop}(hi:i<a.size)(h:Q a[i] st):wpS (model prog w) A E s (elem' a i) Q st:=by
 rw [elem'_eq,getElem?_pos a i hi]
 exact wpS_pure h
theorem w_setG {st:SortSt}{g:Nat}{Q:Unit->SortSt->Prop}(h:∀ st',Ev st st'->Q () st'):wpS (model prog w) A E s (setG g) Q st:=by
 unfold setG
 exact wpS_modify (h _ ⟨rfl,rfl,rfl,rfl⟩)
theorem kf_some {x:Keyed}{c:κ.α}(h:κ.keyOf x.1=some c):kf κ x=c:=by unfold kf;rw [h];rfl
theorem w_lt3 {st:SortSt}{x y:Keyed}{Q:Option Bool->SortSt->Prop}(hO:LtR prog w A E s κ kd)(hk:kindOf st=kd)(hx:Hk κ x)(hy:Hk κ y)(h:Q (some (κ.blt (kf κ x) (kf κ y))) st):wpS (model prog w) A E s (lt' x y) Q st:=by
 obtain ⟨c,hc⟩:=hx
 obtain ⟨d,hd⟩:=hy
 rw [kf_some hc,kf_some hd] at h
 exact w_lt2 hO hk hc hd h
theorem w_galR {st:SortSt}{key:Keyed}{a:Array Keyed}{i n hint:Nat}{Q:Option Nat->SortSt->Prop}(hO:LtR prog w A E s κ kd)(hk:kindOf st=kd)(hin:i+n<=a.size)(hh:hint<n)(hka:∀ x∈a.toList,Hk κ x)(hkk:Hk κ key)(hs:((a.toList.drop i).take n).Pairwise (Le κ))
  (h:∀ k,k<=n->(∀ x∈(a.toList.drop i).take k,Le κ x key)->(∀ x∈(a.toList.drop (i+k)).take (n-k),Le κ key x)->Q (some k) st):wpS (model prog w) A E s (gal' false key a i n hint) Q st:=by
 have get:∀ t,t<n->((a.toList.drop i).take n)[t]?=a[i+t]?:=fun t ht=>by
  rw [List.getElem?_take_of_lt ht,List.getElem?_drop,Array.getElem?_toList]
 have hsz:∀ t,t<n->i+t<a.size:=fun t ht=>by omega
 have hmem:∀ t (ht:t<n),Hk κ (a[i+t]'(hsz t ht)):=fun t ht=>hka _ (by simp)
 have hpw:∀ p q (hq:q<n) (hpq:p<=q),Le κ (a[i+p]'(hsz p (by omega))) (a[i+q]'(hsz q hq)):=fun p q hq hpq=>by
  rcases Nat.lt_or_eq_of_le hpq with g | g
  ·rw [List.pairwise_iff_getElem] at hs
   have hl:((a.toList.drop i).take n).length=n:=by rw [List.length_take,List.length_drop,Array.length_toList];omega
   have:=hs p q (by omega) (by omega) g
   simpa using this
  ·subst g;exact KeyOrd.kle_refl _
 refine w_gal (b:=fun t=>if ht:t<n then !κ.blt (kf κ key) (kf κ (a[i+t]'(hsz t ht))) else false) hh (fun t R ht hR=>?_) (fun p q hpq hq hb=>?_) (fun k hkn h1 h2=>h k hkn (fun x hx=>?_) (fun x hx=>?_))
 ·obtain ⟨c,hc⟩:=hmem t ht
  obtain ⟨d,hd⟩:=hkk
  refine w_bq hO hk (getElem?_pos a (i+t) (hsz t ht)) hc hd ?_
  simp only [Bool.false_eq_true,if_false]
  rw [dif_pos ht,kf_some hc,kf_some hd] at hR
  exact hR
 ·rw [dif_pos hq] at hb
  rw [dif_pos (by omega)]
  have h3:κ.kle (kf κ (a[i+q]'(hsz q hq))) (kf κ key):=by simpa [KeyOrd.kle] using hb
  have h4:=KeyOrd.kle_trans (hpw p q hq hpq) h3
  simpa [KeyOrd.kle] using h4
 ·obtain ⟨t,ht⟩:=List.mem_iff_getElem?.mp hx
  have htk:t<k:=by
   have:=(List.getElem?_eq_some_iff.mp ht).1
   rw [List.length_take] at this;omega
  rw [List.getElem?_take_of_lt htk,List.getElem?_drop,Array.getElem?_toList,getElem?_pos a (i+t) (hsz t (by omega))] at ht
  have h3:=h1 t htk
  rw [dif_pos (by omega)] at h3
  rw [<- Option.some.inj ht]
  show κ.kle _ _
  simpa [KeyOrd.kle] using h3
 ·obtain ⟨t,ht⟩:=List.mem_iff_getElem?.mp hx
  have htk:t<n-k:=by
   have:=(List.getElem?_eq_some_iff.mp ht).1
   rw [List.length_take] at this;omega
  rw [List.getElem?_take_of_lt htk,List.getElem?_drop,Array.getElem?_toList,show i+k+t=i+(k+t) by omega,getElem?_pos a (i+(k+t)) (hsz (k+t) (by omega))] at ht
  have h3:=h2 (k+t) (by omega) (by omega)
  rw [dif_pos (by omega)] at h3
  rw [<- Option.some.inj ht]
  exact KeyOrd.kle_of_klt (by simpa [KeyOrd.klt] using h3)
theorem w_galL {st:SortSt}{key:Keyed}{a:Array Keyed}{i n hint:Nat}{Q:Option Nat->SortSt->Prop}(hO:LtR prog w A E s κ kd)(hk:kindOf st=kd)(hin:i+n<=a.size)(hh:hint<n)(hka:∀ x∈a.toList,Hk κ x)(hkk:Hk κ key)(hs:((a.toList.drop i).take n).Pairwise (Le κ))
  (h:∀ k,k<=n->(∀ x∈(a.toList.drop i).take k,Le κ x key)->(∀ x∈(a.toList.drop (i+k)).take (n-k),Le κ key x)->Q (some k) st):wpS (model prog w) A E s (gal' true key a i n hint) Q st:=by
 have hsz:∀ t,t<n->i+t<a.size:=fun t ht=>by omega
 have hmem:∀ t (ht:t<n),Hk κ (a[i+t]'(hsz t ht)):=fun t ht=>hka _ (by simp)
 have hpw:∀ p q (hq:q<n) (hpq:p<=q),Le κ (a[i+p]'(hsz p (by omega))) (a[i+q]'(hsz q hq)):=fun p q hq hpq=>by
  rcases Nat.lt_or_eq_of_le hpq with g | g
  ·rw [List.pairwise_iff_getElem] at hs
   have hl:((a.toList.drop i).take n).length=n:=by rw [List.length_take,List.length_drop,Array.length_toList];omega
   have:=hs p q (by omega) (by omega) g
   simpa using this
  ·subst g;exact KeyOrd.kle_refl _
 refine w_gal (b:=fun t=>if ht:t<n then κ.blt (kf κ (a[i+t]'(hsz t ht))) (kf κ key) else false) hh (fun t R ht hR=>?_) (fun p q hpq hq hb=>?_) (fun k hkn h1 h2=>h k hkn (fun x hx=>?_) (fun x hx=>?_))
 ·obtain ⟨c,hc⟩:=hmem t ht
  obtain ⟨d,hd⟩:=hkk
  refine w_bq hO hk (getElem?_pos a (i+t) (hsz t ht)) hc hd ?_
  simp only [if_true]
  rw [dif_pos ht,kf_some hc,kf_some hd] at hR
  exact hR
 ·rw [dif_pos hq] at hb
  rw [dif_pos (by omega)]
  exact KeyOrd.klt_of_kle_of_klt (hpw p q hq hpq) hb
 ·obtain ⟨t,ht⟩:=List.mem_iff_getElem?.mp hx
  have htk:t<k:=by
   have:=(List.getElem?_eq_some_iff.mp ht).1
   rw [List.length_take] at this;omega
  rw [List.getElem?_take_of_lt htk,List.getElem?_drop,Array.getElem?_toList,getElem?_pos a (i+t) (hsz t (by omega))] at ht
  have h3:=h1 t htk
  rw [dif_pos (by omega)] at h3
  rw [<- Option.some.inj ht]
  exact KeyOrd.kle_of_klt h3
 ·obtain ⟨t,ht⟩:=List.mem_iff_getElem?.mp hx
  have htk:t<n-k:=by
   have:=(List.getElem?_eq_some_iff.mp ht).1
   rw [List.length_take] at this;omega
  rw [List.getElem?_take_of_lt htk,List.getElem?_drop,Array.getElem?_toList,show i+k+t=i+(k+t) by omega,getElem?_pos a (i+(k+t)) (hsz (k+t) (by omega))] at ht
  have h3:=h2 (k+t) (by omega) (by omega)
  rw [dif_pos (by omega)] at h3
  rw [<- Option.some.inj ht]
  exact h3
end
end SR
set_option autoImplicit false
namespace SR
open PySem PyProof.Rows
section
variable {prog:Program}{w:World}{A:Around}{E:Value->Shared->Prop}{s:Shared}{κ:KeyKind}{kd:SortKind}
theorem Le.tr {x y t:Keyed}(h:Le κ x y)(h':Le κ y t):Le κ x t:=KeyOrd.kle_trans h h'
theorem head_le {l:List Keyed}{x:Keyed}(h:(x::l).Pairwise (Le κ)):∀ y∈x::l,Le κ x y:=fun y hy=>by
 rcases List.mem_cons.mp hy with g | g
 ·rw [g];exact KeyOrd.kle_refl _
 ·exact (List.pairwise_cons.mp h).1 y g
theorem le_drop {a:Array Keyed}{i:Nat}(hi:i<a.size)(h:(a.toList.drop i).Pairwise (Le κ)):∀ y∈a.toList.drop i,Le κ a[i] y:=by
 rw [drop_cons hi] at h ⊢
 exact head_le h
set_option genInjectivity false in
structure GL (κ:KeyKind)(a b o:Array Keyed)(i j:Nat):Prop where
 mi:MI (Le κ) (a.toList++b.toList) o.toList (a.toList.drop i) (b.toList.drop j)
 hi:i+1<a.size
 hj:j<b.size
abbrev LoSt:=Option (Array Keyed)×Array Keyed×Nat×Nat×Nat×Nat×Nat
def lo3 (a b o:Array Keyed)(i j g p q:Nat):StateT SortSt Sem (ForInStep LoSt):=do
 let x <- elem' a i
 if (i+1+1==a.size)=true then pure (ForInStep.done (some (o.push x++b.extract j b.size++a.extract (i+1) a.size),o.push x,i+1,j,g,p,q))
 else if (decide (p<7)&&decide (q<7))=true then pure (ForInStep.done (none,o.push x,i+1,j,g,p,q)) else pure (ForInStep.yield (none,o.push x,i+1,j,g,p,q))
def lo2 (a b o:Array Keyed)(i j g p q:Nat):StateT SortSt Sem (ForInStep LoSt):=do
 let x <- elem' b j
 if (j+1==b.size)=true then pure (ForInStep.done (some (o.push x++a.extract i a.size++b.extract (j+1) b.size),o.push x,i,j+1,g,p,q))
 else do
  let u <- elem' a i
  let z <- gal' true u b (j+1) (b.size-(j+1)) 0
  match z with
  | some k =>
   if k>0 then
    if (j+1+k==b.size)=true then pure (ForInStep.done (some (o.push x++b.extract (j+1) (j+1+k)++a.extract i a.size++b.extract (j+1+k) b.size),o.push x++b.extract (j+1) (j+1+k),i,j+1+k,g,p,k))
    else lo3 a b (o.push x++b.extract (j+1) (j+1+k)) i (j+1+k) g p k
   else lo3 a b (o.push x) i (j+1) g p k
  | _=>pure (ForInStep.done (some (o.push x++a.extract i a.size++b.extract (j+1) b.size),o.push x,i,j+1,g,p,q))
abbrev LoR (κ:KeyKind)(a b:Array Keyed)(st:SortSt)(m:Nat):ForInStep LoSt->SortSt->Prop:=fun r st'=>match r with
 | .yield c=>Ev st st'∧∃ o i j g p q,c=(none,o,i,j,g,p,q)∧GL κ a b o i j∧m<=i+j
 | .done c=>Ev st st'∧((∃ r,c.1=some r∧Fi (Le κ) (a.toList++b.toList) r)∨(c.1=none∧GL κ a b c.2.1 c.2.2.1 c.2.2.2.1∧m<=c.2.2.1+c.2.2.2.1))
theorem w_lo3 {st st4:SortSt}{a b o7:Array Keyed}{i j g p q m:Nat}(he5:Ev st st4)(hi:i+1<a.size)(hj:j<b.size)(hl:∀ y∈b.toList,∀ x,a.toList.getLast?=some x->Le κ y x)(m3:MI (Le κ) (a.toList++b.toList) o7.toList (a.toList.drop i) (b.toList.drop j))(e2':∀ x∈b.toList.drop j,Le κ (a[i]'(by omega)) x)(hm:m<=i+1+j) :
  wpS (model prog w) A E s (lo3 a b o7 i j g p q) (LoR κ a b st m) st4:=by
 unfold lo3
 refine wpS_bind (w_el (by omega) ?_)
 have m4:=m3.pushA (by omega) fun y hy=>e2' y hy
 by_cases ha4:i+1+1=a.size
 ·rw [if_pos (by simpa using ha4)]
  exact wpS_pure ⟨he5,.inl ⟨_,rfl,m4.lastA ha4 hl⟩⟩
 rw [if_neg (by simpa using ha4)]
 split
 ·exact wpS_pure ⟨he5,.inr ⟨rfl,⟨m4,by dsimp only;omega,hj⟩,hm⟩⟩
 ·exact wpS_pure ⟨he5,_,_,_,_,_,_,rfl,⟨m4,by omega,hj⟩,hm⟩
theorem w_lo2 {st st4:SortSt}{a b o5:Array Keyed}{i j g p q m:Nat}(hO:LtR prog w A E s κ kd)(hk:kindOf st4=kd)(hka:∀ x∈a.toList,Hk κ x)(hkb:∀ x∈b.toList,Hk κ x)(hl:∀ y∈b.toList,∀ x,a.toList.getLast?=some x->Le κ y x)
  (he5:Ev st st4) (hi:i+1<a.size) (hj:j<b.size) (m1:MI (Le κ) (a.toList++b.toList) o5.toList (a.toList.drop i) (b.toList.drop j)) (k2':∀ x∈a.toList.drop i,Le κ b[j] x) (hm:m<=i+j) :
  wpS (model prog w) A E s (lo2 a b o5 i j g p q) (LoR κ a b st m) st4:=by
 unfold lo2
 refine wpS_bind (w_el hj ?_)
 have m2:=(m1.sw.pushA hj fun y hy=>k2' y hy).sw
 by_cases hb2:j+1=b.size
 ·rw [if_pos (by simpa using hb2)]
  exact wpS_pure ⟨he5,.inl ⟨_,rfl,m2.doneA (by omega)⟩⟩
 rw [if_neg (by simpa using hb2)]
 generalize o5.push b[j]=o6 at m2 ⊢
 refine wpS_bind (w_el (by omega) ?_)
 refine wpS_bind (w_galL hO hk (show j+1+(b.size-(j+1))<=b.size by omega) (by omega) hkb (hka _ (by simp)) (m2.sb.sublist (List.take_sublist _ _)) fun e hen e1 e2=>?_)
 dsimp only
 have e2':∀ x∈b.toList.drop (j+1+e),Le κ (a[i]'(by omega)) x:=fun x hx=>e2 x (by rw [List.take_of_length_le (by rw [List.length_drop,Array.length_toList];omega)];exact hx)
 have m3:=(m2.sw.blkA (k:=e) fun x hx y hy=>Le.tr (e1 x hx) (le_drop (by omega) m2.sa y hy)).sw
 by_cases hep:e>0
 ·rw [if_pos hep]
  by_cases hb3:j+1+e=b.size
  ·rw [if_pos (by simpa using hb3)]
   exact wpS_pure ⟨he5,.inl ⟨_,rfl,m3.doneA (by omega)⟩⟩
  rw [if_neg (by simpa using hb3)]
  exact w_lo3 he5 hi (by omega) hl m3 e2' (by omega)
 ·rw [if_neg hep]
  obtain rfl:e=0:=by omega
  exact w_lo3 he5 hi (by omega) hl m2 e2' (by omega)
theorem w_mLo {st:SortSt}{a b:Array Keyed}{Q:Array Keyed->SortSt->Prop}(hO:LtR prog w A E s κ kd)(hk:kindOf st=kd)(ha:0<a.size)(hb:0<b.size)(hka:∀ x∈a.toList,Hk κ x)(hkb:∀ x∈b.toList,Hk κ x)
  (sa:a.toList.Pairwise (Le κ)) (sb:b.toList.Pairwise (Le κ)) (h0:∀ y∈a.toList,Le κ b[0] y) (hl:∀ y∈b.toList,∀ x,a.toList.getLast?=some x->Le κ y x)
  (h:∀ r st',Ev st st'->Fi (Le κ) (a.toList++b.toList) r->Q r st'):wpS (model prog w) A E s (mLo' a b) Q st:=by
 rw [mLo'_eq]
 refine wpS_bind (wpS_lift (wpAny_rule ⟨rfl,?_⟩))
 refine wpS_bind (w_el hb ?_)
 have m0:MI (Le κ) (a.toList++b.toList) #[b[0]].toList (a.toList.drop 0) (b.toList.drop 1):=by
  have m:MI (Le κ) (a.toList++b.toList) (#[]:Array Keyed).toList (b.toList.drop 0) (a.toList.drop 0):=(⟨List.Pairwise.nil,fun x hx=>(nomatch hx),List.Perm.refl _,by simpa using sa,by simpa using sb⟩:MI (Le κ) (a.toList++b.toList) [] (a.toList.drop 0) (b.toList.drop 0)).sw
  exact (m.pushA hb (fun y hy=>h0 y (List.mem_of_mem_drop hy))).sw
 have mema:∀ {i:Nat} (g:i<a.size),Hk κ a[i]:=fun g=>hka _ (by simp)
 have memb:∀ {i:Nat} (g:i<b.size),Hk κ b[i]:=fun g=>hkb _ (by simp)
 by_cases hb1:1=b.size
 ·rw [if_pos (by simpa using hb1)]
  exact wpS_pure (h _ st Ev.r (m0.doneA (by omega)))
 rw [if_neg (by simpa using hb1)]
 by_cases ha1:0+1=a.size
 ·rw [if_pos (by simpa using ha1)]
  exact wpS_pure (h _ st Ev.r (m0.lastA ha1 hl))
 rw [if_neg (by simpa using ha1)]
 unfold mLoT
 dsimp only
 refine wpS_bind (wpS_get ?_)
 refine wpS_bind (wpS_mono (wpS_forRange (I:=fun x c st'=>Ev st st'∧∃ o i j g,c=(none,o,i,j,g)∧GL κ a b o i j∧x<=i+j)
  (Q:=fun c st'=>Ev st st'∧∃ r,c.1=some r∧Fi (Le κ) (a.toList++b.toList) r) ?sp ?fi ⟨Ev.r,_,0,1,_,rfl,⟨m0,by omega,by omega⟩,by omega⟩) ?po)
 case po =>
  rintro ⟨o,rest⟩ st' ⟨he,r,e1,hf⟩
  dsimp only at e1 ⊢
  subst e1
  exact wpS_pure (h r st' he hf)
 case fi =>
  rintro c st' ⟨he,o,i,j,g,rfl,hg,hx⟩
  have:=hg.hi
  have:=hg.hj
  omega
 case sp =>
  intro x c st1 _ hx
  revert c
  refine ex4 fun o0 i0 j0 g0 he1 hg0 hxx=>?_
  dsimp only
  refine wpS_bind (wpS_mono (wpS_forRange (I:=fun x c st'=>Ev st st'∧∃ o i j p q,c=(none,o,i,j,p,q)∧GL κ a b o i j∧i0+j0+x<=i+j)
   (Q:=fun c st'=>Ev st st'∧((∃ r,c.1=some r∧Fi (Le κ) (a.toList++b.toList) r)∨(c.1=none∧GL κ a b c.2.1 c.2.2.1 c.2.2.2.1∧i0+j0+1<=c.2.2.1+c.2.2.2.1))) ?sp1 ?fi1 ⟨he1,o0,i0,j0,0,0,rfl,hg0,by omega⟩) ?po1)
  case fi1 =>
   rintro c st' ⟨he,o,i,j,p,q,rfl,hg,hx2⟩
   exact ⟨he,.inr ⟨rfl,hg,by dsimp only;omega⟩⟩
  case sp1 =>
   intro x1 c st2 _ hx1
   revert c
   refine ex5 fun o i j p q he2 hg hx2=>?_
   have hi:=hg.hi
   have hj:=hg.hj
   dsimp only
   refine wpS_bind (w_el hj (wpS_bind (w_el (by omega) ?_)))
   refine wpS_bind (w_lt3 hO (he2.knd.trans hk) (memb hj) (mema (by omega)) ?_)
   dsimp only
   cases ht:κ.blt (kf κ b[j]) (kf κ (a[i]'(by omega))) with
   | true =>
    rw [if_pos rfl]
    refine wpS_bind (w_el hj ?_)
    have m1:=(hg.mi.sw.pushA hj fun y hy=>Le.tr (KeyOrd.kle_of_klt ht) (le_drop (by omega) hg.mi.sa y hy)).sw
    by_cases hb2:j+1=b.size
    ·rw [if_pos (by simpa using hb2)]
     exact wpS_pure ⟨he2,.inl ⟨_,rfl,m1.doneA (by omega)⟩⟩
    ·rw [if_neg (by simpa using hb2)]
     have g1:GL κ a b (o.push b[j]) i (j+1):=⟨m1,hi,by omega⟩
     split
     ·exact wpS_pure ⟨he2,.inr ⟨rfl,g1,by dsimp only;omega⟩⟩
     ·exact wpS_pure ⟨he2,_,_,_,_,_,rfl,g1,by omega⟩
   | false =>
    rw [if_neg Bool.false_ne_true]
    refine wpS_bind (w_el (by omega) ?_)
    have m1:=hg.mi.pushA (by omega) fun y hy=>Le.tr (show Le κ _ b[j] from ht) (le_drop hj hg.mi.sb y hy)
    by_cases ha2:i+1+1=a.size
    ·rw [if_pos (by simpa using ha2)]
     exact wpS_pure ⟨he2,.inl ⟨_,rfl,m1.lastA ha2 hl⟩⟩
    ·rw [if_neg (by simpa using ha2)]
     have g1:GL κ a b (o.push (a[i]'(by omega))) (i+1) j:=⟨m1,by omega,hj⟩
     split
     ·exact wpS_pure ⟨he2,.inr ⟨rfl,g1,by dsimp only;omega⟩⟩
     ·exact wpS_pure ⟨he2,_,_,_,_,_,rfl,g1,by omega⟩
  case po1 =>
   intro c st2
   revert c
   refine or6 (fun o i j=>GL κ a b o i j) (fun o i j=>i0+j0+1<=i+j) (fun r o1 i1 j1 e he2 hf=>?_) (fun o1 i1 j1 e he2 hg1 hx2=>?_)
   ·exact wpS_pure ⟨he2,r,rfl,hf⟩
   ·dsimp only
    refine wpS_bind (wpS_lift (wpAny_rule ⟨rfl,?_⟩))
    refine wpS_bind (wpS_mono (wpS_forRange (I:=fun x c st'=>Ev st st'∧∃ o i j g p q,c=(none,o,i,j,g,p,q)∧GL κ a b o i j∧i1+j1<=i+j)
     (Q:=fun c st'=>Ev st st'∧((∃ r,c.1=some r∧Fi (Le κ) (a.toList++b.toList) r)∨(c.1=none∧GL κ a b c.2.1 c.2.2.1 c.2.2.2.1∧i1+j1<=c.2.2.1+c.2.2.2.1))) ?sp2 ?fi2 ⟨he2,o1,i1,j1,_,_,_,rfl,hg1,by omega⟩) ?po2)
    case fi2 =>
     rintro c st' ⟨he,o,i,j,g,p,q,rfl,hg,hx2⟩
     exact ⟨he,.inr ⟨rfl,hg,hx2⟩⟩
    case po2 =>
     intro c st3
     revert c
     refine or6 (fun o i j=>GL κ a b o i j) (fun o i j=>i1+j1<=i+j) (fun r o2 i2 j2 e he3 hf=>?_) (fun o2 i2 j2 e he3 hg2 hx3=>?_)
     ·exact wpS_pure ⟨he3,r,rfl,hf⟩
     ·dsimp only
      exact wpS_bind (w_setG fun st4 he4=>wpS_pure ⟨he3.t he4,o2,i2,j2,_,rfl,hg2,by omega⟩)
    case sp2 =>
     intro x2 c st3 _ hx3
     revert c
     refine ex6 fun o i j g p q he3 hg hxx2=>?_
     have hi:=hg.hi
     have hj:=hg.hj
     dsimp only
     refine have key:∀ g1:Nat,wpS (model prog w) A E s ((?F:Nat->StateT SortSt Sem ?α) g1) ?QQ st3:=?key;?main
     case main =>
      by_cases hgg:g>1
      ·rw [if_pos hgg];generalize g-1=g1;exact key g1
      ·rw [if_neg hgg];generalize g=g1;exact key g1
     case key =>
      intro g1
      refine wpS_bind (w_setG fun st4 he4=>?_)
      have he5:=he3.t he4
      refine wpS_bind (w_el hj ?_)
      refine wpS_bind (w_galR hO (he5.knd.trans hk) (show i+(a.size-i)<=a.size by omega) (by omega) hka (memb hj) (hg.mi.sa.sublist (List.take_sublist _ _)) fun k hkn k1 k2=>?_)
      dsimp only
      have k2':∀ x∈a.toList.drop (i+k),Le κ b[j] x:=fun x hx=>k2 x (by rw [List.take_of_length_le (by rw [List.length_drop,Array.length_toList];omega)];exact hx)
      have m1:=hg.mi.blkA (k:=k) fun x hx y hy=>Le.tr (k1 x hx) (le_drop hj hg.mi.sb y hy)
      by_cases hkp:k>0
      ·rw [if_pos hkp]
       by_cases ha2:i+k+1=a.size
       ·rw [if_pos (by simpa using ha2)]
        exact wpS_pure ⟨he5,.inl ⟨_,rfl,m1.lastA ha2 hl⟩⟩
       rw [if_neg (by simpa using ha2)]
       by_cases ha3:i+k=a.size
       ·rw [if_pos (by simpa using ha3)]
        exact wpS_pure ⟨he5,.inl ⟨_,rfl,m1.doneB (by omega)⟩⟩
       rw [if_neg (by simpa using ha3)]
       refine w_eq (m':=lo2 a b (o++a.extract i (i+k)) (i+k) j g1 k q) rfl ?_
       exact wpS_mono (w_lo2 (m:=i1+j1) hO (he5.knd.trans hk) hka hkb hl he5 (by omega) hj m1 k2' (by omega)) fun r st' hr=>by cases r <;> exact hr
      ·rw [if_neg hkp]
       obtain rfl:k=0:=by omega
       refine w_eq (m':=lo2 a b o i j g1 0 q) rfl ?_
       exact wpS_mono (w_lo2 (m:=i1+j1) hO (he5.knd.trans hk) hka hkb hl he5 hi hj hg.mi k2' (by omega)) fun r st' hr=>by cases r <;> exact hr
end
end SR
set_option autoImplicit false
namespace SR
open PySem PyProof.Rows
def Ge (κ:KeyKind)(x y:Keyed):Prop:=Le κ y x
def rt (a:Array Keyed)(n:Nat):List Keyed:=(a.toList.take n).reverse
theorem rt_cons {a:Array Keyed}{n:Nat}(h:n<a.size):rt a (n+1)=a[n]::rt a n:=by
 unfold rt
 rw [List.take_add_one,Array.getElem?_toList,getElem?_pos a n h]
 simp
theorem rt_split {a:Array Keyed}{k n:Nat}(h:k<=n):rt a n=((a.toList.drop k).take (n-k)).reverse++rt a k:=by
 unfold rt
 rw [<- List.reverse_append]
 congr 1
 rw [show n=k+(n-k) by omega,List.take_add,Nat.add_sub_cancel_left]
theorem ext_rev {a:Array Keyed}{k n:Nat}:(a.extract k n).reverse.toList=((a.toList.drop k).take (n-k)).reverse:=by
 rw [Array.toList_reverse,Array.toList_extract,List.extract_eq_take_drop]
theorem MI.pushT {R:Keyed->Keyed->Prop}{Z:List Keyed}{o a:Array Keyed}{n:Nat}{rb:List Keyed}(h:MI R Z o.toList (rt a (n+1)) rb)(hn:n<a.size)(hu:∀ y∈rb,R a[n] y):MI R Z (o.push a[n]).toList (rt a n) rb:=by
 rw [rt_cons hn,<- List.singleton_append] at h
 have:=h.blk fun x hx y hy=>by rw [List.mem_singleton.mp hx];exact hu y hy
 rw [Array.toList_push]
 exact this
theorem MI.blkT {R:Keyed->Keyed->Prop}{Z:List Keyed}{o a:Array Keyed}{k n:Nat}{rb:List Keyed}(h:MI R Z o.toList (rt a n) rb)(hk:k<=n)(hu:∀ x∈(a.toList.drop k).take (n-k),∀ y∈rb,R x y):MI R Z (o++(a.extract k n).reverse).toList (rt a k) rb:=by
 rw [rt_split hk] at h
 rw [Array.toList_append,ext_rev]
 exact h.blk fun x hx y hy=>hu x (List.mem_reverse.mp hx) y hy
theorem fi_rev {κ:KeyKind}{Z:List Keyed}{r:Array Keyed}{l:List Keyed}(e:r.toList.reverse=l)(h:l.Perm Z∧l.Pairwise (Ge κ)):Fi (Le κ) Z r:=by
 have e2:r.toList=l.reverse:=by rw [<- e,List.reverse_reverse]
 unfold Fi
 rw [e2]
 exact ⟨(List.reverse_perm l).trans h.1,List.pairwise_reverse.mpr h.2⟩
theorem ext_to (a:Array Keyed)(n:Nat):(a.extract 0 n).toList=a.toList.take n:=by
 rw [Array.toList_extract,List.extract_eq_take_drop,List.drop_zero,Nat.sub_zero]
theorem MI.doneT {κ:KeyKind}{Z:List Keyed}{o a b:Array Keyed}{m:Nat}(h:MI (Ge κ) Z o.toList (rt a 0) (rt b m)):Fi (Le κ) Z (a.extract 0 0++b.extract 0 m++o.reverse):=by
 refine fi_rev (l:=o.toList++rt b m) ?_ ?_
 ·rw [Array.toList_append,Array.toList_append,ext_to,ext_to,Array.toList_reverse]
  simp [rt]
 ·have h2:MI (Ge κ) Z o.toList [] (rt b m):=h
  exact h2.sw.fin
theorem MI.doneT2 {κ:KeyKind}{Z:List Keyed}{o a b:Array Keyed}{n:Nat}(h:MI (Ge κ) Z o.toList (rt a n) (rt b 0)):Fi (Le κ) Z (a.extract 0 n++b.extract 0 0++o.reverse):=by
 refine fi_rev (l:=o.toList++rt a n) ?_ ?_
 ·rw [Array.toList_append,Array.toList_append,ext_to,ext_to,Array.toList_reverse]
  simp [rt]
 ·have h2:MI (Ge κ) Z o.toList (rt a n) []:=h
  exact h2.fin
theorem MI.firstT {κ:KeyKind}{Z:List Keyed}{o a b:Array Keyed}{n:Nat}(hb:0<b.size)(h:MI (Ge κ) Z o.toList (rt a n) (rt b 1))(h0:∀ y∈a.toList,Le κ b[0] y):Fi (Le κ) Z (b.extract 0 1++a.extract 0 n++o.reverse):=by
 refine fi_rev (l:=o.toList++rt a n++rt b 1) ?_ ?_
 ·rw [Array.toList_append,Array.toList_append,ext_to,ext_to,Array.toList_reverse]
  simp [rt]
 ·have e1:rt b 1=[b[0]]:=by rw [rt_cons hb];rfl
  rw [show rt a n=rt a n++[] from (List.append_nil _).symm] at h
  have h2:=(h.blk fun x hx y hy=>by
   rw [e1,List.mem_singleton] at hy
   rw [hy]
   exact h0 x (List.mem_of_mem_take (List.mem_reverse.mp hx))).sw
  exact h2.fin
def mHi':Array Keyed->Array Keyed->StateT SortSt Sem (Array Keyed):=sortPriv% PySem.Builtin.mergeHi
def mHiT (a b o:Array Keyed)(i j:Nat):StateT SortSt Sem (Array Keyed):=do
 let tot:=a.size+b.size
 let dn (o:Array Keyed) (i j:Nat):=a.extract 0 i++b.extract 0 j++o.reverse
 let fb (o:Array Keyed) (i j:Nat):=b.extract 0 j++a.extract 0 i++o.reverse
 let mut i:=i
 let mut j:=j
 let mut o:=o
 let mut g:=gallopOf (<- get)
 for _ in [0:tot] do
  let mut p:=0
  let mut q:=0
  for _ in [0:tot] do
   let some t <- lt' (<- elem' b (j-1)) (<- elem' a (i-1)) | return dn o i j
   if t then
    i:=i-1;o:=o.push (<- elem' a i);p:=p+1;q:=0
    if i==0 then return dn o i j
    if p≥g then break
   else
    j:=j-1;o:=o.push (<- elem' b j);q:=q+1;p:=0
    if j==1 then return fb o i j
    if q≥g then break
  rule "list.sort.gallop"
  g:=g+1
  for _ in [0:tot] do
   if g>1 then g:=g-1
   setG g
   let some y <- gal' false (<- elem' b (j-1)) a 0 i (i-1) | return dn o i j
   let k:=i-y
   p:=k
   if k>0 then
    o:=o++(a.extract y i).reverse;i:=y
    if i==0 then return dn o i j
   j:=j-1;o:=o.push (<- elem' b j)
   if j==1 then return fb o i j
   let some y <- gal' true (<- elem' a (i-1)) b 0 j (j-1) | return dn o i j
   let k:=j-y
   q:=k
   if k>0 then
    o:=o++(b.extract y j).reverse;j:=y
    if j==1 then return fb o i j
    if j==0 then return dn o i j
   i:=i-1;o:=o.push (<- elem' a i)
   if i==0 then return dn o i j
   if p<7&&q<7 then break
  g:=g+1
  setG g
 unsupported "internal:list.sort.merge-bound"
theorem mHi'_eq (a b:Array Keyed):mHi' a b=(do
 rule "list.sort.merge-hi"
 let x <- elem' a (a.size-1)
 if a.size-1==0 then return a.extract 0 (a.size-1)++b.extract 0 b.size ++ #[x].reverse
 if b.size==1 then return b.extract 0 b.size++a.extract 0 (a.size-1) ++ #[x].reverse
 mHiT a b #[x] (a.size-1) b.size):=rfl
section
variable {prog:Program}{w:World}{A:Around}{E:Value->Shared->Prop}{s:Shared}{κ:KeyKind}{kd:SortKind}
set_option genInjectivity false in
structure GH (κ:KeyKind)(a b o:Array Keyed)(i j:Nat):Prop where
 mi:MI (Ge κ) (a.toList++b.toList) o.toList (rt a i) (rt b j)
 hi:1<=i∧i<=a.size
 hj:2<=j∧j<=b.size
theorem ge_rt {a:Array Keyed}{i:Nat}(hi:i<a.size)(h:(rt a (i+1)).Pairwise (Ge κ)):∀ y∈rt a (i+1),Ge κ a[i] y:=by
 rw [rt_cons hi] at h ⊢
 intro y hy
 rcases List.mem_cons.mp hy with g | g
 ·rw [g];exact KeyOrd.kle_refl _
 ·exact (List.pairwise_cons.mp h).1 y g
theorem rt_mem {a:Array Keyed}{k:Nat}{x:Keyed}(h:x∈rt a k):x∈(a.toList.drop 0).take k:=by
 rw [List.drop_zero];exact List.mem_reverse.mp h
abbrev HiSt:=Option (Array Keyed)×Nat×Nat×Array Keyed×Nat×Nat×Nat
def hi3 (a b o:Array Keyed)(i j g p q:Nat):StateT SortSt Sem (ForInStep HiSt):=do
 let x <- elem' a (i-1)
 if (i-1==0)=true then pure (ForInStep.done (some (a.extract 0 (i-1)++b.extract 0 j++(o.push x).reverse),i-1,j,o.push x,g,p,q))
 else if (decide (p<7)&&decide (q<7))=true then pure (ForInStep.done (none,i-1,j,o.push x,g,p,q)) else pure (ForInStep.yield (none,i-1,j,o.push x,g,p,q))
def hi2 (a b o:Array Keyed)(i j g p q:Nat):StateT SortSt Sem (ForInStep HiSt):=do
 let x <- elem' b j
 if (j==1)=true then pure (ForInStep.done (some (b.extract 0 j++a.extract 0 i++(o.push x).reverse),i,j,o.push x,g,p,q))
 else do
  let u <- elem' a (i-1)
  let z <- gal' true u b 0 j (j-1)
  match z with
  | some y =>
   if j-y>0 then
    if (y==1)=true then pure (ForInStep.done (some (b.extract 0 y++a.extract 0 i++(o.push x++(b.extract y j).reverse).reverse),i,y,o.push x++(b.extract y j).reverse,g,p,j-y))
    else if (y==0)=true then pure (ForInStep.done (some (a.extract 0 i++b.extract 0 y++(o.push x++(b.extract y j).reverse).reverse),i,y,o.push x++(b.extract y j).reverse,g,p,j-y))
    else hi3 a b (o.push x++(b.extract y j).reverse) i y g p (j-y)
   else hi3 a b (o.push x) i j g p (j-y)
  | _=>pure (ForInStep.done (some (a.extract 0 i++b.extract 0 j++(o.push x).reverse),i,j,o.push x,g,p,q))
abbrev HiR (κ:KeyKind)(a b:Array Keyed)(st:SortSt)(m:Nat):ForInStep HiSt->SortSt->Prop:=fun r st'=>match r with
 | .yield c=>Ev st st'∧∃ o i j g p q,c=(none,i,j,o,g,p,q)∧GH κ a b o i j∧i+j<=m
 | .done c=>Ev st st'∧((∃ r,c.1=some r∧Fi (Le κ) (a.toList++b.toList) r)∨(c.1=none∧GH κ a b c.2.2.2.1 c.2.1 c.2.2.1∧c.2.1+c.2.2.1<=m))
theorem w_hi3 {st st4:SortSt}{a b o7:Array Keyed}{y e5 g p q5 m:Nat}(he5:Ev st st4)(hya:y<a.size)(m3:MI (Ge κ) (a.toList++b.toList) o7.toList (rt a (y+1)) (rt b e5))(e1':∀ x∈rt b e5,Le κ x a[y])(h2:2<=e5∧e5<=b.size)(hm:y+e5<=m) :
  wpS (model prog w) A E s (hi3 a b o7 (y+1) e5 g p q5) (HiR κ a b st m) st4:=by
 unfold hi3
 simp only [Nat.add_sub_cancel]
 refine wpS_bind (w_el hya ?_)
 have m4:=m3.pushT hya fun u hu=>e1' u hu
 by_cases ha4:y=0
 ·rw [if_pos (by simpa using ha4)]
  subst ha4
  exact wpS_pure ⟨he5,.inl ⟨_,rfl,m4.doneT⟩⟩
 rw [if_neg (by simpa using ha4)]
 split
 ·exact wpS_pure ⟨he5,.inr ⟨rfl,⟨m4,by dsimp only;omega,h2⟩,hm⟩⟩
 ·exact wpS_pure ⟨he5,_,_,_,_,_,_,rfl,⟨m4,by omega,h2⟩,hm⟩
theorem w_hi2 {st st4:SortSt}{a b o5:Array Keyed}{y j g p q m:Nat}(hO:LtR prog w A E s κ kd)(hk:kindOf st4=kd)(hb:0<b.size)(hka:∀ x∈a.toList,Hk κ x)(hkb:∀ x∈b.toList,Hk κ x)(sb:b.toList.Pairwise (Le κ))(h0:∀ y∈a.toList,Le κ b[0] y)
  (he5:Ev st st4) (hya:y<a.size) (hj:1<=j∧j<b.size) (m1:MI (Ge κ) (a.toList++b.toList) o5.toList (rt a (y+1)) (rt b (j+1))) (k1':∀ x∈rt a (y+1),Le κ x b[j]) (hm:y+j<=m) :
  wpS (model prog w) A E s (hi2 a b o5 (y+1) j g p q) (HiR κ a b st m) st4:=by
 unfold hi2
 refine wpS_bind (w_el hj.2 ?_)
 have m2:=(m1.sw.pushT hj.2 fun u hu=>k1' u hu).sw
 by_cases hb2:j=1
 ·rw [if_pos (by simpa using hb2)]
  subst hb2
  exact wpS_pure ⟨he5,.inl ⟨_,rfl,m2.firstT hb h0⟩⟩
 rw [if_neg (by simpa using hb2)]
 generalize o5.push b[j]=o6 at m2 ⊢
 simp only [Nat.add_sub_cancel]
 refine wpS_bind (w_el hya ?_)
 refine wpS_bind (w_galL hO hk (show 0+j<=b.size by omega) (by omega) hkb (hka _ (by simp)) (by rw [List.drop_zero];exact sb.sublist (List.take_sublist _ _)) fun e hen e1 e2=>?_)
 dsimp only
 rw [Nat.zero_add] at e2
 have m3:=(m2.sw.blkT hen fun x hx u hu=>Le.tr (ge_rt hya m2.sa u hu) (e2 x hx)).sw
 have e1':∀ x∈rt b e,Le κ x a[y]:=fun x hx=>e1 x (rt_mem hx)
 by_cases hep:j-e>0
 ·rw [if_pos hep]
  by_cases hb3:e=1
  ·rw [if_pos (by simpa using hb3)]
   subst hb3
   exact wpS_pure ⟨he5,.inl ⟨_,rfl,m3.firstT hb h0⟩⟩
  rw [if_neg (by simpa using hb3)]
  by_cases hb4:e=0
  ·rw [if_pos (by simpa using hb4)]
   subst hb4
   exact wpS_pure ⟨he5,.inl ⟨_,rfl,m3.doneT2⟩⟩
  rw [if_neg (by simpa using hb4)]
  exact w_hi3 he5 hya m3 e1' (by omega) (by omega)
 ·rw [if_neg hep]
  obtain rfl:e=j:=by omega
  exact w_hi3 he5 hya m2 e1' (by omega) hm
theorem w_mHi {st:SortSt}{a b:Array Keyed}{Q:Array Keyed->SortSt->Prop}(hO:LtR prog w A E s κ kd)(hk:kindOf st=kd)(ha:0<a.size)(hb:0<b.size)(hka:∀ x∈a.toList,Hk κ x)(hkb:∀ x∈b.toList,Hk κ x)
  (sa:a.toList.Pairwise (Le κ)) (sb:b.toList.Pairwise (Le κ)) (h0:∀ y∈a.toList,Le κ b[0] y) (hl:∀ y∈b.toList,∀ x,a.toList.getLast?=some x->Le κ y x)
  (h:∀ r st',Ev st st'->Fi (Le κ) (a.toList++b.toList) r->Q r st'):wpS (model prog w) A E s (mHi' a b) Q st:=by
 rw [mHi'_eq]
 refine wpS_bind (wpS_lift (wpAny_rule ⟨rfl,?_⟩))
 refine wpS_bind (w_el (by omega) ?_)
 have pr:∀ (l:Array Keyed),l.toList.Pairwise (Le κ)->(rt l l.size).Pairwise (Ge κ):=fun l hl=>by
  unfold rt
  rw [List.take_of_length_le (by rw [Array.length_toList];exact Nat.le_refl _)]
  exact List.pairwise_reverse.mpr hl
 have m0:MI (Ge κ) (a.toList++b.toList) #[a[a.size-1]'(by omega)].toList (rt a (a.size-1)) (rt b b.size):=by
  have m:MI (Ge κ) (a.toList++b.toList) (#[]:Array Keyed).toList (rt a (a.size-1+1)) (rt b b.size):=by
   refine ⟨List.Pairwise.nil,fun x hx=>(nomatch hx),?_,by rw [show a.size-1+1=a.size by omega];exact pr a sa,pr b sb⟩
   rw [show a.size-1+1=a.size by omega]
   show (rt a a.size++rt b b.size).Perm _
   unfold rt
   rw [List.take_of_length_le (by rw [Array.length_toList];exact Nat.le_refl _),List.take_of_length_le (by rw [Array.length_toList];exact Nat.le_refl _)]
   exact (List.reverse_perm _).append (List.reverse_perm _)
  refine m.pushT (by omega) fun y hy=>?_
  refine hl y (List.mem_of_mem_take (List.mem_reverse.mp hy)) _ ?_
  rw [List.getLast?_eq_getElem?,Array.length_toList,Array.getElem?_toList,getElem?_pos a (a.size-1) (by omega)]
 generalize #[a[a.size-1]'(by omega)]=o0 at m0 ⊢
 have mema:∀ {i:Nat} (g:i<a.size),Hk κ a[i]:=fun g=>hka _ (by simp)
 have memb:∀ {i:Nat} (g:i<b.size),Hk κ b[i]:=fun g=>hkb _ (by simp)
 by_cases ha1:a.size-1=0
 ·rw [if_pos (by simpa using ha1)]
  refine wpS_pure (h _ st Ev.r ?_)
  rw [ha1] at m0 ⊢
  exact m0.doneT
 rw [if_neg (by simpa using ha1)]
 by_cases hb1:b.size=1
 ·rw [if_pos (by simpa using hb1)]
  refine wpS_pure (h _ st Ev.r ?_)
  rw [hb1] at m0 ⊢
  exact m0.firstT hb h0
 rw [if_neg (by simpa using hb1)]
 unfold mHiT
 dsimp only
 refine wpS_bind (wpS_get ?_)
 refine wpS_bind (wpS_mono (wpS_forRange (I:=fun x c st'=>Ev st st'∧∃ o i j g,c=(none,i,j,o,g)∧GH κ a b o i j∧i+j+x<=a.size+b.size)
  (Q:=fun c st'=>Ev st st'∧∃ r,c.1=some r∧Fi (Le κ) (a.toList++b.toList) r) ?sp ?fi ⟨Ev.r,_,_,_,_,rfl,⟨m0,by omega,by omega⟩,by omega⟩) ?po)
 case po =>
  rintro ⟨o,rest⟩ st' ⟨he,r,e1,hf⟩
  dsimp only at e1 ⊢
  subst e1
  exact wpS_pure (h r st' he hf)
 case fi =>
  rintro c st' ⟨he,o,i,j,g,rfl,hg,hx⟩
  have:=hg.hi
  have:=hg.hj
  omega
 case sp =>
  intro x c st1 _ hx
  revert c
  refine ex4 fun o0 i0 j0 g0 he1 hg0 hxx=>?_
  dsimp only
  refine wpS_bind (wpS_mono (wpS_forRange (I:=fun x c st'=>Ev st st'∧∃ o i j p q,c=(none,i,j,o,p,q)∧GH κ a b o i j∧i+j+x<=i0+j0)
   (Q:=fun c st'=>Ev st st'∧((∃ r,c.1=some r∧Fi (Le κ) (a.toList++b.toList) r)∨(c.1=none∧GH κ a b c.2.2.2.1 c.2.1 c.2.2.1∧c.2.1+c.2.2.1+1<=i0+j0))) ?sp1 ?fi1 ⟨he1,o0,i0,j0,0,0,rfl,hg0,by omega⟩) ?po1)
  case fi1 =>
   rintro c st' ⟨he,o,i,j,p,q,rfl,hg,hx2⟩
   exact ⟨he,.inr ⟨rfl,hg,by dsimp only;omega⟩⟩
  case sp1 =>
   intro x1 c st2 _ hx1
   revert c
   refine ex5 fun o i j p q he2 hg hx2=>?_
   obtain ⟨i,rfl⟩:∃ i',i=i'+1:=⟨i-1,by have:=hg.hi;omega⟩
   obtain ⟨j,rfl⟩:∃ j',j=j'+1:=⟨j-1,by have:=hg.hj;omega⟩
   have hi:=hg.hi
   have hj:=hg.hj
   dsimp only
   simp only [Nat.add_sub_cancel]
   refine wpS_bind (w_el (by omega) (wpS_bind (w_el (by omega) ?_)))
   refine wpS_bind (w_lt3 hO (he2.knd.trans hk) (memb (by omega)) (mema (by omega)) ?_)
   dsimp only
   cases ht:κ.blt (kf κ (b[j]'(by omega))) (kf κ (a[i]'(by omega))) with
   | true =>
    rw [if_pos rfl]
    refine wpS_bind (w_el (by omega) ?_)
    have m1:=hg.mi.pushT (by omega) fun y hy=>Le.tr (ge_rt (by omega) hg.mi.sb y hy) (KeyOrd.kle_of_klt ht)
    by_cases ha2:i=0
    ·rw [if_pos (by simpa using ha2)]
     subst ha2
     exact wpS_pure ⟨he2,.inl ⟨_,rfl,m1.doneT⟩⟩
    ·rw [if_neg (by simpa using ha2)]
     have g1:GH κ a b (o.push (a[i]'(by omega))) i (j+1):=⟨m1,by omega,by omega⟩
     split
     ·exact wpS_pure ⟨he2,.inr ⟨rfl,g1,by dsimp only;omega⟩⟩
     ·exact wpS_pure ⟨he2,_,_,_,_,_,rfl,g1,by omega⟩
   | false =>
    rw [if_neg Bool.false_ne_true]
    refine wpS_bind (w_el (by omega) ?_)
    have m1:=(hg.mi.sw.pushT (by omega) fun y hy=>Le.tr (ge_rt (by omega) hg.mi.sa y hy) (show Le κ _ _ from ht)).sw
    by_cases hb2:j=1
    ·rw [if_pos (by simpa using hb2)]
     subst hb2
     exact wpS_pure ⟨he2,.inl ⟨_,rfl,m1.firstT hb h0⟩⟩
    ·rw [if_neg (by simpa using hb2)]
     have g1:GH κ a b (o.push (b[j]'(by omega))) (i+1) j:=⟨m1,by omega,by omega⟩
     split
     ·exact wpS_pure ⟨he2,.inr ⟨rfl,g1,by dsimp only;omega⟩⟩
     ·exact wpS_pure ⟨he2,_,_,_,_,_,rfl,g1,by omega⟩
  case po1 =>
   intro c st2
   revert c
   refine or6 (fun i j o=>GH κ a b o i j) (fun i j o=>i+j+1<=i0+j0) (fun r i1 j1 o1 e he2 hf=>?_) (fun i1 j1 o1 e he2 hg1 hx2=>?_)
   ·exact wpS_pure ⟨he2,r,rfl,hf⟩
   ·dsimp only
    refine wpS_bind (wpS_lift (wpAny_rule ⟨rfl,?_⟩))
    refine wpS_bind (wpS_mono (wpS_forRange (I:=fun x c st'=>Ev st st'∧∃ o i j g p q,c=(none,i,j,o,g,p,q)∧GH κ a b o i j∧i+j<=i1+j1)
     (Q:=fun c st'=>Ev st st'∧((∃ r,c.1=some r∧Fi (Le κ) (a.toList++b.toList) r)∨(c.1=none∧GH κ a b c.2.2.2.1 c.2.1 c.2.2.1∧c.2.1+c.2.2.1<=i1+j1))) ?sp2 ?fi2 ⟨he2,o1,i1,j1,_,_,_,rfl,hg1,by omega⟩) ?po2)
    case fi2 =>
     rintro c st' ⟨he,o,i,j,g,p,q,rfl,hg,hx2⟩
     exact ⟨he,.inr ⟨rfl,hg,hx2⟩⟩
    case po2 =>
     intro c st3
     revert c
     refine or6 (fun i j o=>GH κ a b o i j) (fun i j o=>i+j<=i1+j1) (fun r i2 j2 o2 e he3 hf=>?_) (fun i2 j2 o2 e he3 hg2 hx3=>?_)
     ·exact wpS_pure ⟨he3,r,rfl,hf⟩
     ·dsimp only
      exact wpS_bind (w_setG fun st4 he4=>wpS_pure ⟨he3.t he4,o2,i2,j2,_,rfl,hg2,by omega⟩)
    case sp2 =>
     intro x2 c st3 _ hx3
     revert c
     refine ex6 fun o i j g p q he3 hg hxx2=>?_
     obtain ⟨j,rfl⟩:∃ j',j=j'+1:=⟨j-1,by have:=hg.hj;omega⟩
     have hi:=hg.hi
     have hj:=hg.hj
     dsimp only
     simp only [Nat.add_sub_cancel]
     refine have key:∀ g1:Nat,wpS (model prog w) A E s ((?F:Nat->StateT SortSt Sem ?α) g1) ?QQ st3:=?key;?main
     case main =>
      by_cases hgg:g>1
      ·rw [if_pos hgg];generalize g-1=g1;exact key g1
      ·rw [if_neg hgg];generalize g=g1;exact key g1
     case key =>
      intro g1
      refine wpS_bind (w_setG fun st4 he4=>?_)
      have he5:=he3.t he4
      refine wpS_bind (w_el (by omega) ?_)
      refine wpS_bind (w_galR hO (he5.knd.trans hk) (show 0+i<=a.size by omega) (by omega) hka (memb (by omega)) (by rw [List.drop_zero];exact sa.sublist (List.take_sublist _ _)) fun y hyn k1 k2=>?_)
      dsimp only
      rw [Nat.zero_add] at k2
      have m1:=hg.mi.blkT hyn fun x hx u hu=>Le.tr (ge_rt (by omega) hg.mi.sb u hu) (k2 x hx)
      have k1':∀ x∈rt a y,Le κ x (b[j]'(by omega)):=fun x hx=>k1 x (rt_mem hx)
      by_cases hkp:i-y>0
      ·rw [if_pos hkp]
       by_cases ha2:y=0
       ·rw [if_pos (by simpa using ha2)]
        subst ha2
        exact wpS_pure ⟨he5,.inl ⟨_,rfl,m1.doneT⟩⟩
       rw [if_neg (by simpa using ha2)]
       obtain ⟨y,rfl⟩:∃ y',y=y'+1:=⟨y-1,by omega⟩
       refine w_eq (m':=hi2 a b (o++(a.extract (y+1) i).reverse) (y+1) j g1 (i-(y+1)) q) rfl ?_
       exact wpS_mono (w_hi2 (m:=i1+j1) hO (he5.knd.trans hk) hb hka hkb sb h0 he5 (by omega) (by omega) m1 k1' (by omega)) fun r st' hr=>by cases r <;> exact hr
      ·rw [if_neg hkp]
       obtain rfl:y=i:=by omega
       obtain ⟨y,rfl⟩:∃ y',y=y'+1:=⟨y-1,by omega⟩
       refine w_eq (m':=hi2 a b o (y+1) j g1 (y+1-(y+1)) q) rfl ?_
       exact wpS_mono (w_hi2 (m:=i1+j1) hO (he5.knd.trans hk) hb hka hkb sb h0 he5 (by omega) (by omega) hg.mi k1' (by omega)) fun r st' hr=>by cases r <;> exact hr
end
end SR
set_option autoImplicit false
namespace SR
open PySem PyProof.Rows
theorem fold_get (base:Nat):∀ (l:List Keyed) (n:Nat) (a:Array Keyed) (t:Nat),base+n+l.length<=a.size ->
  ((l.zipIdx n).foldl (fun a (p,j)=>a.setIfInBounds (base+j) p) a)[t]?=if base+n<=t∧t<base+n+l.length then l[t-(base+n)]? else a[t]?
 | [],n,a,t,h=>by
  rw [if_neg (by simp only [List.length_nil];omega)]
  rfl
 | p::l,n,a,t,h=>by
  rw [List.length_cons] at h ⊢
  rw [List.zipIdx_cons,List.foldl_cons]
  have ih:=fold_get base l (n+1) (a.setIfInBounds (base+n) p) t (by rw [Array.size_setIfInBounds];omega)
  rw [show (List.foldl (fun a x=>a.setIfInBounds (base+x.2) x.1) (a.setIfInBounds (base+n) p) (l.zipIdx (n+1)))[t]?=_ from ih,Array.getElem?_setIfInBounds]
  by_cases h1:t=base+n
  ·subst h1
   rw [if_neg (by omega),if_pos rfl,if_pos (by omega),if_pos (by omega),Nat.sub_self]
   rfl
  ·by_cases h2:base+n<=t∧t<base+n+(l.length+1)
   ·rw [if_pos (by omega),if_pos h2,show t-(base+n)=t-(base+(n+1))+1 by omega]
    rfl
   ·rw [if_neg (by omega),if_neg (by omega),if_neg h2]
theorem fold_list (base:Nat)(l:List Keyed)(a:Array Keyed)(h:base+l.length<=a.size) :
  (l.zipIdx.foldl (fun a (p,j)=>a.setIfInBounds (base+j) p) a).toList=a.toList.take base++(l++a.toList.drop (base+l.length)):=by
 apply List.ext_getElem?
 intro t
 have e:=fold_get base l 0 a t (by omega)
 rw [Array.getElem?_toList,show (l.zipIdx.foldl (fun a (p,j)=>a.setIfInBounds (base+j) p) a)[t]?=_ from e]
 have hl:(a.toList.take base).length=base:=by rw [List.length_take,Array.length_toList];omega
 by_cases h1:t<base
 ·rw [if_neg (by omega),List.getElem?_append_left (by omega),List.getElem?_take_of_lt h1,Array.getElem?_toList]
 ·rw [List.getElem?_append_right (by omega),hl]
  by_cases h2:t<base+l.length
  ·rw [if_pos (by omega),List.getElem?_append_left (by omega)]
   rfl
  ·rw [if_neg (by omega),List.getElem?_append_right (by omega),List.getElem?_drop,Array.getElem?_toList]
   congr 1
   omega
def sg (xs:Array Keyed)(l n:Nat):List Keyed:=(xs.toList.drop l).take n
section
variable {κ:KeyKind}{kd:SortKind}
theorem KK_kf {xs:Array Keyed}{i:Nat}(h:i<xs.size):KK κ xs i=kf κ xs[i]:=by
 unfold KK kf
 rw [getElem?_pos xs i h]
theorem sg_get {xs:Array Keyed}{l n t:Nat}(h:l+n<=xs.size)(ht:t<n):(sg xs l n)[t]?=some (xs[l+t]'(by omega)):=by
 unfold sg
 rw [List.getElem?_take_of_lt ht,List.getElem?_drop,Array.getElem?_toList,getElem?_pos xs (l+t) (by omega)]
theorem sg_len {xs:Array Keyed}{l n:Nat}(h:l+n<=xs.size):(sg xs l n).length=n:=by
 unfold sg
 rw [List.length_take,List.length_drop,Array.length_toList]
 omega
theorem up_sg {xs:Array Keyed}{l n:Nat}(h:l+n<=xs.size):Up κ xs l (l+n)↔(sg xs l n).Pairwise (Le κ):=by
 rw [List.pairwise_iff_getElem]
 constructor
 ·intro hu i j hi hj hij
  rw [sg_len h] at hi hj
  have e1:=sg_get h hi
  have e2:=sg_get h hj
  rw [List.getElem?_eq_getElem (by rw [sg_len h];omega)] at e1 e2
  rw [Option.some.inj e1,Option.some.inj e2]
  have:=hu (l+i) (l+j) (by omega) (by omega) (by omega)
  rw [KK_kf (by omega),KK_kf (by omega)] at this
  exact this
 ·intro hp i j h1 h2 h3
  rw [KK_kf (by omega),KK_kf (by omega)]
  rcases Nat.lt_or_eq_of_le h2 with g | g
  ·have:=hp (i-l) (j-l) (by rw [sg_len h];omega) (by rw [sg_len h];omega) (by omega)
   have e1:=sg_get h (t:=i-l) (by omega)
   have e2:=sg_get h (t:=j-l) (by omega)
   rw [List.getElem?_eq_getElem (by rw [sg_len h];omega)] at e1 e2
   rw [Option.some.inj e1,Option.some.inj e2] at this
   simp only [show l+(i-l)=i by omega,show l+(j-l)=j by omega] at this
   exact this
  ·subst g;exact KeyOrd.kle_refl _
theorem sg_app {xs:Array Keyed}{l m n:Nat}:sg xs l (m+n)=sg xs l m++sg xs (l+m) n:=by
 unfold sg
 rw [List.take_add,List.drop_drop]
theorem ext_sg {xs:Array Keyed}{l n:Nat}:(xs.extract l (l+n)).toList=sg xs l n:=ext_mid xs l n
theorem merged {xs ys:Array Keyed}{sa k nx ny nr:Nat}{M:List Keyed}(hsz:sa+k+nx+ny+nr<=xs.size)(hy:ys.toList=xs.toList.take (sa+k)++(M++xs.toList.drop (sa+k+nx+ny)))
  (hM:M.Perm (sg xs (sa+k) nx++sg xs (sa+k+nx) ny)) (hMs:M.Pairwise (Le κ)) (hA:(sg xs sa (k+nx)).Pairwise (Le κ)) (hB:(sg xs (sa+k+nx) (ny+nr)).Pairwise (Le κ))
  (h1:∀ x∈sg xs sa k,∀ y∈sg xs (sa+k+nx) ny,Le κ x y) (h1b:∀ x∈sg xs sa k,∀ y∈sg xs (sa+k+nx+ny) nr,Le κ x y) (h2:∀ x∈sg xs (sa+k) nx,∀ y∈sg xs (sa+k+nx+ny) nr,Le κ x y) :
  ys.Perm xs∧Up κ ys sa (sa+(k+nx+ny+nr))∧∀ t,t<sa∨sa+k+nx+ny+nr<=t->ys[t]?=xs[t]?:=by
 have hMl:M.length=nx+ny:=by
  rw [hM.length_eq,List.length_append,sg_len (by omega),sg_len (by omega)]
 have ex:xs.toList=xs.toList.take (sa+k)++((sg xs (sa+k) nx++sg xs (sa+k+nx) ny)++xs.toList.drop (sa+k+nx+ny)):=by
  have e1:xs.toList.drop (sa+k)=sg xs (sa+k) (nx+ny)++xs.toList.drop (sa+k+(nx+ny)):=split_at xs (sa+k) (nx+ny)
  rw [<- sg_app,show sa+k+nx+ny=sa+k+(nx+ny) by omega,<- e1,List.take_append_drop]
 have hper:ys.Perm xs:=by
  rw [Array.perm_iff_toList_perm,hy]
  conv=>rhs;rw [ex]
  exact (hM.append_right _).append_left _
 have hys:ys.size=xs.size:=hper.size_eq
 have hlt:(xs.toList.take (sa+k)).length=sa+k:=by rw [List.length_take,Array.length_toList];omega
 have low:∀ t,t<sa+k->ys[t]?=xs[t]?:=fun t ht=>by
  rw [<- Array.getElem?_toList,hy,List.getElem?_append_left (by omega),List.getElem?_take_of_lt ht,Array.getElem?_toList]
 have high:∀ t,sa+k+nx+ny<=t->ys[t]?=xs[t]?:=fun t ht=>by
  rw [<- Array.getElem?_toList,hy,List.getElem?_append_right (by omega),hlt,List.getElem?_append_right (by omega),hMl,List.getElem?_drop,Array.getElem?_toList]
  congr 1
  omega
 refine ⟨hper,?_,fun t ht=>?_⟩
 ·rw [up_sg (by omega)]
  have e2:sg ys sa (k+nx+ny+nr)=sg xs sa k++(M++sg xs (sa+k+nx+ny) nr):=by
   apply List.ext_getElem?
   intro t
   have hk1:(sg xs sa k).length=k:=sg_len (by omega)
   by_cases hT:t<k+nx+ny+nr
   ·have eL:(sg ys sa (k+nx+ny+nr))[t]?=ys[sa+t]?:=by
     unfold sg
     rw [List.getElem?_take_of_lt hT,List.getElem?_drop,Array.getElem?_toList]
    rw [eL]
    by_cases t1:t<k
    ·rw [low _ (by omega),List.getElem?_append_left (by omega)]
     unfold sg
     rw [List.getElem?_take_of_lt t1,List.getElem?_drop,Array.getElem?_toList]
    ·rw [List.getElem?_append_right (by omega),hk1]
     by_cases t2:t<k+nx+ny
     ·rw [List.getElem?_append_left (by omega),<- Array.getElem?_toList,hy,List.getElem?_append_right (by omega),hlt,List.getElem?_append_left (by omega)]
      congr 1
      omega
     ·rw [high _ (by omega),List.getElem?_append_right (by omega),hMl]
      unfold sg
      rw [List.getElem?_take_of_lt (by omega),List.getElem?_drop,Array.getElem?_toList]
      congr 1
      omega
   ·rw [List.getElem?_eq_none (by rw [sg_len (by omega)];omega),List.getElem?_eq_none]
    rw [List.length_append,List.length_append,hk1,hMl,sg_len (by omega)]
    omega
  rw [e2]
  rw [sg_app] at hA hB
  obtain ⟨a1,a2,a3⟩:=List.pairwise_append.mp hA
  obtain ⟨b1,b2,b3⟩:=List.pairwise_append.mp hB
  refine List.pairwise_append.mpr ⟨a1,List.pairwise_append.mpr ⟨hMs,b2,fun x hx y hyy=>?_⟩,fun x hx y hyy=>?_⟩
  ·rcases List.mem_append.mp (hM.mem_iff.mp hx) with g | g
   ·exact h2 x g y hyy
   ·exact b3 x g y hyy
  ·rcases List.mem_append.mp hyy with g | g
   ·rcases List.mem_append.mp (hM.mem_iff.mp g) with g | g
    ·exact a3 x hx y g
    ·exact h1 x hx y g
   ·exact h1b x hx y g
 ·rcases ht with g | g
  ·exact low t (by omega)
  ·exact high t (by omega)
end
end SR
set_option autoImplicit false
namespace SR
open PySem PyProof.Rows
theorem mAt_eq (i:Nat):mergeAt' i=(do
 let s <- get
 let (some (sa,na,pw),some (sb,nb,_)):=((pendingOf s)[i]?,(pendingOf s)[i+1]?) | unsupported "internal:list.sort.pending"
 set (setPending s (((pendingOf s).setIfInBounds i (sa,na+nb,pw)).eraseIdxIfInBounds (i+1)))
 let some k <- gal' false (<- elem' (arrOf s) sb) (arrOf s) sa na 0 | return false
 let (sa,na):=(sa+k,na-k)
 if na==0 then return true
 let some nb <- gal' true (<- elem' (arrOf s) (sa+na-1)) (arrOf s) sb nb (nb-1) | return false
 if nb==0 then return true
 let x:=(arrOf s).extract sa sb
 let y:=(arrOf s).extract sb (sb+nb)
 let m <- if na<=nb then mLo' x y else mHi' x y
 modify fun s=>setArr s (m.toList.zipIdx.foldl (fun a (p,j)=>a.setIfInBounds (sa+j) p) (arrOf s))
 return (failedOf (<- get)).isNone):=rfl
section
variable {prog:Program}{w:World}{A:Around}{E:Value->Shared->Prop}{s:Shared}{z:Array Keyed}{κ:KeyKind}{kd:SortKind}
theorem w_set {st st2:SortSt}{Q:PUnit->SortSt->Prop}(h:Q ⟨⟩ st2):wpS (model prog w) A E s (set st2:StateT SortSt Sem PUnit) Q st:=by
 unfold wpS;rw [StateT.run_set];exact wpAny_pure ⟨rfl,h⟩
theorem w_mAt {st:SortSt}{i sa na pw sb nb pv:Nat}{Q:Bool->SortSt->Prop}(hO:LtR prog w A E s κ kd)(hz:KeysOf κ z)(hB:SB kd z st)(e1:(pendingOf st)[i]?=some (sa,na,pw))(e2:(pendingOf st)[i+1]?=some (sb,nb,pv))
  (hab:sb=sa+na) (hn:sb+nb<=z.size) (hna:1<=na) (hnb:1<=nb) (ua:Up κ (arrOf st) sa (sa+na)) (ub:Up κ (arrOf st) sb (sb+nb))
  (h:∀ st',SB kd z st'->pendingOf st'=((pendingOf st).setIfInBounds i (sa,na+nb,pw)).eraseIdxIfInBounds (i+1)->Up κ (arrOf st') sa (sa+(na+nb))->(∀ t,t<sa∨sa+(na+nb)<=t->(arrOf st')[t]?=(arrOf st)[t]?)->Q true st') :
  wpS (model prog w) A E s (mergeAt' i) Q st:=by
 rw [mAt_eq]
 refine wpS_bind (wpS_get ?_)
 rw [e1,e2]
 dsimp only
 have hsz:(arrOf st).size=z.size:=hB.sz
 have hK:∀ x∈(arrOf st).toList,Hk κ x:=fun x hx=>hz x ((Array.perm_iff_toList_perm.mp hB.prm).mem_iff.mp hx)
 have hkn:kindOf st=kd:=hB.knd
 have hfl:failedOf st=none:=hB.ffl
 generalize hP:((pendingOf st).setIfInBounds i (sa,na+nb,pw)).eraseIdxIfInBounds (i+1)=P at h ⊢
 refine wpS_bind (w_set ?_)
 subst hab
 have pa:=(up_sg (κ:=κ) (xs:=arrOf st) (l:=sa) (n:=na) (by omega)).mp ua
 have pb:=(up_sg (κ:=κ) (xs:=arrOf st) (l:=sa+na) (n:=nb) (by omega)).mp ub
 have hSB:∀ ys:Array Keyed,ys.Perm (arrOf st)->∀ st2:SortSt,kindOf st2=kd->failedOf st2=none->arrOf st2=ys->SB kd z st2:=fun ys hp st2 g1 g2 g3=>⟨by rw [g3];exact hp.trans hB.prm,g1,g2⟩
 have hplain:(∀ x∈sg (arrOf st) sa na,∀ y∈sg (arrOf st) (sa+na) nb,Le κ x y)->Q true (setPending st P):=fun hle=>by
  refine h _ (hSB _ (Array.Perm.refl _) _ hkn hfl rfl) rfl ?_ (fun t _=>rfl)
  show Up κ (arrOf st) sa (sa+(na+nb))
  rw [up_sg (by omega),sg_app]
  exact List.pairwise_append.mpr ⟨pa,pb,hle⟩
 generalize hX:arrOf st=xs at hsz hK pa pb hSB hplain h ⊢
 have hbf:∀ y∈sg xs (sa+na) nb,Le κ (xs[sa+na]'(by omega)) y:=fun y hy=>by
  have e:=sg_app (xs:=xs) (l:=sa+na) (m:=1) (n:=nb-1)
  rw [Nat.add_sub_cancel' hnb] at e
  rw [e] at pb hy
  have e3:sg xs (sa+na) 1=[xs[sa+na]'(by omega)]:=by
   unfold sg
   rw [drop_cons (by omega)]
   rfl
  rw [e3,List.singleton_append] at pb hy
  exact head_le pb y hy
 have hal:∀ y∈sg xs sa na,Le κ y (xs[sa+na-1]'(by omega)):=fun y hy=>by
  have e:=sg_app (xs:=xs) (l:=sa) (m:=na-1) (n:=1)
  rw [Nat.sub_add_cancel hna] at e
  rw [e] at pa hy
  have e3:sg xs (sa+(na-1)) 1=[xs[sa+na-1]'(by omega)]:=by
   unfold sg
   rw [drop_cons (by omega)]
   simp only [(Nat.add_sub_assoc hna sa).symm]
   rfl
  rw [e3] at pa hy
  rcases List.mem_append.mp hy with g | g
  ·exact (List.pairwise_append.mp pa).2.2 y g _ (List.mem_singleton.mpr rfl)
  ·rw [List.mem_singleton.mp g];exact KeyOrd.kle_refl _
 refine wpS_bind (w_el (by omega) ?_)
 refine wpS_bind (w_galR hO hkn (show sa+na<=xs.size by omega) (by omega) hK (hK _ (by simp)) pa fun k hkn2 k1 k2=>?_)
 dsimp only
 by_cases hk0:na-k=0
 ·rw [if_pos (by simpa using hk0)]
  obtain rfl:k=na:=by omega
  exact wpS_pure (hplain fun x hx y hy=>Le.tr (k1 x hx) (hbf y hy))
 rw [if_neg (by simpa using hk0)]
 have q1:k+(na-k)=na:=Nat.add_sub_cancel' hkn2
 have q2:sa+k+(na-k)=sa+na:=by rw [Nat.add_assoc,q1]
 have hix:sa+k+(na-k)-1=sa+na-1:=by rw [q2]
 rw [hix]
 refine wpS_bind (w_el (by omega) ?_)
 refine wpS_bind (w_galL hO hkn (show sa+na+nb<=xs.size by omega) (by omega) hK (hK _ (by simp)) pb fun e hen f1 f2=>?_)
 dsimp only
 by_cases he0:e=0
 ·rw [if_pos (by simpa using he0)]
  subst he0
  exact wpS_pure (hplain fun x hx y hy=>Le.tr (hal x hx) (f2 y hy))
 rw [if_neg (by simpa using he0)]
 have q3:e+(nb-e)=nb:=Nat.add_sub_cancel' hen
 have exX:(xs.extract (sa+k) (sa+na)).toList=sg xs (sa+k) (na-k):=by
  rw [<- q2];exact ext_sg
 have exY:(xs.extract (sa+na) (sa+na+e)).toList=sg xs (sa+na) e:=ext_sg
 have sX:(xs.extract (sa+k) (sa+na)).size=na-k:=by rw [Array.size_extract];omega
 have sY:(xs.extract (sa+na) (sa+na+e)).size=e:=by rw [Array.size_extract];omega
 have hYsub:∀ y∈sg xs (sa+na) e,y∈sg xs (sa+na) nb:=fun y hy=>by
  have e4:=sg_app (xs:=xs) (l:=sa+na) (m:=e) (n:=nb-e)
  rw [q3] at e4
  rw [e4]
  exact List.mem_append_left _ hy
 have hXsub:∀ x∈sg xs (sa+k) (na-k),x∈sg xs sa na:=fun y hy=>by
  have e4:=sg_app (xs:=xs) (l:=sa) (m:=k) (n:=na-k)
  rw [q1] at e4
  rw [e4]
  exact List.mem_append_right _ hy
 have hA1:∀ x∈sg xs sa k,x∈sg xs sa na:=fun y hy=>by
  have e4:=sg_app (xs:=xs) (l:=sa) (m:=k) (n:=na-k)
  rw [q1] at e4
  rw [e4]
  exact List.mem_append_left _ hy
 have kX:∀ x∈(xs.extract (sa+k) (sa+na)).toList,Hk κ x:=fun x hx=>by
  rw [exX] at hx
  exact hK x (List.mem_of_mem_drop (List.mem_of_mem_take hx))
 have kY:∀ x∈(xs.extract (sa+na) (sa+na+e)).toList,Hk κ x:=fun x hx=>by
  rw [exY] at hx
  exact hK x (List.mem_of_mem_drop (List.mem_of_mem_take hx))
 have pX:(xs.extract (sa+k) (sa+na)).toList.Pairwise (Le κ):=by
  rw [exX]
  have e4:=sg_app (xs:=xs) (l:=sa) (m:=k) (n:=na-k)
  rw [q1] at e4
  rw [e4] at pa
  exact (List.pairwise_append.mp pa).2.1
 have pY:(xs.extract (sa+na) (sa+na+e)).toList.Pairwise (Le κ):=by
  rw [exY]
  have e4:=sg_app (xs:=xs) (l:=sa+na) (m:=e) (n:=nb-e)
  rw [q3] at e4
  rw [e4] at pb
  exact (List.pairwise_append.mp pb).1
 have h00:∀ y∈(xs.extract (sa+k) (sa+na)).toList,Le κ ((xs.extract (sa+na) (sa+na+e))[0]'(by omega)) y:=fun y hy=>by
  rw [exX] at hy
  rw [Array.getElem_extract]
  exact k2 y hy
 have hll:∀ y∈(xs.extract (sa+na) (sa+na+e)).toList,∀ x,(xs.extract (sa+k) (sa+na)).toList.getLast?=some x->Le κ y x:=fun y hy x hx=>by
  rw [exY] at hy
  rw [List.getLast?_eq_getElem?,Array.length_toList,sX,Array.getElem?_toList,getElem?_pos _ _ (by omega),Array.getElem_extract] at hx
  simp only [show sa+k+(na-k-1)=sa+na-1 by omega] at hx
  rw [<- Option.some.inj hx]
  exact f1 y hy
 have fin:∀ (r:Array Keyed) (st2:SortSt),Ev (setPending st P) st2->Fi (Le κ) ((xs.extract (sa+k) (sa+na)).toList++(xs.extract (sa+na) (sa+na+e)).toList) r ->
   Q true (setArr st2 (List.foldl (fun a x=>a.setIfInBounds (sa+k+x.snd) x.fst) (arrOf st2) r.toList.zipIdx)):=fun r st2 hev hfi=>by
  rw [exX,exY] at hfi
  have harr:arrOf st2=xs:=hev.arr.trans hX
  have hrl:r.toList.length=na-k+e:=by
   rw [hfi.1.length_eq,List.length_append,sg_len (by omega),sg_len (by omega)]
  have e5:=fold_list (sa+k) r.toList (arrOf st2) (by rw [harr,hrl];omega)
  rw [harr,hrl] at e5
  have hm:=merged (κ:=κ) (xs:=xs) (ys:=List.foldl (fun a x=>a.setIfInBounds (sa+k+x.snd) x.fst) (arrOf st2) r.toList.zipIdx) (sa:=sa) (k:=k) (nx:=na-k) (ny:=e) (nr:=nb-e) (M:=r.toList) (by omega)
   (by rw [harr,Nat.add_assoc (sa+k)];exact e5)
   (by rw [q2];exact hfi.1) hfi.2 (by rw [q1];exact pa) (by rw [q2,q3];exact pb)
   (by rw [q2];exact fun x hx y hy=>Le.tr (k1 x hx) (hbf y (hYsub y hy)))
   (by rw [q2];exact fun x hx y hy=>Le.tr (hal x (hA1 x hx)) (f2 y hy))
   (by rw [q2];exact fun x hx y hy=>Le.tr (hal x (hXsub x hx)) (f2 y hy))
  obtain ⟨m1,m2,m3⟩:=hm
  rw [q1,Nat.add_assoc,q3] at m2
  refine h _ (hSB _ m1 _ (hev.knd.trans hkn) (hev.ffl.trans hfl) rfl) hev.pen m2 fun t ht=>m3 t (by omega)
 by_cases hcmp:na-k<=e
 ·rw [if_pos hcmp]
  refine wpS_bind (w_mLo hO hkn (by omega) (by omega) kX kY pX pY h00 hll fun r st2 hev hfi=>?_)
  refine wpS_bind (wpS_modify (wpS_bind (wpS_get ?_)))
  have hf2:failedOf st2=none:=hev.ffl.trans hfl
  rw [hf2]
  exact wpS_pure (fin r st2 hev hfi)
 ·rw [if_neg hcmp]
  refine wpS_bind (w_mHi hO hkn (by omega) (by omega) kX kY pX pY h00 hll fun r st2 hev hfi=>?_)
  refine wpS_bind (wpS_modify (wpS_bind (wpS_get ?_)))
  have hf2:failedOf st2=none:=hev.ffl.trans hfl
  rw [hf2]
  exact wpS_pure (fin r st2 hev hfi)
end
end SR
set_option autoImplicit false
namespace SR
open PySem PyProof.Rows
def Stk (κ:KeyKind)(xs:Array Keyed):Nat->List (Nat×Nat×Nat)->Nat->Prop
 | s,[],e=>s=e
 | s,t::r,e=>t.1=s∧1<=t.2.1∧Up κ xs s (s+t.2.1)∧Stk κ xs (s+t.2.1) r e
section
variable {κ:KeyKind}{kd:SortKind}
theorem Stk.le {xs:Array Keyed}:∀ {l:List (Nat×Nat×Nat)} {s e:Nat},Stk κ xs s l e->s+l.length<=e
 | [],s,e,h=>by have:s=e:=h;rw [this];exact Nat.le_refl _
 | t::r,s,e,h=>by
  have:=Stk.le h.2.2.2
  have:=h.2.1
  rw [List.length_cons]
  omega
theorem up_keep {xs ys:Array Keyed}{l r:Nat}(h:Up κ xs l r)(he:∀ k,l<=k->k<r->ys[k]?=xs[k]?):Up κ ys l r:=fun i j h1 h2 h3=>by
 rw [KK_congr (he i h1 (by omega)),KK_congr (he j (by omega) h3)]
 exact h i j h1 h2 h3
theorem Stk.keep {xs ys:Array Keyed}:∀ {l:List (Nat×Nat×Nat)} {s e:Nat},Stk κ xs s l e->(∀ k,s<=k->k<e->ys[k]?=xs[k]?)->Stk κ ys s l e
 | [],s,e,h,_=>h
 | t::r,s,e,h,he=>by
  have h2:=Stk.le h.2.2.2
  have h3:=h.2.1
  exact ⟨h.1,h.2.1,up_keep h.2.2.1 fun k k1 k2=>he k k1 (by omega),h.2.2.2.keep fun k k1 k2=>he k (by omega) k2⟩
theorem Stk.snoc {xs:Array Keyed}{n p:Nat}(hn:1<=n):∀ {l:List (Nat×Nat×Nat)} {s e:Nat},Stk κ xs s l e->Up κ xs e (e+n)->Stk κ xs s (l++[(e,n,p)]) (e+n)
 | [],s,e,h,hu=>by
  have:s=e:=h
  subst this
  exact ⟨rfl,hn,hu,rfl⟩
 | t::r,s,e,h,hu=>⟨h.1,h.2.1,h.2.2.1,h.2.2.2.snoc hn hu⟩
theorem Stk.like {xs:Array Keyed}:∀ {l l':List (Nat×Nat×Nat)} {s e:Nat},Stk κ xs s l e->l'.map (fun t=>(t.1,t.2.1))=l.map (fun t=>(t.1,t.2.1))->Stk κ xs s l' e
 | [],[],s,e,h,_=>h
 | [],_::_,s,e,h,he=>by simp at he
 | _::_,[],s,e,h,he=>by simp at he
 | t::r,t'::r',s,e,h,he=>by
  rw [List.map_cons,List.map_cons] at he
  obtain ⟨e1,e2⟩:=List.cons.inj he
  have e3:t'.1=t.1:=(Prod.mk.inj e1).1
  have e4:t'.2.1=t.2.1:=(Prod.mk.inj e1).2
  refine ⟨e3.trans h.1,by rw [e4];exact h.2.1,by rw [e4];exact h.2.2.1,?_⟩
  rw [e4]
  exact h.2.2.2.like e2
theorem Stk.two {xs:Array Keyed}{a b:Nat×Nat×Nat}{v:List (Nat×Nat×Nat)}:∀ {u:List (Nat×Nat×Nat)} {s e:Nat},Stk κ xs s (u++a::b::v) e->s<=a.1∧b.1=a.1+a.2.1∧b.1+b.2.1<=e∧1<=a.2.1∧1<=b.2.1∧Up κ xs a.1 (a.1+a.2.1)∧Up κ xs b.1 (b.1+b.2.1)
 | [],s,e,h=>by
  obtain ⟨rfl,h1,h2,h3,h4,h5,h6⟩:=h
  have:=Stk.le h6
  rw [<- h3] at h5
  exact ⟨Nat.le_refl _,h3,by omega,h1,h4,h2,h5⟩
 | t::u,s,e,h=>by
  have h2:=Stk.two (u:=u) h.2.2.2
  have:=h.2.1
  exact ⟨by omega,h2.2⟩
theorem Stk.join {xs ys:Array Keyed}{a b:Nat×Nat×Nat}{p:Nat}{v:List (Nat×Nat×Nat)}:∀ {u:List (Nat×Nat×Nat)} {s e:Nat},Stk κ xs s (u++a::b::v) e->Up κ ys a.1 (a.1+(a.2.1+b.2.1))->(∀ t,t<a.1∨a.1+(a.2.1+b.2.1)<=t->ys[t]?=xs[t]?) ->
  Stk κ ys s (u++(a.1,a.2.1+b.2.1,p)::v) e
 | [],s,e,h,hu,hk=>by
  obtain ⟨rfl,h1,h2,h3,h4,h5,h6⟩:=h
  refine ⟨rfl,by dsimp only;omega,hu,?_⟩
  dsimp only
  rw [show a.1+(a.2.1+b.2.1)=a.1+a.2.1+b.2.1 by omega]
  exact h6.keep fun k k1 k2=>hk k (.inr (by omega))
 | t::u,s,e,h,hu,hk=>by
  have h2:=Stk.two (u:=u) h.2.2.2
  exact ⟨h.1,h.2.1,up_keep h.2.2.1 fun k k1 k2=>hk k (.inl (by omega)),Stk.join (u:=u) h.2.2.2 hu hk⟩
end
section
variable {prog:Program}{w:World}{A:Around}{E:Value->Shared->Prop}{s:Shared}{z:Array Keyed}{κ:KeyKind}{kd:SortKind}
theorem w_join {st:SortSt}{i lo:Nat}{Q:Bool->SortSt->Prop}(hO:LtR prog w A E s κ kd)(hz:KeysOf κ z)(hB:SB kd z st)(hlo:lo<=z.size)(hS:Stk κ (arrOf st) 0 (pendingOf st).toList lo)(hi:i+1<(pendingOf st).size)
  (h:∀ st',SB kd z st'->Stk κ (arrOf st') 0 (pendingOf st').toList lo->(pendingOf st').size+1=(pendingOf st).size->(∀ t,lo<=t->(arrOf st')[t]?=(arrOf st)[t]?)->Q true st'):wpS (model prog w) A E s (mergeAt' i) Q st:=by
 have hsp:(pendingOf st).toList=(pendingOf st).toList.take i++(pendingOf st)[i]::(pendingOf st)[i+1]::(pendingOf st).toList.drop (i+2):=by
  conv=>lhs;rw [<- List.take_append_drop i (pendingOf st).toList]
  congr 1
  rw [List.drop_eq_getElem_cons (by rw [Array.length_toList];omega),List.drop_eq_getElem_cons (by rw [Array.length_toList];omega)]
  simp
 have hS2:=hS
 rw [hsp] at hS2
 obtain ⟨_,g2,g3,g4,g5,g6,g7⟩:=hS2.two
 refine w_mAt (κ:=κ) (i:=i) (sa:=(pendingOf st)[i].1) (na:=(pendingOf st)[i].2.1) (pw:=(pendingOf st)[i].2.2) (sb:=(pendingOf st)[i+1].1) (nb:=(pendingOf st)[i+1].2.1) (pv:=(pendingOf st)[i+1].2.2) hO hz hB (getElem?_pos _ i (by omega)) (getElem?_pos _ (i+1) hi) g2 (by omega) g4 g5 g6 g7 fun st' b1 b2 b3 b4=>?_
 have hj:=hS2.join (p:=(pendingOf st)[i].2.2) b3 b4
 have hl:(pendingOf st').toList=(pendingOf st).toList.take i++((pendingOf st)[i].1,(pendingOf st)[i].2.1+(pendingOf st)[i+1].2.1,(pendingOf st)[i].2.2)::(pendingOf st).toList.drop (i+2):=by
  rw [b2,Array.eraseIdxIfInBounds_eq,dif_pos (by rw [Array.size_setIfInBounds];omega),Array.toList_eraseIdx,Array.toList_setIfInBounds]
  apply List.ext_getElem?
  intro t
  have hlt:((pendingOf st).toList.take i).length=i:=by rw [List.length_take,Array.length_toList];omega
  rw [List.getElem?_eraseIdx]
  by_cases t1:t<i
  ·rw [if_pos (by omega),List.getElem?_append_left (by omega),List.getElem?_take_of_lt t1,List.getElem?_set_ne (by omega)]
  ·rw [List.getElem?_append_right (by omega),hlt]
   by_cases t2:t=i
   ·subst t2
    rw [if_pos (by omega),Nat.sub_self,List.getElem?_set_self (by rw [Array.length_toList];omega)]
    rfl
   ·rw [if_neg (by omega),show t-i=t-i-1+1 by omega,List.getElem?_cons_succ,List.getElem?_drop,List.getElem?_set_ne (by omega)]
    congr 1
    omega
 refine h st' b1 (by rw [hl];exact hj) ?_ fun t ht=>b4 t (.inr (by omega))
 have:=congrArg List.length hl
 rw [Array.length_toList,List.length_append,List.length_cons,List.length_take,List.length_drop,Array.length_toList] at this
 omega
theorem two_back (b:Bool)(n:Nat)(hn:1<n):(if b=true then n-2-1 else n-2)+1<n:=by
 cases b
 ·rw [if_neg Bool.false_ne_true];omega
 ·rw [if_pos rfl];omega
theorem mod_like (p:Array (Nat×Nat×Nat))(i v:Nat):((p.modify i fun x=>(x.1,x.2.1,v)).toList).map (fun t=>(t.1,t.2.1))=p.toList.map (fun t=>(t.1,t.2.1)):=by
 apply List.ext_getElem?
 intro t
 rw [List.getElem?_map,List.getElem?_map,Array.getElem?_toList,Array.getElem?_toList,Array.getElem?_modify]
 split
 ·cases p[t]? <;> rfl
 ·rfl
theorem w_sort {st:SortSt}{Q:Unit->SortSt->Prop}(hO:LtR prog w A E s κ kd)(hz:KeysOf κ z)(hB:SB kd z st)(hp:pendingOf st = #[])(h2:2<=z.size)
  (h:∀ st',SB kd z st'->Up κ (arrOf st') 0 z.size->Q () st'):wpS (model prog w) A E s sortRuns' Q st:=by
 rw [sortRuns'_eq]
 refine wpS_bind (wpS_get ?_)
 dsimp only
 simp only [hB.sz]
 generalize minRun' z.size z.size 0=mr
 refine wpS_bind (wpS_mono (wpS_forRange
  (I:=fun x c st'=>∃ lo,c=(none,lo)∧SB kd z st'∧x<=lo∧lo<=z.size∧Stk κ (arrOf st') 0 (pendingOf st').toList lo)
  (Q:=fun c st'=>c=(none,z.size)∧SB kd z st'∧Stk κ (arrOf st') 0 (pendingOf st').toList z.size) ?sp ?fi ⟨0,rfl,hB,by omega,by omega,by rw [hp];rfl⟩) ?po)
 case fi =>
  rintro c st' ⟨lo,rfl,hB',g1,g2,g3⟩
  obtain rfl:lo=z.size:=by omega
  exact ⟨rfl,hB',g3⟩
 case sp =>
  rintro x c st1 _ hx ⟨lo,rfl,hB1,g1,g2,g3⟩
  dsimp only
  by_cases hge:lo≥z.size
  ·rw [if_pos hge]
   obtain rfl:lo=z.size:=by omega
   exact wpS_pure ⟨rfl,hB1,g3⟩
  rw [if_neg hge]
  refine wpS_bind (w_run hO hz (by omega) (by omega) hB1 fun m st2 hB2 hk2 hm1 hm2 hu2=>?_)
  dsimp only
  by_cases hlt:m<mr
  case' pos =>
   rw [if_pos hlt]
   refine wpS_bind (wpS_lift (wpAny_rule ⟨rfl,?_⟩))
   refine wpS_bind (w_ins hO hz (by omega) hm1 (by omega) hB2 hu2 fun st3 hB3 hk3 hu3=>?_)
   simp only [Bool.not_true,Bool.false_eq_true,if_false]
   have hn1:1<=min (z.size-lo) mr:=by omega
   have hn2:lo+min (z.size-lo) mr<=z.size:=by omega
   have hk4:=hk2.tr hk3
   generalize min (z.size-lo) mr=n at hn1 hn2 hu3 ⊢
  case' neg =>
   rw [if_neg hlt]
   have hB3:=hB2
   have hk4:=hk2
   have hu3:=hu2
   have hn1:=hm1
   have hn2:lo+m<=z.size:=by omega
   obtain ⟨st3,e3⟩:∃ st3,st3=st2:=⟨_,rfl⟩
   rw [<- e3] at hB3 hk4 hu3 ⊢
   generalize m=n at hn1 hn2 hu3 ⊢
  all_goals
   have hS3:Stk κ (arrOf st3) 0 (pendingOf st3).toList lo:=by
    rw [hk4.pen]
    exact g3.keep fun k _ k2=>hk4.low k k2
   refine wpS_bind (wpS_get ?_)
   cases hbk:(pendingOf st3).back? with
   | none =>
    dsimp only
    refine wpS_bind (wpS_modify (wpS_pure ⟨lo+n,rfl,⟨hB3.prm,hB3.knd,hB3.ffl⟩,by omega,hn2,?_⟩))
    show Stk κ (arrOf st3) 0 ((pendingOf st3).push (lo,n,0)).toList (lo+n)
    rw [Array.toList_push]
    exact hS3.snoc hn1 hu3
   | some t =>
    obtain ⟨s1,n1,p1⟩:=t
    dsimp only
    refine wpS_bind (wpS_mono (wpS_forRange (I:=fun _ c st'=>c=(none,())∧SB kd z st'∧Stk κ (arrOf st') 0 (pendingOf st').toList lo∧Up κ (arrOf st') lo (lo+n))
     (Q:=fun c st'=>c=(none,())∧SB kd z st'∧Stk κ (arrOf st') 0 (pendingOf st').toList lo∧Up κ (arrOf st') lo (lo+n)) ?isp (fun _ _ hh=>hh) ⟨rfl,hB3,hS3,hu3⟩) ?ipo)
    case isp =>
     rintro x1 c st4 _ _ ⟨rfl,hB4,hS4,hu4⟩
     refine wpS_bind (wpS_get ?_)
     by_cases hs1:(pendingOf st4).size>1
     ·rw [if_pos hs1,getElem?_pos (pendingOf st4) ((pendingOf st4).size-2) (by omega)]
      generalize (pendingOf st4)[(pendingOf st4).size-2]'(by omega)=t
      obtain ⟨t1,t2,ol⟩:=t
      dsimp only
      split
      ·exact wpS_pure ⟨rfl,hB4,hS4,hu4⟩
      ·refine wpS_bind (w_join hO hz hB4 g2 hS4 (by omega) fun st5 b1 b2 b3 b4=>?_)
       simp only [Bool.not_true,Bool.false_eq_true,if_false]
       exact wpS_pure ⟨rfl,b1,b2,up_keep hu4 fun k k1 _=>b4 k k1⟩
     ·rw [if_neg hs1]
      exact wpS_pure ⟨rfl,hB4,hS4,hu4⟩
    case ipo =>
     rintro c st4 ⟨rfl,hB4,hS4,hu4⟩
     dsimp only
     refine wpS_bind (wpS_modify (wpS_bind (wpS_modify (wpS_pure ⟨lo+n,rfl,⟨hB4.prm,hB4.knd,hB4.ffl⟩,by omega,hn2,?_⟩))))
     show Stk κ (arrOf st4) 0 (((pendingOf st4).modify _ _).push (lo,n,0)).toList (lo+n)
     rw [Array.toList_push]
     exact (hS4.like (mod_like _ _ _)).snoc hn1 hu4
 case po =>
  rintro c st1 ⟨rfl,hB1,hS1⟩
  dsimp only
  have hl1:=Stk.le hS1
  rw [Array.length_toList] at hl1
  refine wpS_bind (wpS_mono (wpS_forRange (I:=fun x c st'=>c=(none,())∧SB kd z st'∧Stk κ (arrOf st') 0 (pendingOf st').toList z.size∧(pendingOf st').size<=max 1 (z.size-x))
   (Q:=fun c st'=>c=(none,())∧SB kd z st'∧Stk κ (arrOf st') 0 (pendingOf st').toList z.size∧(pendingOf st').size<=1) ?fsp ?ffi ⟨rfl,hB1,hS1,by omega⟩) ?fpo)
  case ffi =>
   rintro c st2 ⟨rfl,hB2,hS2,hl2⟩
   exact ⟨rfl,hB2,hS2,by omega⟩
  case fsp =>
   rintro x c st2 _ hx ⟨rfl,hB2,hS2,hl2⟩
   refine wpS_bind (wpS_get ?_)
   by_cases hs1:(pendingOf st2).size<=1
   ·rw [if_pos hs1]
    exact wpS_pure ⟨rfl,hB2,hS2,hs1⟩
   rw [if_neg hs1]
   refine wpS_bind (w_join hO hz hB2 (Nat.le_refl _) hS2 ?_ fun st5 b1 b2 b3 b4=>?_)
   ·exact two_back _ _ (by omega)
   ·simp only [Bool.not_true,Bool.false_eq_true,if_false]
    exact wpS_pure ⟨rfl,b1,b2,by omega⟩
  case fpo =>
   rintro c st2 ⟨rfl,hB2,hS2,hl2⟩
   dsimp only
   refine wpS_pure (h st2 hB2 ?_)
   rw [<- Array.length_toList] at hl2
   cases hq:(pendingOf st2).toList with
   | nil =>
    rw [hq] at hS2
    have:0=z.size:=hS2
    omega
   | cons t r =>
    rw [hq] at hS2 hl2
    rw [List.length_cons] at hl2
    obtain rfl:r=[]:=List.length_eq_zero_iff.mp (by omega)
    obtain ⟨_,_,hu,he⟩:=hS2
    have e5:0+t.2.1=z.size:=he
    rw [e5] at hu
    exact hu
end
end SR
set_option autoImplicit false
namespace SR
open PySem PyProof.Rows PySem.Spec
section
variable {prog:Program}{w:World}{A:Around}{E:Value->Shared->Prop}{s:Shared}
theorem two_of {α:Type}:∀ {l:List α},2<=l.length->∃ a b r,l=a::b::r
 | [],h=>by simp at h
 | [_],h=>by simp at h
 | a::b::r,_=>⟨a,b,r,rfl⟩
theorem sort_big {κ:KeyKind}{kd:SortKind}{l:Addr}{vs:List Value}{n:Nat}{P:Fin->Shared->Prop}(ob:s.heap.get? l=some (seqObj "list" vs.toArray n))(hks:KeysOf κ (pairsOf vs))
  (hO:∀ A E (s':Shared),(∀ a o,a≠l->s.heap.get? a=some o->s'.heap.get? a=some o)->LtR prog w A E s' κ kd)
  (hkk:∀ A E (s':Shared) (Q:SortKind->Shared->Prop),2<=vs.length->(∀ a o,a≠l->s.heap.get? a=some o->s'.heap.get? a=some o)->Q kd s'->wpAny (model prog w) A (keyKind' vs.toArray) Q E s') (hmx:vs.length<=sizeLine)
  (h:∀ st':SortSt,(arrOf st').Perm (pairsOf vs)->SortedToK κ (arrOf st') (pairsOf vs).size->P (.done (.ret .none)) { s with heap:=sortedHeap s.heap l vs ((arrOf st').map (·.2)) }) :
  wpAny (model prog w) A (Builtin.«list.sort» ⟨[.ref l],[]⟩) P E s:=by
 rw [list_sort_plain]
 have hlt:l<s.heap.objs.size:=Heap.lt_size ob
 have hsz:vs.toArray.size=vs.length:=by simp
 refine wpAny_bind (listItems_at ob rfl (wpAny_bind (listUpdate_at ob rfl ?_ (hsz:=by rw [hsz];exact hmx))))
 obtain ⟨ep,ob1⟩:∃ ep,(s.heap.update l (Obj.mapSeq fun _=>#[])).get? l=some (seqObj "list" #[] ep):=⟨_,get?_update_seq ob (fun _=>#[])⟩
 refine wpAny_bind (seqEpoch_at ob1 rfl (wpAny_bind (wpAny_newTuple (wpAny_bind (wpAny_newList (wpAny_holding ?_))))))
 have ob2:(((s.heap.update l (Obj.mapSeq fun _=>#[])).push (seqObj "tuple" vs.toArray 0)).push (seqObj "list" #[] 0)).get? l=some (seqObj "list" #[] ep) :=
  Heap.get?_push_of_some _ (Heap.get?_push_of_some _ ob1)
 show wpAny (model prog w) A _ P E { s with heap:=((s.heap.update l (Obj.mapSeq fun _=>#[])).push (seqObj "tuple" vs.toArray 0)).push (seqObj "list" #[] 0) }
 dsimp only
 by_cases hnb:vs.toArray.size<2
 ·rw [if_pos hnb,if_pos hnb]
  refine wpAny_bind (wpAny_pure ?_);rw [StateT.run_pure];refine wpAny_bind (wpAny_pure ?_);dsimp only
  refine wpAny_bind (seqEpoch_at ob2 rfl (wpAny_bind (listUpdate_at ob2 rfl ?_ (hsz2:=?_))))
  ·simp only [bne_self_eq_false,Bool.false_eq_true,if_false]
   refine wpAny_pure (h (SortSt.mk' general' (vs.toArray.zip vs.toArray) #[] 7 none) (Array.Perm.refl _) fun i j hij hj=>?_)
   obtain rfl:i=j:=by rw [pairsOf_size] at hj;omega
   exact KeyOrd.kle_refl _
  ·rw [Array.size_map];show (pairsOf vs).size<=_;rw [pairsOf_size];rw [sizeLine_eq];omega
 rw [if_neg hnb,if_neg hnb]
 have hag:∀ a o,a≠l->s.heap.get? a=some o->(((s.heap.update l (Obj.mapSeq fun _=>#[])).push (seqObj "tuple" vs.toArray 0)).push (seqObj "list" #[] 0)).get? a=some o:=fun a o na ha =>
  Heap.get?_push_of_some _ (Heap.get?_push_of_some _ (by rw [Heap.get?_update_ne _ _ _ _ na];exact ha))
 refine wpAny_bind (hkk _ _ _ _ (by omega) hag (wpAny_bind (wpAny_mono (w_sort (κ:=κ) (hO _ _ _ hag) (z:=pairsOf vs) (st:=SortSt.mk' kd (vs.toArray.zip vs.toArray) #[] 7 none)
  (Q:=fun _ st'=>SB kd (pairsOf vs) st'∧Up κ (arrOf st') 0 (pairsOf vs).size) hks ⟨Array.Perm.refl _,rfl,rfl⟩ rfl (by rw [pairsOf_size];omega) fun st' a1 a2=>⟨a1,a2⟩) ?_ fun _ _ e=>e)))
 rintro ⟨⟨⟩,st'⟩ s' ⟨rfl,hB,hu⟩
 dsimp only
 have hpm:=hB.prm
 refine wpAny_bind (seqEpoch_at ob2 rfl (wpAny_bind (listUpdate_at ob2 rfl ?_ (hsz2:=?_))))
 ·rw [hB.ffl]
  simp only [bne_self_eq_false,Bool.false_eq_true,if_false]
  exact wpAny_pure (h st' hpm fun i j hij hj=>hu i j (Nat.zero_le _) hij hj)
 ·refine Nat.le_trans (Nat.le_of_eq ((Array.size_map ..).trans (hpm.size_eq.trans (pairsOf_size _)))) ?_
  rw [sizeLine_eq] at hmx ⊢
  omega
theorem sorted_any {κ:KeyKind}{kd:SortKind}{l:Addr}{vs:List Value}{Q:Value->Shared->Prop}(hl:s.heap.IsList l vs.toArray)(hks:KeysOf κ (pairsOf vs))
  (hO:∀ A E (s':Shared),(∀ a o,s.heap.get? a=some o->s'.heap.get? a=some o)->LtR prog w A E s' κ kd)
  (hkk:∀ A E (s':Shared) (Q:SortKind->Shared->Prop),2<=vs.length->(∀ a o,s.heap.get? a=some o->s'.heap.get? a=some o)->Q kd s'->wpAny (model prog w) A (keyKind' vs.toArray) Q E s') (hmx:vs.length<=sizeLine)
  (h:∀ st':SortSt,(arrOf st').Perm (pairsOf vs)->SortedToK κ (arrOf st') (pairsOf vs).size->Q (.ref (s.heap.objs.size+1)) { s with heap:=sortedAll s.heap vs ((arrOf st').map (·.2)) }) :
  wpAny (model prog w) A (call (.builtin "sorted") [.ref l]) Q E s:=by
 refine Calls.call_function_entry kind_sorted plain_sorted entry_sorted (args_sorted1 _) ?_
 unfold Builtin.«sorted»
 refine wpAny_bind (m:=checkCount "sorted" 1 1 _) (wpAny_pure (wpAny_bind (collect_list hl (wpAny_bind (wpAny_newList ?_)) (hsz:=by simpa using hmx))))
 have e1:((s.heap.push (seqObj "list" #[] 0)).update s.heap.objs.size (Obj.mapSeq (· ++ vs.toArray))).objs.size=s.heap.objs.size+1:=by
  rw [Heap.size_update,size_push']
 have e2:(((s.heap.push (seqObj "list" #[] 0)).update s.heap.objs.size (Obj.mapSeq (· ++ vs.toArray))).push (seqObj "list" vs.toArray 0)).get? (s.heap.objs.size+1)=some (seqObj "list" vs.toArray 0):=by
  conv=>lhs;rw [<- e1]
  exact Heap.get?_push_size _ rfl
 have e3:∀ a o,s.heap.get? a=some o->a≠s.heap.objs.size+1∧(((s.heap.push (seqObj "list" #[] 0)).update s.heap.objs.size (Obj.mapSeq (· ++ vs.toArray))).push (seqObj "list" vs.toArray 0)).get? a=some o:=fun a o ha =>
  have hlt:a<s.heap.objs.size:=Heap.lt_size ha
  ⟨Nat.ne_of_lt (Nat.lt_succ_of_lt hlt),Heap.get?_push_of_some _ (by rw [Heap.get?_update_ne _ _ _ _ (Nat.ne_of_lt hlt)];exact Heap.get?_push_of_some _ ha)⟩
 show wpAny _ _ _ _ _ { s with heap:=((s.heap.push (seqObj "list" #[] 0)).update s.heap.objs.size (Obj.mapSeq (· ++ vs.toArray))).push (seqObj "list" vs.toArray 0) }
 rw [e1]
 refine wpAny_bind (wpAny_holding (wpAny_call_entry slot_list_sort ⟨_,e2,rfl⟩ entry_list_sort (sort_big e2 hks (fun A E s' hs=>hO A E s' fun a o ha=>hs a o (e3 a o ha).1 (e3 a o ha).2) (fun A E s' Q h2 hs=>hkk A E s' Q h2 fun a o ha=>hs a o (e3 a o ha).1 (e3 a o ha).2) hmx fun st' a1 a2=>⟨_,rfl,wpAny_pure ⟨_,rfl,?_⟩⟩) (args_list_sort _)))
 exact h st' a1 a2
theorem kind_strs {vs:List Value}{ss:List Str}(hS:StrsAre vs ss)(h2:2<=vs.length):keyKind' vs.toArray=pure oneType':=by
 obtain ⟨v1,v2,r,e⟩:=two_of h2
 rw [e] at hS ⊢
 exact keyKind_strs hS
theorem sorted_big {l:Addr}{vs:List Value}{ss:List Str}{Q:Value->Shared->Prop}(hl:s.heap.IsList l vs.toArray)(hS:StrsAre vs ss)(hmx:vs.length<=sizeLine)
  (h:∀ (out:Array Value) (ss':List Str),StrsAre out.toList ss'->ss'.Perm ss->sortedS ss'=true->Q (.ref (s.heap.objs.size+1)) { s with heap:=sortedAll s.heap vs out }) :
  wpAny (model prog w) A (call (.builtin "sorted") [.ref l]) Q E s:=by
 refine sorted_any hl hS.keysOf (fun _ _ _ _=>ltR_one strKind_oneLt) (fun _ _ _ _ h2 _ q=>?_) hmx fun st' a1 a2=>?_
 ·rw [kind_strs hS h2];exact wpAny_pure q
 ·obtain ⟨ss',h1,h2,h3⟩:=sorted_out_str hS a1 a2
  exact h _ ss' h1 h2 h3
end
end SR
namespace L2
open PySem PyProof.Rows PySem.Spec
section
variable {X:Cx}
theorem call_sortedA:CallR X (.builtin "sorted") (fun xs H Q=>∃ (p:Addr) (ls:List (List Nat)),xs=[.ref p]∧SqL X.K H p (ls.map T)∧∀ (ms:List (List Nat)) (D:Addr),H D=none->ms.Perm ls->ms.Pairwise (fun a b=>¬ b<a)->Q (.ref D) (upd H D (.lst (ms.map T)))):=by
 intro pins s σ H xs us Q I r h
 obtain ⟨p,ls,rfl,hq,q⟩:=h
 obtain ⟨u,rfl,ru⟩:=vals1 r
 cases ru
 obtain ⟨its,rv,pl,hz⟩:=I.list hq
 have hlen:=rv.length
 rw [List.length_map] at hlen hz
 have key:∀ (out:Array Value) (ss':List Str),StrsAre out.toList ss'->ss'.Perm (ls.map tx)->sortedS ss'=true->EP X pins σ Q (.ref (s.heap.objs.size+1)) { s with heap:=sortedAll s.heap its out }:=fun out ss' a1 a2 a3=>by
  obtain ⟨e,he⟩:=sortedAll_at s.heap its out
  have em:(ss'.map fun x=>x.cps.toList).map tx=ss':=by
   rw [List.map_map]
   conv=>rhs;rw [<- List.map_id ss']
   exact List.map_congr_left fun x _=>tx_eta x
  have hp:(ss'.map fun x=>x.cps.toList).Perm ls:=by
   have y:=a2.map fun x=>x.cps.toList
   rw [List.map_map,show (fun x=>x.cps.toList)∘tx=id from funext tx_cps,List.map_id] at y
   exact y
  refine ⟨.ref _,_,I.laid (t':=s.toks) (fun _ _=>sortedAll_old) (Nat.le_succ _) (o:=.lst ((ss'.map fun x=>x.cps.toList).map T)) ⟨?_,out.toList,e,strs_back a1,by simpa using he⟩,rfl,q _ _ (I.hok.fresh (Nat.le_succ _)) hp (sorted_pw _ (by rw [em];exact a3))⟩
  rw [List.length_map,hp.length_eq]
  exact hz
 exact SR.sorted_big pl.isList (strsAre_T rv) (by rw [<- hlen];exact hz) key
end
end L2
namespace L2
open PySem PyProof.Rows PySem.Spec
section
variable {X:Cx}
theorem mt_indexV:MtR X "list.index" (fun x xs H Q=>∃ (p:Addr) (ys:List V) (a y:V) (j:Nat),x = .ref p∧xs=[a]∧SqL X.K H p ys∧ys.all flatV=true∧flatV a=true∧ys[j]?=some y∧eqV y a=true∧(∀ i z,i<j->ys[i]?=some z->eqV z a=false)∧Q (.int (j:Nat)) H):=by
 intro pins s σ H x xs v us Q I rx rs h
 obtain ⟨p,ys,a,y,j,rfl,rfl,hq,hf,ha,hj,hy,hno,q⟩:=h
 cases rx
 obtain ⟨u,rfl,ru⟩:=vals1 rs
 obtain ⟨its,r,⟨⟨cls,dd,data,sl⟩,n,ho,hc,hdd,hd⟩,hz⟩:=I.list hq
 simp only at hc hd
 subst hc hd
 have hlen:=r.length
 have hjl:j<ys.length:=(List.getElem?_eq_some_iff.mp hj).1
 have hs:sizeLine=16777216:=sizeLine_eq
 have hfa:∀ z∈ys,flatV z=true:=List.all_eq_true.mp hf
 have eu:∀ (i:Nat) (z:V) (w:Value),ys[i]?=some z->its[i]?=some w->eqU a w=eqV z a:=fun i z w h1 h2=>by
  obtain ⟨w',g1,g2⟩:=r.get h1
  rw [h2] at g1
  cases g1
  exact eqU_of g2 (hfa z (List.mem_of_getElem? h1))
 refine call_meets PySem.F.slot_list_index ⟨_,ho,rfl⟩ PySem.F.entry_list_index (PySem.F.args_list_index_2 _ _) (SeqAt.list_indexAt p its.toArray n dd sl u (eqU a) j (by rw [List.size_toArray];omega) (by omega) ?_ ?_)
  ⟨ho,fun y hy=>mem_eqAt ru ha r hf y (by simpa using hy),⟨.int (j:Nat),H,I.tok _,⟨_,rfl⟩,q⟩⟩
 ·have hu:its[j]?=some its.toArray[j]:=by simp
  rw [eu j y _ hj hu]
  exact hy
 ·intro m hm hmj
  rw [List.size_toArray] at hm
  have hu:its[m]?=some its.toArray[m]:=by simp
  have hl:ys[m]?=some ys[m]:=List.getElem?_eq_getElem (by omega)
  rw [eu m _ _ hl hu]
  exact hno m _ hmj hl
theorem call_sumX (hc:X.calm=true):CallR X (.builtin "sum") (fun xs H Q=>∃ (p:Addr) (ns:List Int),xs=[.ref p]∧SqL X.K H p (ns.map V.int)∧Q (.int ns.sum) H):=by
 intro pins s σ H xs us Q I r h
 obtain ⟨p,ns,rfl,hq,q⟩:=h
 obtain ⟨u,rfl,ru⟩:=vals1 r
 cases ru
 obtain ⟨its,rv,pl,_⟩:=I.list hq
 have hia:=intsAre_of rv
 have hnum:=hia.numsOf
 obtain ⟨ys,hx⟩:=hia.allInts.items
 have hl:=pl.isList
 rw [hx] at hl
 have e:preSum (numAt ys) ys.size=ns.sum:=by
  rw [preSum_eq,List.take_of_length_le (by simp)]
  rw [<- hnum,show its=its.toArray.toList from by simp,hx,nums_intItems]
 exact sum_intListG (I.ok.hd hc) hl fun h' tk t' hk=>⟨.int ns.sum,H,I.kept hk,⟨t',by rw [e]⟩,q⟩
end
end L2
namespace L2
open PySem PyProof.Rows PySem.Spec
section
variable {X:Cx}
theorem mt_indexK (K:PySem.W.Frag)(hK:X.K=K):MtR X "list.index" (fun x xs H Q=>∃ (p:Addr) (ys:List V) (a y:V) (j:Nat),x = .ref p∧xs=[a]∧SqL K H p ys∧ys.all flatV=true∧flatV a=true∧ys[j]?=some y∧eqV y a=true∧(∀ i z,i<j->ys[i]?=some z->eqV z a=false)∧Q (.int (j:Nat)) H):=by
 subst hK
 exact mt_indexV
theorem pe_bmK (K:PySem.W.Frag)(hK:X.K=K){o e:Expr}{es:List Expr}{to:TE}{t:TA}{name:Str}{apos cpos:Pos}{T id:String}{r:V->List V->Hp->VK->Prop}
  (pa:PlainAttrs T) (slot:Slot T name id) (hty:typeOf (.builtin id)=pure (.type "method_descriptor")) (hm:MtR X id r) (ho:PE X o to) (ha:PA X (e::es) t)
  (b1:attributeBase o name X.env (eval o X.env)=eval o X.env:=by rfl)
  (b2:((backTo cpos (starEach (e::es) X.env)).all (fun x=>!x.1)&&(backToKw cpos (keywordEach [] X.env)).all (fun x=>x.1.isSome)&&decide ((e::es).length+([]:List Keyword).length+(if ([]:List Keyword).isEmpty then 0 else 1)<30))=true:=by rfl)
  (b3:(apos.endLine==cpos.line)=true:=by rfl) (b4:starEach (e::es) X.env=(false,eval e X.env)::starEach es X.env:=by rfl) (b5:(backTo cpos (starEach es X.env)).any (·.1)=false:=by rfl) :
  PE X (.Call (.Attribute o name apos) (e::es) [] cpos) (tBM K T r to t):=by
 subst hK
 exact pe_bm pa slot hty hm ho ha b1 b2 b3 b4 b5
end
end L2
namespace L2
open PySem PySem.Spec PyProof.Rows
end L2
namespace L2
open PySem PySem.Spec PyProof.Rows
section
variable (P:Program)(w:World)
end
section
variable {P:Program}{w:World}{H H':Hp}{h h':Heap}{a:Addr}{o:HO}
end
section
variable {P:Program}{w:World}{H:Hp}{h h':Heap}{x e:Addr}{o':HO}
end
section
variable {fs fs' ex ex':List Addr}{H H1 H2:Hp}{h h1 h2 h':Heap}{a x e:Addr}{o:HO}
end
end L2
namespace L2
open PySem PySem.Spec PyProof.Rows
section
variable {X:Cx}{pins:List (Addr×Obj)}{σ:List (Option V)}{H H':Hp}{s:Shared}{h':Heap}
end
end L2
namespace L2
open PySem PySem.Spec PyProof.Rows
section
variable {X:Cx}
variable {a b:Expr}{ta tb:TE}{pos:Pos}
variable {tA tB':TT}{rest:List Expr}
end
end L2
namespace L2
open PySem PySem.Spec PyProof.Rows
section
variable {X:Cx}{pins:List (Addr×Obj)}{σ:St}{H:Hp}{s:Shared}{a:Addr}{xs ys:List V}
end
section
variable {X:Cx}{pins:List (Addr×Obj)}{σ:St}{H:Hp}{s:Shared}{E:Value->Shared->Prop}
end
section
variable {X:Cx}{st:Stmt}{rest:List Stmt}{t u:TS}{e:Expr}{te:TE}{pos:Pos}
end
section
variable {X:Cx}{pos:Pos}
end
section
variable {X:Cx}{pos:Pos}
end
end L2
namespace L2
open PySem PySem.Spec PyProof.Rows
section
variable {X:Cx}{tg:Expr}
end
end L2
namespace L2
open PySem PySem.Spec PyProof.Rows
section
variable {X:Cx}{a b c:Expr}{ta tb tc:TE}{pos:Pos}
end
section
variable {X:Cx}{a b c:Expr}{ta tb tc:TE}{pos:Pos}
end
end L2
namespace L2
open PySem PySem.Spec PyProof.Rows
section
variable {prog:Program}{w:World}{A:Around}{E:Value->Shared->Prop}{s:Shared}{K:PySem.W.Frag}{x dx C f:Addr}{mA:Str->Option Value}{name:Str}{v:Value}
end
section
variable {P:Program}{w:World}{H H':Hp}{h h':Heap}{a C dx:Addr}{fs fs':List (Str×V)}
end
section
variable {X:Cx}{pins:List (Addr×Obj)}{σ:St}{H:Hp}{s:Shared}{a C dx:Addr}{fs:List (Str×V)}{f:Str}{v:V}{A:Around}{E:Value->Shared->Prop}
end
section
variable {X:Cx}{o e value:Expr}{f:Str}{pos pos' tpos:Pos}{ta tv:TE}
end
section
variable {X:Cx}{pins:List (Addr×Obj)}{σ:St}{H:Hp}{s:Shared}{A:Around}{E:Value->Shared->Prop}{Q:Value->Shared->Prop}{c:Value}{b:Bool}
end
end L2
namespace L2
open PySem PySem.Spec PyProof.Rows
section
variable {X:Cx}{e:Expr}{es:List Expr}{te:TE}{t:TA}{pos:Pos}
end
section
variable {X:Cx}{pins:List (Addr×Obj)}{σ:St}{H:Hp}{s s':Shared}
end
section
variable {X:Cx}{CX:CXT}{k:Nat}{f C:Addr}{fd:FuncData}{ps:List Str}{sp:Sp}{dvs:List V}{ds:List Value}{E:XK}{x m:Str}{p pos apos:Pos}{e o:Expr}{es:List Expr}{ta:TE}{t:TA}
end
section
variable {X:Cx}{CX:CXT}{k:Nat}{f C:Addr}{fd:FuncData}{ps ks:List Str}{sp:Sp}{E:XK}{x m:Str}{p pos apos kpos:Pos}{e o:Expr}{es:List Expr}{kws:List Keyword}{te ta:TE}{t tk:TA}{nm:Option Str}
variable {g:List Value->List Value->List Value}{gV:List V->List V->List V}
end
end L2
namespace L2
open PySem PySem.Spec PyProof.Rows
section
variable {X:Cx}{x:Str}{p pos:Pos}{e:Expr}{es:List Expr}{t:TA}{id T:String}{r:List V->Hp->VK->Prop}
end
end L2
namespace L2
open PySem PySem.Spec PyProof.Rows
section
variable {κ:Type}[DecidableEq κ]
end
abbrev KT (H:Hp):List (List Key×V)->List (List Key×Addr×Value)->Prop:=Paired fun p q=>p.1=q.1∧H q.2.1=some (.tup (p.1.map kV))∧RelV p.2 q.2.2
section
variable {P:Program}{w:World}{H:Hp}{h:Heap}{a:Addr}
end
section
variable {X:Cx}{pins:List (Addr×Obj)}{σ:St}{H:Hp}{s:Shared}{a:Addr}{y v:V}{u r:Value}{o:Option V}{A:Around}{E:Value->Shared->Prop}
end
section
variable {X:Cx}{pins:List (Addr×Obj)}{σ:St}{H:Hp}{s:Shared}{a:Addr}{kvs:List (Key×V)}{k:Key}{u:Value}{A:Around}{E:Value->Shared->Prop}
end
section
variable {X:Cx}{o i e value:Expr}{pos pos' tpos:Pos}{td ty tv:TE}
end
section
variable {X:Cx}{pos:Pos}
end
set_option genInjectivity false in
structure M2 (X:Cx)(o:Expr)(m:Str)(apos:Pos)(e f:Expr)(cpos:Pos):Prop where
 base:attributeBase o m X.env (eval o X.env)=eval o X.env
 few:((backTo cpos (starEach [e,f] X.env)).all (fun x=>!x.1)&&(backToKw cpos (keywordEach [] X.env)).all (fun x=>x.1.isSome)
  && decide (([e,f]:List Expr).length+([]:List Keyword).length+(if ([]:List Keyword).isEmpty then 0 else 1)<30))=true
 line:(apos.endLine==cpos.line)=true
 trees:backTo cpos (starEach [e,f] X.env)=[(false,eval e X.env),(false,eval f X.env)]
section
variable {X:Cx}{pins:List (Addr×Obj)}{σ:St}{H:Hp}{s:Shared}{a:Addr}{y d:V}{u r:Value}{o:Option V}{A:Around}{E:Value->Shared->Prop}
end
section
variable {X:Cx}{o e f:Expr}{apos cpos:Pos}{td ty tx:TE}
end
section
variable {X:Cx}{pins:List (Addr×Obj)}{σ:St}{H:Hp}{s:Shared}{a:Addr}{kvs:List (Key×V)}{A:Around}{E:Value->Shared->Prop}
end
section
variable {X:Cx}{pins:List (Addr×Obj)}{σ:St}{H:Hp}{s:Shared}{a:Addr}{y:V}{u:Value}{A:Around}{E:Value->Shared->Prop}
end
end L2
namespace Att
open PySem PySem.W PySem.Calls PyProof.Rows
section
variable {prog:Program}{w:World}{A:Around}{E:Value->Shared->Prop}{s:Shared}{K:Frag}
end
end Att
namespace L2
open PySem PySem.Spec PyProof.Rows
end L2
namespace L2
open PySem PySem.Spec PyProof.Rows
end L2
namespace L2
open PySem PySem.Spec PyProof.Rows
section
variable {P:Program}{w:World}{K:PySem.W.Frag}{mg:Str->Option Value}{base:Heap}
end
section
variable {X:Cx}
end
section
variable {κ:Type}[DecidableEq κ]
end
end L2
namespace L2
open PySem PySem.Spec PyProof.Rows
namespace RT
def obj (x:Str)(t:Tok)(i:Int):Obj:={ cls:=.type "reversed",data:=.fields #[.str x t,rawInt i] }
def Is (h:Heap)(a:Addr)(x:Str)(t:Tok)(i:Int):Prop:=∃ o,h.get? a=some o∧o.cls = .type "reversed" ∧ o.data = .fields #[.str x t,rawInt i]
section
variable {prog:Program}{w:World}{A:Around}{E:Value->Shared->Prop}{s:Shared}
end
section
variable {prog:Program}{w:World}{A:Around}{E:Value->Shared->Prop}{s:Shared}
end
end RT
section
variable {X:Cx}
end
end L2
namespace L2
open PySem PySem.Spec PyProof.Rows
section
variable {X:Cx}
end
end L2
namespace L2
open PySem PySem.Spec PyProof.Rows
set_option genInjectivity false in
structure Cam (P:Program)(w:World)(K:PySem.W.Frag)(mg:Str->Option Value)(base:Heap)(CX:CXT)(x:Str)(C:Addr)(k:Nat)(ps:List Str)(sp:Sp):Prop where
 ex:∃ (f:Addr) (fd:FuncData),FnOk P w K mg base CX k f fd ps sp∧Mk K C f∧mg x=some (.ref C)∧Binds K fd ps []
section
variable {X:Cx}
theorem pe_mak {CX:CXT}{x:Str}{C:Addr}{j k:Nat}{ps:List Str}{sp:Sp}{E:XK}{e:Expr}{es:List Expr}{t:TA}{p pos:Pos}(c:Cam X.prog X.w X.K X.mg X.base CX x C j ps sp)(hr:Room k X.A)(hx:Passes CX X E)(ha:PA X (e::es) t)
  (hjk:j+1<=k:=by decide) (hg:Gl X x:=by rfl) (b1:(x==("__debug__" : Str))=false:=by decide) (b2:starEach (e::es) X.env=(false,eval e X.env)::starEach es X.env:=by rfl) (b3:(backTo pos (starEach es X.env)).any (·.1)=false:=by rfl) :
  PE X (.Call (.Name x p) (e::es) [] pos) (tMake C sp [] E t):=by
 obtain ⟨f,fd,F,M,hm,hb⟩:=c.ex
 exact pe_make M F (hr.mono hjk) hg hm hb .nil hx ha b1 b2 b3
end
end L2
namespace L2
open PySem PySem.Spec PyProof.Rows
section
variable {X:Cx}
end
namespace SE
section
variable {prog:Program}{w:World}{A:Around}{E:Value->Shared->Prop}{s:Shared}
end
end SE
section
variable {X:Cx}
end
end L2
namespace ST
open PySem PySem.SetTable
def it (M:Nat):Nat->Nat->Nat
 | 0,i=>i
 | s+1,i=>it M s ((i*5+1) % M)
def vals (N:Nat)(f:Nat->Option Nat):List Nat:=(List.range N).filterMap f
def Good (mask:Nat)(owner:Array (Option Nat))(k:Nat):Prop:=owner.size=mask+1∧(vals (mask+1) fun j=>owner.getD j none).Perm (List.range k)
end ST
namespace SS
open PySem PyProof.Rows
def byT (w:World):Bool:=w.params.followText "set-order"
def keyV:Value->Str
 | .str x _=>x
 | _=>Str.empty
def El (w:World)(e:Int×Value):Prop:=e.1=hashStr w (keyV e.2)∧∃ t,e.2 = .str (keyV e.2) t
def Els (w:World)(es:List (Int×Value))(ms:List Str):Prop:=(∀ e∈es,El w e)∧(es.map fun e=>keyV e.2).Perm ms
def Is (w:World)(h:Heap)(a:Addr)(ms:List Str):Prop :=
 ∃ o es ep t,h.get? a=some o∧o.ExactSet∧o.data = .set es ep t∧Els w es.toList ms∧ms.Nodup∧es.size<scanBound∧t.fits es.size=true∧(byT w=true∨t.led=true)∧(es.size=0∨t.plain=false)
theorem layNew_led (t:SetTable)(es:Array (Int×Value))(h:Int)(x:Value):(layNew t es h x).2.1.led=t.led:=by
 unfold layNew
 split
 ·rename_i slot wd _
  show ((t.put slot).1.orStandIn _).led=t.led
  unfold SetTable.orStandIn
  split <;> rfl
 ·rfl
theorem laid_marks {mask finger moves:Nat}{led plain:Bool}{hs:Array Int}{t:SetTable}{o:Array Nat}(h:SetTable.laid mask finger moves led plain hs=some (t,o)):t.led=led∧t.plain=plain:=by
 unfold SetTable.laid at h
 cases hc:SetTable.layClean mask hs with
 | none=>rw [hc] at h;cases h
 | some ow =>
  rw [hc] at h
  have h':=Option.some.inj h
  rw [<- (Prod.mk.inj h').1]
  exact ⟨rfl,rfl⟩
section
variable {prog:Program}{w:World}{A:Around}{E:Value->Shared->Prop}{s:Shared}
end
end SS
namespace SS
open PySem PyProof.Rows
theorem erase_perm {α:Type}:∀ (l:List α) (i:Nat) (h:i<l.length),(l[i]::l.eraseIdx i).Perm l
 | x::l,0,_=>List.Perm.refl _
 | x::l,i+1,h=>by
  have h':i<l.length:=by simpa using h
  have ih:=erase_perm l i h'
  exact (List.Perm.swap x (l[i]'h') (l.eraseIdx i)).trans (ih.cons x)
theorem pick_perm {α:Type}(next:Nat->Nat)(xs:Array α):(pickOrder next xs).toList.Perm xs.toList:=by
 have key:∀ (fuel k:Nat) (left:List α) (out:Array α),left.length=fuel->(pickOrder.go next fuel k left out).toList.Perm (out.toList++left):=by
  intro fuel
  induction fuel with
  | zero =>
   intro k left out hl
   obtain rfl:=List.length_eq_zero_iff.mp hl
   rw [pickOrder.go,List.append_nil]
  | succ fuel ih =>
   intro k left out hl
   have hlt:next k % left.length<left.length:=Nat.mod_lt _ (by omega)
   rw [pickOrder.go,List.getElem?_eq_getElem hlt]
   dsimp only
   refine (ih _ _ _ (by rw [List.length_eraseIdx_of_lt hlt];omega)).trans ?_
   rw [Array.toList_push,List.append_assoc]
   refine List.Perm.append_left _ ?_
   exact erase_perm left _ hlt
 have z:=key xs.size 0 xs.toList #[] (Array.length_toList)
 simpa [pickOrder] using z
section
variable {prog:Program}{w:World}{A:Around}{E:Value->Shared->Prop}{s:Shared}
theorem byText_ok {Q:Bool->Shared->Prop}(h:Q (byT w) s):wpAny (model prog w) A setsByText Q E s:=by
 unfold setsByText
 exact wpAny_bind (wpAny_askSetting (wpAny_pure h))
end
end SS
namespace SS
open PySem PyProof.Rows
section
variable {prog:Program}{w:World}{A:Around}{E:Value->Shared->Prop}{s:Shared}
def freshO (w:World):Obj:={ cls:=.type "set",dict:=none,data:=.set #[] 0 (.fresh 0 0 (!byT w)) }
end
end SS
namespace SS
open PySem PyProof.Rows
theorem slot_next:Slot "set_iterator" "__next__" "set_iterator.__next__" :=
 .of (owner := "set_iterator") (n := "__next__") (by rw [typeLookup_type,builtinLookup_eq_fast];kernel_rfl) (by decide +kernel) (by decide +kernel) (by decide +kernel) (by first | exact .inl (by decide +kernel) | exact .inr (by decide +kernel)) (by rw [isSubtype_type];kernel_rfl)
theorem entry_next:entryFor table "set_iterator.__next__" = some Builtin.«set_iterator.__next__» := entryFor_of_tree (by kernel_rfl)
theorem args_next (a:Value):argsOk "set_iterator.__next__" ⟨[a],[]⟩:=by unfold argsOk;kernel_rfl
theorem slot_self:Slot "set_iterator" "__iter__" "set_iterator.__iter__" :=
 .of (owner := "set_iterator") (n := "__iter__") (by rw [typeLookup_type,builtinLookup_eq_fast];kernel_rfl) (by decide +kernel) (by decide +kernel) (by decide +kernel) (by first | exact .inl (by decide +kernel) | exact .inr (by decide +kernel)) (by rw [isSubtype_type];kernel_rfl)
theorem args_self (a:Value):argsOk "set_iterator.__iter__" ⟨[a],[]⟩:=by unfold argsOk;kernel_rfl
theorem entry_self:entryFor table "set_iterator.__iter__" = some Builtin.«dict_keyiterator.__iter__» :=
 entryFor_alias (id' := "dict_keyiterator.__iter__") (by kernel_rfl) (by first | rfl | decide +kernel | (unfold String.splitOn;simp +decide [String.splitOnAux])) (by decide +kernel) (by kernel_rfl)
theorem entry_iter:entryFor table "set.__iter__" = some Builtin.«frozenset.__iter__» :=
 entryFor_alias (id' := "frozenset.__iter__") (by kernel_rfl) (by first | rfl | decide +kernel | (unfold String.splitOn;simp +decide [String.splitOnAux])) (by decide +kernel) (by kernel_rfl)
def It (h:Heap)(I a:Addr)(first:Value)(i n ep:Nat):Prop:=∃ o,h.get? I=some o∧o.cls = .type "set_iterator" ∧ o.data = .fields #[first,rawInt (i:Int),.ref a,rawInt (n:Int),rawInt (ep:Int)]
theorem It.at {h h':Heap}{I a:Addr}{first:Value}{i n ep:Nat}(x:It h I a first i n ep)(e:∀ o,h.get? I=some o->h'.get? I=some o):It h' I a first i n ep:=let ⟨o,ho,r⟩:=x;⟨o,e _ ho,r⟩
section
variable {prog:Program}{w:World}{A:Around}{E:Value->Shared->Prop}{s:Shared}
theorem It.ty {I a:Addr}{first:Value}{i n ep:Nat}(x:It s.heap I a first i n ep):s.TypeIs (.ref I) "set_iterator" := let ⟨o,ho,hc,_⟩:=x;⟨o,ho,hc⟩
theorem stop_ok {α:Type}{I:Addr}{s0 s:Shared}{Q:Option Value->Shared->Prop}(hh:A.handled=none)(hQ:∀ h',(∀ b o,s.heap.get? b=some o->h'.get? b=some o)->Q none { s with heap:=h' }) :
  wpAny (model prog w) A.in1 (newExc (.type "StopIteration") [] >>= fun e=>(raiseNew e:Sem Fin)) (fun fin s'=>∃ v,fin = .done (.ret v)∧wpAny (model prog w) A (pure (some v)) Q E s')
   (fun e s'=>wpAny (model prog w) A (do if <- isInstance e (.type "StopIteration") then pure none else throw e) Q E s') s:=by
 refine wpAny_bind ?_
 simp only [newExc,newTuple]
 refine wpAny_bind (wpAny_newObj_type ?_ (by size_fits))
 refine wpAny_bind (m:=firstArgMember _ _) (wpAny_of_eq (a:=Value.none) (by first | rfl | (simp only [firstArgMember];rfl)) ?_)
 refine wpAny_newObj_type ?_ (by size_fits)
 simp only [raiseNew]
 refine wpAny_bind (wpAny_handled ?_)
 first | rw [show A.in1.handled=none from hh] | rw [hh]
 refine wpAny_bind (wpAny_pure (wpAny_throw ?_))
 refine wpAny_bind (wpAny_isInstance (T := "StopIteration") (b:=true) ⟨_,Heap.get?_push_size _ rfl,rfl⟩ isSubtype_stop ?_)
 refine wpAny_pure (hQ _ fun b ob eb=>?_)
 exact Heap.get?_push_of_some _ (Heap.get?_push_of_some _ eb)
end
end SS
namespace SS
open PySem PyProof.Rows
section
variable {prog:Program}{w:World}{A:Around}{E:Value->Shared->Prop}{s:Shared}
theorem item_int {I a:Addr}{o:Obj}{es:Array (Int×Value)}{ep i slot nx:Nat}{t:SetTable}{x:Value}{Q:Option Value->Shared->Prop}(hI:It s.heap I a (rawInt (slot:Int)) i es.size ep)(hne:a≠I)(ho:s.heap.get? a=some o)(hd:o.data = .set es ep t)(hf:t.fits es.size=true)
  (hN:∀ (A':Around) (E':Value->Shared->Prop) (Q':Option (Value×Nat)->Shared->Prop),Q' (some (x,nx)) s->wpAny (model prog w) A' (setNext a slot i ep) Q' E' s)
  (hQ:∀ h',It h' I a (rawInt (nx:Int)) (i+1) es.size ep->Heap.SameBut I s.heap h'->Q (some x) { s with heap:=h' }):wpAny (model prog w) A (pyNext (.ref I)) Q E s:=by
 obtain ⟨oi,hoi,hci,hdi⟩:=id hI
 unfold pyNext
 refine wpAny_bind (wpAny_attempt (wpAny_callSpecial?_slot (name:=Str.ofString "__next__") hI.ty slot_next (wpAny_call_entry slot_next hI.ty entry_next ?_ (args_next _))))
 unfold Builtin.«set_iterator.__next__»
 refine wpAny_bind (wpAny_of_eq (a:=(Value.ref I,[])) rfl ?_)
 try dsimp only
 refine wpAny_bind (wpAny_fieldsOf hoi hdi ?_)
 dsimp only [rawInt]
 refine wpAny_bind (wpAny_setEntries_of ho hd hf ?_)
 rw [if_neg (by simp)]
 refine wpAny_bind (m:=setNext a (slot:Int).toNat (i:Int).toNat (ep:Int).toNat) ?_
 rw [Int.toNat_natCast,Int.toNat_natCast,Int.toNat_natCast]
 refine hN _ _ _ ?_
 dsimp only
 refine wpAny_bind (wpAny_setField hoi hdi (by simp) ?_)
 have h2:=Heap.get?_update_self (Obj.mapFields (·.setIfInBounds 0 (rawInt (nx:Int)))) hoi (Obj.isFreed_of_fields (Obj.data_mapFields hdi _))
 refine wpAny_bind (wpAny_setField h2 (Obj.data_mapFields hdi _) (by simp) ?_)
 refine wpAny_pure ⟨_,rfl,wpAny_pure (hQ _ ?_ ((Heap.SameBut.update ..).trans (Heap.SameBut.update ..)))⟩
 exact ⟨_,Heap.get?_update_self _ h2 (Obj.isFreed_of_fields (Obj.data_mapFields (Obj.data_mapFields hdi _) _)),(Obj.cls_mapFields ..).trans ((Obj.cls_mapFields ..).trans hci),by rw [Obj.data_mapFields (Obj.data_mapFields hdi _)];simp [rawInt]⟩
theorem end_int {I a:Addr}{o:Obj}{es:Array (Int×Value)}{ep i slot:Nat}{t:SetTable}{Q:Option Value->Shared->Prop}(hh:A.handled=none)(hI:It s.heap I a (rawInt (slot:Int)) i es.size ep)(hne:a≠I)(ho:s.heap.get? a=some o)(hd:o.data = .set es ep t)(hf:t.fits es.size=true)
  (hN:∀ (A':Around) (E':Value->Shared->Prop) (Q':Option (Value×Nat)->Shared->Prop),Q' none s->wpAny (model prog w) A' (setNext a slot i ep) Q' E' s)
  (hQ:∀ h',Heap.ExtBut I s.heap h'->Q none { s with heap:=h' }):wpAny (model prog w) A (pyNext (.ref I)) Q E s:=by
 obtain ⟨oi,hoi,hci,hdi⟩:=id hI
 unfold pyNext
 refine wpAny_bind (wpAny_attempt (wpAny_callSpecial?_slot (name:=Str.ofString "__next__") hI.ty slot_next (wpAny_call_entry slot_next hI.ty entry_next ?_ (args_next _))))
 unfold Builtin.«set_iterator.__next__»
 refine wpAny_bind (wpAny_of_eq (a:=(Value.ref I,[])) rfl ?_)
 try dsimp only
 refine wpAny_bind (wpAny_fieldsOf hoi hdi ?_)
 dsimp only [rawInt]
 refine wpAny_bind (wpAny_setEntries_of ho hd hf ?_)
 rw [if_neg (by simp)]
 refine wpAny_bind (m:=setNext a (slot:Int).toNat (i:Int).toNat (ep:Int).toNat) ?_
 rw [Int.toNat_natCast,Int.toNat_natCast,Int.toNat_natCast]
 refine hN _ _ _ ?_
 dsimp only
 refine wpAny_bind (wpAny_setField hoi hdi (by simp) ?_)
 refine wpAny_mono (stop_ok (α:=Unit) (I:=I) (s0:=s) (Q:=Q) (E:=E) hh fun h' kp=>hQ h' fun b ob hb eb=>kp b ob ((Heap.get?_update_other _ _ (Ne.symm hb)).trans eb)) (fun fin s' z=>z) fun e s' z=>z
theorem item_ref {I a tp:Addr}{o ot:Obj}{es:Array (Int×Value)}{ep i p nt:Nat}{t:SetTable}{x:Int×Value}{ps:List Nat}{Q:Option Value->Shared->Prop}(hI:It s.heap I a (.ref tp) i es.size ep)(ho:s.heap.get? a=some o)(hd:o.data = .set es ep t)(hf:t.fits es.size=true)
  (hot:s.heap.get? tp=some ot) (hdt:ot.data = .seq (ps.map fun j:Nat=>rawInt (j:Int)).toArray nt) (hp:ps[i]?=some p) (hx:es[p]?=some x)
  (hQ:∀ h',It h' I a (.ref tp) (i+1) es.size ep->Heap.SameBut I s.heap h'->Q (some x.2) { s with heap:=h' }):wpAny (model prog w) A (pyNext (.ref I)) Q E s:=by
 obtain ⟨oi,hoi,hci,hdi⟩:=id hI
 unfold pyNext
 refine wpAny_bind (wpAny_attempt (wpAny_callSpecial?_slot (name:=Str.ofString "__next__") hI.ty slot_next (wpAny_call_entry slot_next hI.ty entry_next ?_ (args_next _))))
 unfold Builtin.«set_iterator.__next__»
 refine wpAny_bind (wpAny_of_eq (a:=(Value.ref I,[])) rfl ?_)
 try dsimp only
 refine wpAny_bind (wpAny_fieldsOf hoi hdi ?_)
 dsimp only [rawInt]
 refine wpAny_bind (wpAny_setEntries_of ho hd hf ?_)
 rw [if_neg (by simp)]
 refine wpAny_bind (wpAny_seqItems hot hdt ?_)
 dsimp only
 rw [Int.toNat_natCast,List.getElem?_toArray,List.getElem?_map,hp]
 dsimp only [Option.map,rawInt]
 refine wpAny_bind (m:=setNextDrawn a (p:Int).toNat (ep:Int).toNat) ?_
 rw [Int.toNat_natCast,Int.toNat_natCast]
 unfold setNextDrawn
 refine wpAny_bind (wpAny_setState_of ho hd hf ?_)
 dsimp only
 rw [bne_self_eq_false,if_neg Bool.false_ne_true,hx]
 refine wpAny_pure ?_
 refine wpAny_bind (wpAny_setField hoi hdi (by simp) ?_)
 refine wpAny_pure ⟨_,rfl,wpAny_pure (hQ _ ?_ (Heap.SameBut.update ..))⟩
 exact ⟨_,Heap.get?_update_self _ hoi (Obj.isFreed_of_fields (Obj.data_mapFields hdi _)),(Obj.cls_mapFields ..).trans hci,by rw [Obj.data_mapFields hdi];simp [rawInt]⟩
theorem end_ref {I a tp:Addr}{o ot:Obj}{es:Array (Int×Value)}{ep i nt:Nat}{t:SetTable}{ps:List Nat}{Q:Option Value->Shared->Prop}(hh:A.handled=none)(hI:It s.heap I a (.ref tp) i es.size ep)(ho:s.heap.get? a=some o)(hd:o.data = .set es ep t)(hf:t.fits es.size=true)
  (hot:s.heap.get? tp=some ot) (hdt:ot.data = .seq (ps.map fun j:Nat=>rawInt (j:Int)).toArray nt) (hp:ps[i]?=none)
  (hQ:∀ h',Heap.ExtBut I s.heap h'->Q none { s with heap:=h' }):wpAny (model prog w) A (pyNext (.ref I)) Q E s:=by
 obtain ⟨oi,hoi,hci,hdi⟩:=id hI
 unfold pyNext
 refine wpAny_bind (wpAny_attempt (wpAny_callSpecial?_slot (name:=Str.ofString "__next__") hI.ty slot_next (wpAny_call_entry slot_next hI.ty entry_next ?_ (args_next _))))
 unfold Builtin.«set_iterator.__next__»
 refine wpAny_bind (wpAny_of_eq (a:=(Value.ref I,[])) rfl ?_)
 try dsimp only
 refine wpAny_bind (wpAny_fieldsOf hoi hdi ?_)
 dsimp only [rawInt]
 refine wpAny_bind (wpAny_setEntries_of ho hd hf ?_)
 rw [if_neg (by simp)]
 refine wpAny_bind (wpAny_seqItems hot hdt ?_)
 dsimp only
 rw [Int.toNat_natCast,List.getElem?_toArray,List.getElem?_map,hp]
 dsimp only [Option.map]
 refine wpAny_bind (wpAny_setField hoi hdi (by simp) ?_)
 have h2:=Heap.get?_update_self (Obj.mapFields (·.setIfInBounds 0 (rawInt 0))) hoi (Obj.isFreed_of_fields (Obj.data_mapFields hdi _))
 refine wpAny_bind (wpAny_setField h2 (Obj.data_mapFields hdi _) (by simp) ?_)
 refine wpAny_mono (stop_ok (α:=Unit) (I:=I) (s0:=s) (Q:=Q) (E:=E) hh fun h' kp=>hQ h' fun b ob hb eb=>kp b ob ((Heap.get?_update_other _ _ (Ne.symm hb)).trans ((Heap.get?_update_other _ _ (Ne.symm hb)).trans eb))) (fun fin s' z=>z) fun e s' z=>z
theorem self_ok {I a:Addr}{first:Value}{i n ep:Nat}{Q:Value->Shared->Prop}(hI:It s.heap I a first i n ep)(h:Q (.ref I) s):wpAny (model prog w) A (pyIter (.ref I)) Q E s:=by
 refine wpAny_pyIter_slot hI.ty slot_self (wpAny_call_entry slot_self hI.ty entry_self ?_ (args_self _))
 show wpAny _ _ (ret (.ref I)) _ _ s
 exact wpAny_pure ⟨_,rfl, "set_iterator",_,hI.ty,slot_next.lookup,h⟩
theorem wpAny_choose {M:Model}{src:Source}{n:Nat}{Q:Nat->Shared->Prop}(hn:n≠0)(h:∀ i d,i<n->Q i { s with drawn:=d }):wpAny M A (choose src n) Q E s:=fun Γ p hΓ=>⟨hn,h _ _ (Nat.mod_lt _ (Nat.pos_of_ne_zero hn))⟩
theorem draw_ok {α:Type}:∀ (xs:List α) (s:Shared) (Q:List α->Shared->Prop),(∀ ys d,ys.Perm xs->Q ys { s with drawn:=d })->wpAny (model prog w) A (drawOrder xs.length xs) Q E s:=by
 intro xs
 generalize hn:xs.length=n
 induction n generalizing xs with
 | zero =>
  intro s Q h
  obtain rfl:=List.length_eq_zero_iff.mp hn
  rw [drawOrder]
  exact wpAny_pure (h [] s.drawn (List.Perm.refl _))
 | succ n ih =>
  intro s Q h
  cases xs with
  | nil=>cases hn
  | cons x xs =>
   rw [drawOrder]
   rotate_left
   ·intro z
    cases z
   refine wpAny_bind (wpAny_choose (by simp) fun i d hi=>?_)
   rw [List.getElem?_eq_getElem hi]
   dsimp only
   refine wpAny_bind (ih ((x::xs).eraseIdx i) (by rw [List.length_eraseIdx_of_lt hi,hn];rfl) _ _ fun ys d2 hp=>wpAny_pure ?_)
   exact h _ d2 ((hp.cons _).trans (erase_perm _ i hi))
end
end SS
namespace SS
open PySem PyProof.Rows
theorem walk_int {prog:Program}{w:World}{A:Around}{a I:Addr}{o:Obj}{es:Array (Int×Value)}{ep:Nat}{t:SetTable}{L:List (Int×Value)}{slots:Nat->Nat}(hh:A.handled=none)(hne:a≠I)(hd:o.data = .set es ep t)(hf:t.fits es.size=true)
  (hN:∀ (i:Nat) (s:Shared) (A':Around) (E':Value->Shared->Prop) (Q':Option (Value×Nat)->Shared->Prop),s.heap.get? a=some o->i<=L.length->Q' ((L[i]?).map fun e=>(e.2,slots (i+1))) s->wpAny (model prog w) A' (setNext a (slots i) i ep) Q' E' s) :
  Walks prog w A I [I,a] [I] L.length (fun i v=>(L.map (·.2))[i]?=some v) (fun i h=>h.get? a=some o∧It h I a (rawInt (slots i:Int)) i es.size ep) where
 sub:=fun b hb=>by simp at hb;simp [hb]
 frame:=fun _ _ _ y hk=>⟨hk a (by simp) o y.1,y.2.at fun o e=>hk I (by simp) o e⟩
 item:=fun i s Q E hi y hQ=>by
  refine item_int (x:=L[i].2) (nx:=slots (i+1)) y.2 hne y.1 hd hf (fun A' E' Q' q=>hN i s A' E' Q' y.1 (by omega) ?_) fun h' hit hs=>?_
  ·rw [List.getElem?_eq_getElem hi]
   exact q
  ·exact hQ _ h' s.toks (by rw [List.getElem?_map,List.getElem?_eq_getElem hi];rfl) ⟨(hs.2 a hne).trans y.1,hit⟩ fun b o hb eo=>hs.extBut b o (fun h=>hb (by simp [h])) eo
 done:=fun s Q E y hQ=>by
  refine end_int hh y.2 hne y.1 hd hf (fun A' E' Q' q=>hN L.length s A' E' Q' y.1 (Nat.le_refl _) ?_) fun h' he=>hQ h' s.toks fun b o hb eo=>he b o (fun h=>hb (by simp [h])) eo
  rw [List.getElem?_eq_none (Nat.le_refl _)]
  exact q
 self:=fun _ _ _ _ y hQ=>self_ok y.2 hQ
theorem walk_ref {prog:Program}{w:World}{A:Around}{a I tp:Addr}{o ot:Obj}{es:Array (Int×Value)}{ep nt:Nat}{t:SetTable}{ps:List Nat}(hh:A.handled=none)(hne:a≠I)(hnt:tp≠I)(hd:o.data = .set es ep t)(hf:t.fits es.size=true)
  (hdt:ot.data = .seq (ps.map fun j:Nat=>rawInt (j:Int)).toArray nt) (hps:∀ p∈ps,p<es.size) :
  Walks prog w A I [I,a,tp] [I] ps.length (fun i v=>(ps.map fun p=>(es.getD p (0,.none)).2)[i]?=some v) (fun i h=>h.get? a=some o∧h.get? tp=some ot∧It h I a (.ref tp) i es.size ep) where
 sub:=fun b hb=>by simp at hb;simp [hb]
 frame:=fun _ _ _ y hk=>⟨hk a (by simp) o y.1,hk tp (by simp) ot y.2.1,y.2.2.at fun o e=>hk I (by simp) o e⟩
 item:=fun i s Q E hi y hQ=>by
  have hp:ps[i]?=some ps[i]:=List.getElem?_eq_getElem hi
  have hlt:=hps _ (List.getElem_mem hi)
  have hx:es[ps[i]]?=some (es[ps[i]]'hlt):=Array.getElem?_eq_getElem hlt
  refine item_ref y.2.2 y.1 hd hf y.2.1 hdt hp hx fun h' hit hs=>?_
  refine hQ _ h' s.toks ?_ ⟨(hs.2 a hne).trans y.1,(hs.2 tp hnt).trans y.2.1,hit⟩ fun b o hb eo=>hs.extBut b o (fun h=>hb (by simp [h])) eo
  rw [List.getElem?_map,hp]
  show some (es.getD ps[i] (0,Value.none)).2=_
  rw [Array.getD_eq_getD_getElem?,hx]
  rfl
 done:=fun s Q E y hQ=>end_ref hh y.2.2 y.1 hd hf y.2.1 hdt (List.getElem?_eq_none (Nat.le_refl _)) fun h' he=>hQ h' s.toks fun b o hb eo=>he b o (fun h=>hb (by simp [h])) eo
 self:=fun _ _ _ _ y hQ=>self_ok y.2.2 hQ
section
variable {prog:Program}{w:World}{A:Around}{E:Value->Shared->Prop}{s:Shared}
end
end SS
namespace SS
open PySem PyProof.Rows
theorem items_eq {xs:List Value}{acc:Array Value}(h:ItemsOf (fun i v=>xs[i]?=some v) acc xs.length):acc.toList=xs:=by
 apply List.ext_getElem?
 intro i
 rw [Array.getElem?_toList]
 cases e:acc[i]? with
 | some v=>exact (h.2 i v e).symm
 | none =>
  have:acc.size<=i:=by
   rcases Nat.lt_or_ge i acc.size with z | z
   ·rw [Array.getElem?_eq_getElem z] at e;cases e
   ·exact z
  rw [List.getElem?_eq_none (by rw [<- h.1];exact this)]
section
variable {prog:Program}{w:World}{A:Around}{E:Value->Shared->Prop}{s:Shared}
theorem code_new1 (a:Value){Q₁:Value->Shared->Prop}(h:Q₁ (.ref s.heap.objs.size) { s with heap:=s.heap.push (freshO w) }):codeAny (model prog w) A (.call (.builtin "set.__new__") ⟨[.type "set",a],[]⟩) (wants Q₁ E) s:=by
 refine codeAny_of_tree (show wpAny _ A.in1 (do checkBuiltinCall "set.__new__" ⟨[.type "set",a],[]⟩;again (.builtin "set.__new__" ⟨[.type "set",a],[]⟩)) _ _ s from ?_)
 refine wpAny_bind (wpAny_of_eq (F.newCall_set_1 a) (wpAny_pure ⟨plainId_quiet F.plain_set_new _,codeAny_builtin F.entry_set_new ?_⟩))
 rw [Around.under_plainId F.plain_set_new _]
 unfold Builtin.«set.__new__» Builtin.Frozenset.newClass
 have hsub:=sub_set_self
 obtain ⟨hp,g,d,tk,os⟩:=s
 dsimp only
 wp_walk
 refine wpAny_askSetting (wpAny_pure ?_)
 dsimp only
 simp only [newObj]
 refine wpAny_bind (wpAny_alloc (wpAny_pure (wpAny_pure h)))
end
end SS
namespace L2
open PySem PySem.Spec PyProof.Rows
namespace SE
def Of (w:World)(h:Heap)(D:Addr)(ls:List (List Nat))(i:Nat):Prop:=∃ ms,SS.Is w h D ms∧(∀ x,x∈ms↔x∈(ls.take i).map tx)∧ms.length<=i
section
variable {prog:Program}{w:World}{A:Around}{R:Result->Shared->Prop}{J:Addr}{fp wr:List Addr}{G:Array GenState->Array GenState->Prop}{n:Nat}{P:Nat->Value->Prop}{St:Nat->Shared->Prop}
variable {E:Value->Shared->Prop}{s:Shared}
end
end SE
section
variable {X:Cx}
end
end L2
namespace L2
open PySem PySem.Spec PyProof.Rows
set_option genInjectivity false in
structure Reads (J:It)(H:Hp)(vs:List V):Prop where
 go:∀ i H',Same H H'->i<vs.length->J.go i H'
 yl:∀ i H' y H2,Same H H'->J.yld i H' y H2->H2=H'∧vs[i]?=some y
 st:∀ H',Same H H'->J.stop vs.length H'
theorem reads_list {K:PySem.W.Frag}{a:Addr}{H:Hp}{vs:List V}(h:SqL K H a vs):Reads (Itl K a) H vs :=
 ⟨fun i H' s hi=>⟨vs,vs[i],s.seq h,List.getElem?_eq_getElem hi⟩,fun i H' y H2 s ⟨e1,e2⟩=>⟨e1,e2 vs (s.seq h)⟩,fun H' s=>⟨vs,s.seq h,Nat.le_refl _⟩⟩
theorem reads_text {l:List Nat}{H:Hp}:Reads (Itx l) H ((l.map fun c=>[c]).map T) :=
 ⟨fun i H' _ hi=>by (show i<l.length;simpa using hi),fun i H' y H2 _ ⟨e1,c,hc,e2⟩=>⟨e1,by rw [List.getElem?_map,List.getElem?_map,hc,e2];rfl⟩,fun H' _=>by show l.length<=_;simp⟩
theorem compG {J:It}{vs:List V}{te:TE}{σ:St}{H:Hp}{Q:VK}(f:V->V)(rd:Reads J H vs)(hn:vs.length<=sizeLine)
  (he:∀ x H',x∈vs->Same H H'->∀ N:V->Hp->Prop,(∀ H'',Same H' H''->N (f x) H'')->te (some x::σ) H' N)
  (hq:∀ D H',H D=none->Same H H'->H' D=some (.lst (vs.map f))->Q (.ref D) H'):compAt te σ Q J H:=by
 intro D hD
 refine ⟨fun i m ys H2=>m=vs.length-i∧i<=vs.length∧ys=(vs.take i).map f∧Same H H2∧H2 D=some (.lst ys),⟨vs.length,rfl,Nat.zero_le _,rfl,fun b o e=>?_,upd_same⟩,?_⟩
 ·rw [upd_ne (ne_of_none e hD)]
  exact e
 ·rintro i m ys H2 ⟨rfl,hi,rfl,hs,hd⟩
  by_cases hlt:i<vs.length
  ·have hx:vs[i]?=some vs[i]:=List.getElem?_eq_getElem hlt
   refine .inr ⟨rd.go i H2 hs hlt,by rw [List.length_map,List.length_take];omega,fun v H'=>v=f vs[i]∧Same H2 H',fun v H' ⟨ev,hs'⟩=>⟨hs' D _ hd,vs.length-(i+1),by omega,rfl,hlt,?app,fun b o e=>?kp,upd_same⟩,fun y H' hy=>?stp⟩
   case app =>
    rw [ev,List.take_add_one,hx,List.map_append]
    rfl
   case kp =>
    rw [upd_ne (ne_of_none e hD)]
    exact hs' b o (hs b o e)
   case stp =>
    obtain ⟨rfl,e2⟩:=rd.yl i H2 y H' hs hy
    have e4:y=vs[i]:=by rw [hx] at e2;exact (Option.some.inj e2).symm
    subst e4
    exact he _ _ (List.getElem_mem hlt) hs _ fun H'' h''=>⟨rfl,h''⟩
  ·have e:i=vs.length:=by omega
   subst e
   rw [List.take_length] at hd
   exact .inl ⟨rd.st H2 hs,hq D H2 hD hs hd⟩
theorem compFG {J:It}{vs:List V}{tc:TT}{te:TE}{σ:St}{H:Hp}{Q:VK}(p:V->Bool)(f:V->V)(rd:Reads J H vs)(hn:vs.length<=sizeLine)
  (ht:∀ x H',x∈vs->Same H H'->∀ N:Bool->Hp->Prop,(∀ H'',Same H' H''->N (p x) H'')->tc (some x::σ) H' N)
  (he:∀ x H',x∈vs->p x=true->Same H H'->∀ N:V->Hp->Prop,(∀ H'',Same H' H''->N (f x) H'')->te (some x::σ) H' N)
  (hq:∀ D H',H D=none->Same H H'->H' D=some (.lst ((vs.filter p).map f))->Q (.ref D) H'):compAtF tc te σ Q J H:=by
 intro D hD
 refine ⟨fun i m ys H2=>m=vs.length-i∧i<=vs.length∧ys=((vs.take i).filter p).map f∧Same H H2∧H2 D=some (.lst ys),⟨vs.length,rfl,Nat.zero_le _,rfl,fun b o e=>?_,upd_same⟩,?_⟩
 ·rw [upd_ne (ne_of_none e hD)]
  exact e
 ·rintro i m ys H2 ⟨rfl,hi,rfl,hs,hd⟩
  by_cases hlt:i<vs.length
  ·have hx:vs[i]?=some vs[i]:=List.getElem?_eq_getElem hlt
   refine .inr ⟨rd.go i H2 hs hlt,by have:=filter_take_len p vs i;rw [List.length_map];omega,fun v H'=>v=f vs[i]∧p vs[i]=true∧Same H2 H',fun v H' ⟨ev,hp,hs'⟩=>⟨hs' D _ hd,vs.length-(i+1),by omega,rfl,hlt,?app,fun b o e=>?kp,upd_same⟩,
    fun H'=>p vs[i]=false∧Same H2 H',fun H' ⟨hp,hs'⟩=>⟨vs.length-(i+1),by omega,rfl,hlt,?skp,fun b o e=>hs' b o (hs b o e),hs' D _ hd⟩,fun y H' hy=>?stp⟩
   case app =>
    rw [ev,take_filter p vs i _ hx,hp,List.map_append]
    rfl
   case kp =>
    rw [upd_ne (ne_of_none e hD)]
    exact hs' b o (hs b o e)
   case skp =>
    rw [take_filter p vs i _ hx,hp]
    simp
   case stp =>
    obtain ⟨rfl,e2⟩:=rd.yl i H2 y H' hs hy
    have e4:y=vs[i]:=by rw [hx] at e2;exact (Option.some.inj e2).symm
    subst e4
    refine ht _ _ (List.getElem_mem hlt) hs _ fun H'' h''=>?_
    by_cases hp:p vs[i]=true
    ·rw [if_pos hp]
     exact he _ _ (List.getElem_mem hlt) hp (hs.trans h'') _ fun H3 h3=>⟨rfl,hp,h''.trans h3⟩
    ·rw [if_neg hp]
     exact ⟨by simpa using hp,h''⟩
  ·have e:i=vs.length:=by omega
   subst e
   rw [List.take_length] at hd
   exact .inl ⟨rd.st H2 hs,hq D H2 hD hs hd⟩
def unT:V->List Nat
 | .str x=>x.cps.toList
 | _=>[]
theorem unT_T (l:List Nat):unT (T l)=l:=tx_cps l
section
variable {X:Cx}
end
theorem map_unT {f:List Nat->V}(ls:List (List Nat)):(ls.map T).map (fun x=>f (unT x))=ls.map f:=by
 rw [List.map_map]
 exact List.map_congr_left fun l _=>by show f (unT (T l))=f l;rw [unT_T]
end L2
namespace SS
open PySem PyProof.Rows L2
section
variable {prog:Program}{w:World}{A:Around}{E:Value->Shared->Prop}{s:Shared}
end
end SS
namespace L2
open PySem PyProof.Rows
section
variable {X:Cx}
end
end L2
namespace L2
open PySem PyProof.Rows PySem.Spec
namespace SE
section
variable {prog:Program}{w:World}{A:Around}{E:Value->Shared->Prop}{s:Shared}
end
end SE
section
variable {X:Cx}
end
end L2
namespace L2
open PySem PyProof.Rows PySem.Spec
section
variable {X:Cx}
end
end L2
namespace L2
open PySem PyProof.Rows PySem.Spec
section
variable {X:Cx}
end
end L2
namespace L2
open PySem PyProof.Rows PySem.Spec
section
variable {X:Cx}{pins:List (Addr×Obj)}{σ:List (Option V)}{H H':Hp}{s:Shared}{h':Heap}
theorem Inv.turnedL {t':Nat}{ch:List Addr}(I:Inv X pins σ H s)(k:∀ b o,b∉ch->s.heap.get? b=some o->h'.get? b=some o)(hf:∀ b∈ch,FpOk X pins H b):Inv X pins σ H { s with heap:=h',toks:=t' }:=by
 have nit:∀ b u,H b=some u->b∉ch:=fun b u e z=>by rw [(hf b z).1] at e;cases e
 refine I.step (g':=s.gens) (d':=s.drawn) (ch:=ch) (fun b hb=>?_) (fun b o _ _ hc e _=>k b o hc e) (fun b o _ _ hc e _=>⟨o.slots,k b o hc e⟩) (fun _ _ _ _ n=>n)
  (fun b o hc e=>⟨o,k b o hc e⟩) (fun _ _ e=>e) (fun _ _ _ e=>e) (fun b ps e=>⟨#[],by rw [e];simp⟩) (fun m hm=>?_) (fun b u e=>?_) I.bare
 ·obtain ⟨f0,f1,f2,f3,f4,f5⟩:=hf b hb
  exact ⟨f3,f1,f4,f5⟩
 ·obtain ⟨o,es,ep,ho,r⟩:=hm
  exact ⟨o,es,ep,k _ o (fun z=>(hf _ z).2.1 rfl) ho,r⟩
 ·refine (I.hok b u e).stay (fun c v hc q=>k c v ?_ q) (fun _ q=>q) fun _ _ q=>q
  rcases hc with z | z
  ·rw [z];exact nit b u e
  ·exact nit c _ z
end
section
variable {X:Cx}
end
end L2
namespace L2
open PySem PyProof.Rows PySem.Spec
end L2
namespace L2
open PySem PyProof.Rows PySem.Spec
namespace ZS
section
variable {prog:Program}{w:World}{A:Around}{E:Value->Shared->Prop}{s:Shared}
abbrev P1 (h:Heap)(l:Addr):Heap:=h.push { cls:=.type "list_iterator",data:=.fields #[.ref l,.int 0 0] }
end
end ZS
section
variable {X:Cx}
end
end L2
namespace L2
open PySem PyProof.Rows PySem.Spec
section
variable {X:Cx}
theorem mt_insert:MtM X "list.insert" (fun x vs H Q=>∃ (l:Addr) (xs:List V) (i:Nat) (y:V),x = .ref l∧vs=[.int (i:Nat),y]∧H l=some (.lst xs)∧i<=xs.length∧xs.length<=1000∧Q .non (upd H l (.lst (xs.take i++y::xs.drop i)))):=by
 intro pins s σ H x vs v us Q I rx rv h
 obtain ⟨l,xs,i,y,rfl,rfl,hH,hi,hn,q⟩:=h
 cases rx
 obtain ⟨u,w',rfl,⟨t,rfl⟩,rw'⟩:=vals2 rv
 obtain ⟨z,its,n,r,hl,e⟩:=I.lstM hH
 have hs:sizeLine=16777216:=sizeLine_eq
 have hln:=r.length
 have hfit:¬ (!Builtin.List.listFitsIndex ((i:Nat):Int))=true:=by
  have h1:(-(2 ^ 63:Int)<=((i:Nat):Int)):=Int.le_trans (by decide) (Int.natCast_nonneg i)
  have h2:((i:Nat):Int)<2 ^ 63:=Int.lt_of_le_of_lt (show ((i:Nat):Int)<=1000 by omega) (by decide)
  unfold Builtin.List.listFitsIndex
  rw [decide_eq_true h1,decide_eq_true h2]
  decide
 have hsz:its.toArray.size<=sizeLine:=by rw [List.size_toArray];omega
 have hk:(if ((i:Nat):Int)<0 then (((i:Nat):Int)+(its.toArray.size:Int)).toNat else min ((i:Nat):Int).toNat its.toArray.size)=i:=by
  rw [if_neg (by omega),Int.toNat_natCast,List.size_toArray]
  exact Nat.min_eq_left (by omega)
 generalize hx:((i:Nat):Int)=x at hfit hk ⊢
 have M:=PySem.AutoSeq1.list_insert_list_int_val_1 l its.toArray n x t w' hfit hsz
 refine call_meets F.slot_list_insert ⟨_,e,rfl⟩ F.entry_list_insert (F.args_list_insert_3 _ _ _) M ⟨e,?_⟩
 have hf:(fun xs:Array Value=>have k:=if x<0 then (x+(xs.size:Int)).toNat else min x.toNat xs.size;(xs.extract 0 k).push w'++xs.extract k) its.toArray=(its.take i++w'::its.drop i).toArray:=by
  show (its.toArray.extract 0 (if x<0 then (x+(its.toArray.size:Int)).toNat else min x.toNat its.toArray.size)).push w'++its.toArray.extract (if x<0 then (x+(its.toArray.size:Int)).toNat else min x.toNat its.toArray.size)=_
  rw [hk]
  apply Array.toList_inj.mp
  rw [Array.toList_append,Array.toList_push,Array.toList_extract,Array.toList_extract]
  simp
  exact List.take_of_length_le (by rw [List.length_drop];omega)
 have hv:Vals (xs.take i++y::xs.drop i) (its.take i++w'::its.drop i):=?hv
 refine ⟨.non,_,I.lset (its':=its.take i++w'::its.drop i) hH e hf hv ?_,rfl,q⟩
 ·rw [List.length_append,List.length_take,List.length_cons,List.length_drop]
  omega
 case hv=>exact (r.take i).append (.cons rw' (r.drop i))
end
end L2
namespace L2
open PySem PyProof.Rows PySem.Spec
theorem on1 {α:Type}{C:List α->Prop}{us:List α}(h:us.length=1)(k:∀ a,C [a]):C us:=match us,h with | [a],_=>k a
theorem on2 {α:Type}{C:List α->Prop}{us:List α}(h:us.length=2)(k:∀ a b,C [a,b]):C us:=match us,h with | [a,b],_=>k a b
theorem on3 {α:Type}{C:List α->Prop}{us:List α}(h:us.length=3)(k:∀ a b c,C [a,b,c]):C us:=match us,h with | [a,b,c],_=>k a b c
section
variable {X:Cx}
end
end L2
namespace L2
open PySem PySem.Spec PyProof.Rows
section
variable {X:Cx}{N':List Str}{scope:Scope}{x y2:Str}{px py py2 pt:Pos}{elt iter:Expr}{pos:Pos}{te:TE}{wi:TI}
end
end L2
namespace L2
open PySem PySem.Spec PyProof.Rows
end L2
namespace L2
open PySem PySem.Spec PyProof.Rows
def c2 (o:Obj):Option Value:=match o.data with
 | .fields vs=>vs[2]?
 | _=>none
def DSafe {α:Type}:Sem α->Prop
 | .pure _=>True
 | .raise _=>True
 | .unsupported _=>True
 | .finish _=>True
 | .rule _ k=>DSafe (k ())
 | .at _ k=>DSafe (k ())
 | .load _ _ k=>∀ o,DSafe (k o)
 | .update _ _ f k=>(∀ o:Obj,(f o).dict=o.dict∧c2 (f o)=c2 o)∧DSafe (k ())
 | .alloc _ k=>∀ a,DSafe (k a)
 | .loadIfAlive _ k=>∀ o,DSafe (k o)
 | .point _ k=>DSafe (k ())
 | .fresh k=>∀ t,DSafe (k t)
 | .ask k=>∀ x,DSafe (k x)
 | .handled _ k=>∀ x,DSafe (k x)
 | .stack k=>∀ x,DSafe (k x)
 | .thread k=>∀ x,DSafe (k x)
 | _=>False
def DKeep (h₀ h:Heap):Prop:=∀ (b:Addr) (o:Obj),h₀.objs[b]?=some o->∃ o':Obj,h.objs[b]?=some o'∧o'.dict=o.dict∧c2 o'=c2 o
theorem DKeep.refl (h:Heap):DKeep h h:=fun _ o e=>⟨o,e,rfl,rfl⟩
theorem DKeep.push {h₀ h:Heap}{x:Obj}(k:DKeep h₀ h):DKeep h₀ (h.push x):=fun b o e=>by
 obtain ⟨o',e',d⟩:=k b o e
 refine ⟨o',?_,d⟩
 have hb:=(Array.getElem?_eq_some_iff.mp e').1
 show (h.objs.push x)[b]?=some o'
 rw [Array.getElem?_push_lt hb,<- e',Array.getElem?_eq_getElem hb]
theorem DKeep.update {h₀ h:Heap}{a:Addr}{f:Obj->Obj}(k:DKeep h₀ h)(hf:∀ o:Obj,(f o).dict=o.dict∧c2 (f o)=c2 o):DKeep h₀ (h.update a f):=fun b o e=>by
 obtain ⟨o',e',d⟩:=k b o e
 show ∃ o':Obj,(h.objs.modify a f)[b]?=some o'∧o'.dict=o.dict∧c2 o'=c2 o
 rw [Array.getElem?_modify,e']
 by_cases hab:a=b
 ·rw [if_pos hab]
  exact ⟨f o',rfl,(hf o').1.trans d.1,(hf o').2.trans d.2⟩
 ·rw [if_neg hab]
  exact ⟨o',rfl,d⟩
theorem DKeep.dict {h₀ h:Heap}{b:Addr}{o o':Obj}(k:DKeep h₀ h)(e:h₀.get? b=some o)(e':h.get? b=some o'):o'.dict=o.dict∧c2 o'=c2 o:=by
 obtain ⟨o1,e1,d⟩:=k b o (Heap.get?_some_iff.mp e).1
 rw [(Heap.get?_some_iff.mp e').1] at e1
 cases e1
 exact d
theorem DSafe.wp {α:Type}{M:Model}{Γ:PySem.Ctx}{m:Sem α}:∀ {Q:α->Pos->Shared->Prop} {E:Value->Pos->Shared->Prop} {p:Pos} {s:Shared} {h₀:Heap},DSafe m->DKeep h₀ s.heap->Sem.wp M Γ m Q E p s->Sem.wp M Γ m (fun a p' s'=>Q a p' s'∧DKeep h₀ s'.heap) E p s:=by
 induction m with
 | pure a=>exact fun _ k h=>⟨h,k⟩
 | raise e=>exact fun _ _ h=>h
 | unsupported w=>exact fun _ _ h=>h
 | finish e=>exact fun _ _ h=>h
 | rule t k ih=>exact fun d kp h=>ih () d kp h
 | «at» p k ih=>exact fun d kp h=>ih () d kp h
 | load a pt k ih=>exact fun d kp ⟨o,h1,h2⟩=>⟨o,h1,ih o (d o) kp h2⟩
 | update a pt f k ih=>exact fun d kp ⟨h1,h2⟩=>⟨h1,ih () d.2 (kp.update d.1) h2⟩
 | alloc o k ih=>exact fun d kp h=>ih _ (d _) kp.push h
 | loadIfAlive a k ih=>exact fun d kp h=>ih _ (d _) kp h
 | point l k ih=>exact fun d kp h=>ih () d kp h
 | fresh k ih=>exact fun d kp h=>ih _ (d _) kp h
 | ask k ih=>exact fun d kp h=>ih _ (d _) kp h
 | handled o k ih=>exact fun d kp h=>ih _ (d _) kp h
 | stack k ih=>exact fun d kp h=>ih _ (d _) kp h
 | thread k ih=>exact fun d kp h=>ih _ (d _) kp h
 | register a k ih=>exact fun d=>d.elim
 | choose a b k ih=>exact fun d=>d.elim
 | os a b k ih=>exact fun d=>d.elim
 | call a b c d k ih=>exact fun d=>d.elim
 | newGen a k ih=>exact fun d=>d.elim
 | genState a k ih=>exact fun d=>d.elim
 | resume a b c k ih=>exact fun d=>d.elim
 | «yield» a b c k ih=>exact fun d=>d.elim
 | fork a k ih=>exact fun d=>d.elim
 | await a b c d k ih=>exact fun d=>d.elim
theorem DSafe.any {α:Type}{M:Model}{A:Around}{m:Sem α}{Q:α->Shared->Prop}{E:Value->Shared->Prop}{s:Shared}(d:DSafe m)(h:wpAny M A m Q E s):wpAny M A m (fun a s'=>Q a s'∧DKeep s.heap s'.heap) E s :=
 fun Γ p hΓ=>d.wp (DKeep.refl _) (h Γ p hΓ)
theorem DSafe.bind {α β:Type}{m:Sem α}:∀ {f:α->Sem β},DSafe m->(∀ a,DSafe (f a))->DSafe (m >>= f):=by
 show ∀ {f:α->Sem β},DSafe m->(∀ a,DSafe (f a))->DSafe (m.bind f)
 induction m with
 | pure a=>exact fun _ h=>h a
 | raise e=>exact fun _ _=>trivial
 | unsupported w=>exact fun _ _=>trivial
 | finish e=>exact fun _ _=>trivial
 | rule t k ih=>exact fun d h=>ih () d h
 | «at» p k ih=>exact fun d h=>ih () d h
 | load a pt k ih=>exact fun d h o=>ih o (d o) h
 | update a pt f k ih=>exact fun d h=>⟨d.1,ih () d.2 h⟩
 | alloc o k ih=>exact fun d h a=>ih a (d a) h
 | loadIfAlive a k ih=>exact fun d h o=>ih o (d o) h
 | point l k ih=>exact fun d h=>ih () d h
 | fresh k ih=>exact fun d h o=>ih o (d o) h
 | ask k ih=>exact fun d h o=>ih o (d o) h
 | handled o k ih=>exact fun d h o=>ih o (d o) h
 | stack k ih=>exact fun d h o=>ih o (d o) h
 | thread k ih=>exact fun d h o=>ih o (d o) h
 | register a k ih=>exact fun d=>d.elim
 | choose a b k ih=>exact fun d=>d.elim
 | os a b k ih=>exact fun d=>d.elim
 | call a b c d k ih=>exact fun d=>d.elim
 | newGen a k ih=>exact fun d=>d.elim
 | genState a k ih=>exact fun d=>d.elim
 | resume a b c k ih=>exact fun d=>d.elim
 | «yield» a b c k ih=>exact fun d=>d.elim
 | fork a k ih=>exact fun d=>d.elim
 | await a b c d k ih=>exact fun d=>d.elim
theorem ds_field (v:Value)(i:Nat):DSafe (field v i):=by
 unfold field fieldsOf
 refine DSafe.bind ?_ fun a=>?_
 ·split
  ·refine DSafe.bind (fun o=>trivial) fun o=>?_
   split <;> trivial
  ·trivial
 ·split <;> trivial
theorem mapF_dict (f:Array Value->Array Value)(o:Obj):(Obj.mapFields f o).dict=o.dict:=by
 unfold Obj.mapFields
 split <;> rfl
theorem mapF_c2 {i:Nat}{x:Value}(hi:i≠2)(o:Obj):c2 (Obj.mapFields (·.setIfInBounds i x) o)=c2 o:=by
 obtain ⟨cl,d,dt,sl⟩:=o
 cases dt with
 | fields vs=>exact Array.getElem?_setIfInBounds_ne hi
 | _=>rfl
theorem ds_setField (v:Value)(i:Nat)(x:Value)(hi:i≠2:=by decide):DSafe (setField v i x):=by
 unfold setField
 split
 ·unfold updateField
  refine DSafe.bind (fun o=>trivial) fun o=>?_
  split
  ·split
   ·exact ⟨fun o=>⟨mapF_dict _ o,mapF_c2 hi o⟩,trivial⟩
   ·trivial
  ·trivial
 ·trivial
theorem ds_setFlight (e:Value)(fr:Option Addr):DSafe (setFlight e fr):=by
 unfold setFlight
 refine DSafe.bind (ds_field _ _) fun tb=>?_
 split
 ·exact ds_setField _ _ _
 ·trivial
theorem ds_stack:DSafe stack:=fun _=>trivial
theorem ds_frameEnvs:DSafe frameEnvs:=by
 unfold frameEnvs
 exact DSafe.bind ds_stack fun _=>trivial
theorem ds_behind (env:Env)(outer:List Env):DSafe (behindIsImport env outer):=by
 unfold behindIsImport
 split
 ·trivial
 ·split
  ·trivial
  ·exact DSafe.bind (ds_field _ _) fun _=>trivial
theorem ds_keptBack (env:Env)(b:Bool):∀ outer,DSafe (keptBack env b outer)
 | []=>by
  show DSafe (if (env.scope.isGenerator||env.scope.isCoroutine)=true then pure Value.none else _)
  split
  ·trivial
  ·exact DSafe.bind (DSafe.bind ds_stack fun _=>trivial) fun _=>trivial
 | _::_=>trivial
theorem ds_ready:∀ l,DSafe (readyFrames l)
 | []=>trivial
 | env::outer=>by
  unfold readyFrames
  split
  ·refine DSafe.bind (fun _=>trivial) fun _=>?_
   split
   ·trivial
   ·exact DSafe.bind (ds_behind _ _) fun _=>DSafe.bind (ds_keptBack _ _ _) fun _=>DSafe.bind (show DSafe (update _ _) from ⟨fun _=>⟨rfl,rfl⟩,trivial⟩) fun _=>ds_ready outer
  ·trivial
theorem ds_frameOf (env:Env):DSafe (PySem.frameOf env):=by
 unfold PySem.frameOf
 refine DSafe.bind ds_frameEnvs fun l=>DSafe.bind ?_ fun o=>?_
 ·unfold frameObject
  split
  ·trivial
  ·exact DSafe.bind (ds_ready _) fun _=>trivial
 ·split <;> trivial
theorem ds_entryPlaceOf (f:Addr)(b:Bool):DSafe (entryPlaceOf f b):=by
 unfold entryPlaceOf
 refine DSafe.bind ds_stack fun l=>?_
 split <;> trivial
theorem ds_newEntry (a b c d e:Value)(l:List Value):DSafe (EntryCells.newEntry a b c d e l):=by
 unfold EntryCells.newEntry newFields newObj
 have h:∀ d:Data,DSafe (newObjAsIs (Value.type "traceback") d):=fun d=>DSafe.bind (fun _=>trivial) fun _=>trivial
 dsimp only
 generalize ([a,b,c,d,e]++if l.isEmpty=true then List.replicate 6 Value.none else l).toArray=vs
 split
 ·trivial
 ·exact h _
theorem ds_noteFrame (e:Value)(env:Env):DSafe (noteFrame e env):=by
 unfold noteFrame
 split
 ·refine DSafe.bind (ds_field _ _) fun hd=>?_
  split
  ·refine DSafe.bind (ds_field _ _) fun x=>?_
   split
   ·trivial
   ·exact DSafe.bind (ds_setField _ _ _) fun _=>DSafe.bind (ds_frameOf _) fun _=>DSafe.bind (ds_entryPlaceOf _ _) fun _=>DSafe.bind (ds_newEntry _ _ _ _ _ _) fun _=>ds_setField _ _ _
  ·exact DSafe.bind (ds_frameOf _) fun _=>DSafe.bind (ds_entryPlaceOf _ _) fun _=>DSafe.bind (ds_newEntry _ _ _ _ _ _) fun _=>ds_setField _ _ _
 ·trivial
theorem ds_leaving (env:Env)(e:Value):DSafe (leaving env e):=by
 unfold leaving
 exact DSafe.bind (ds_noteFrame _ _) fun _=>ds_setFlight _ _
end L2
namespace L2
open PySem PySem.Spec PyProof.Rows
def DictIs (h:Heap)(a:Addr)(od:Option Addr):Prop:=∃ o,h.get? a=some o∧(∀ dx,od=some dx->o.dict=some dx)∧c2 o=some .none
theorem DictIs.keep {h h':Heap}{a:Addr}{od:Option Addr}(d:DictIs h a od)(k:DKeep h h')(t:∃ o,h'.get? a=some o):DictIs h' a od:=by
 obtain ⟨o,e,q,c⟩:=d
 obtain ⟨o',e'⟩:=t
 obtain ⟨h1,h2⟩:=k.dict e e'
 exact ⟨o',e',fun dx z=>h1.trans (q dx z),h2.trans c⟩
theorem DKeep.trans {h h' h'':Heap}(k:DKeep h h')(g:DKeep h' h''):DKeep h h'':=fun b o e=>by
 obtain ⟨o1,e1,d1,r1⟩:=k b o e
 obtain ⟨o2,e2,d2,r2⟩:=g b o1 e1
 exact ⟨o2,e2,d2.trans d1,r2.trans r1⟩
def CX2 (P:Program)(w:World):CXT:=fun outer H s E e s'=>∃ a cls od H',e = .ref a∧Fly P w outer H s a cls H' s'∧DictIs s'.heap a od∧E cls od H'
section
variable {X:Cx}{pins:List (Addr×Obj)}{σ:St}{H H':Hp}{s s':Shared}{a:Addr}{cls:Value}{E:Value->Shared->Prop}
theorem Fly.here {P:Program}{w:World}{outer:List Env}(Y:Fly P w outer H s a cls H' s'):∃ o,s'.heap.get? a=some o:=by
 obtain ⟨B,t,hfl,_⟩:=Y.ex
 obtain ⟨ob,hob,_⟩:=hfl.there
 exact ⟨ob,hob⟩
theorem Fly.on2 {od:Option Addr}(I:Inv X pins σ H s)(O:Own X)(Y:Fly X.prog X.w X.stack H s a cls H' s')(d:DictIs s'.heap a od) :
  wpAny (model X.prog X.w) X.A (leaving X.env (.ref a)) (fun _ s''=>Fly X.prog X.w X.outer X.H₀ X.s₀ a cls H' s''∧DictIs s''.heap a od) E s' :=
 wpAny_mono ((ds_leaving _ _).any (Fly.on I O Y)) (fun _ _ z=>⟨z.1,d.keep z.2 z.1.here⟩) fun _ _ z=>z
theorem Fly.again2 {od:Option Addr}{A:Around}{Q:Unit->Shared->Prop}(I:Inv X pins σ H s)(Y:Fly X.prog X.w X.stack H s a cls H' s')(d:DictIs s'.heap a od)
  (h:∀ h',Fly X.prog X.w X.stack H s a cls H' { s' with heap:=h' }->DictIs h' a od->Q () { s' with heap:=h' }):wpAny (model X.prog X.w) A (setFlight (.ref a) none) Q E s' :=
 wpAny_mono ((ds_setFlight _ _).any (Fly.again (Q:=fun _ s2=>∃ h',s2 = { s' with heap:=h' }∧Fly X.prog X.w X.stack H s a cls H' { s' with heap:=h' }) I Y fun h' Z=>⟨h',rfl,Z⟩))
  (fun _ _ z=>by obtain ⟨⟨h',rfl,Z⟩,k⟩:=z;exact h h' Z (d.keep k Z.here)) fun _ _ z=>z
theorem Fly.look2 {od:Option Addr}{Q:Unit->Shared->Prop}(I:Inv X pins σ H s)(O:Own X)(Y:Fly X.prog X.w X.stack H s a cls H' s')(d:DictIs s'.heap a od)
  (h:∀ h',Fly X.prog X.w X.stack H s a cls H' { s' with heap:=h' }->DictIs h' a od->Q () { s' with heap:=h' }) :
  wpAny (model X.prog X.w) X.A (noteFrame (.ref a) X.env) (fun _ s2=>wpAny (model X.prog X.w) X.A (setFlight (.ref a) none) Q E s2) E s':=by
 have z:=Fly.look (E:=E) (Q:=fun _ s2=>∃ h',s2 = { s' with heap:=h' }∧Fly X.prog X.w X.stack H s a cls H' { s' with heap:=h' }) I O Y fun h' Z=>⟨h',rfl,Z⟩
 refine wpAny_mono ((ds_noteFrame _ _).any z) (fun _ s2 z2=>?_) fun _ _ z=>z
 refine wpAny_mono ((ds_setFlight _ _).any z2.1) (fun _ _ z3=>?_) fun _ _ z=>z
 obtain ⟨⟨h',rfl,Z⟩,k⟩:=z3
 exact h h' Z (d.keep (z2.2.trans k) Z.here)
end
def ExD (a:Addr)(cls:Value)(od:Option Addr):HO:=.ext fun h=>(∃ o,h.get? a=some o∧o.cls=cls∧∃ vs,o.data = .fields vs)∧DictIs h a od
theorem exD_ok {P:Program}{w:World}{H:Hp}{h:Heap}{a:Addr}{cls:Value}{od:Option Addr}(h1:∃ o,h.get? a=some o∧o.cls=cls∧∃ vs,o.data = .fields vs)(h2:DictIs h a od):ObjOk P w H h a (ExD a cls od):=by
 exact ⟨⟨h1,h2⟩,let ⟨o,e,_⟩:=h1;⟨o,e⟩,fun h3 h4 ⟨⟨o,e,c⟩,o',e',q⟩ k=>⟨⟨o,k o e,c⟩,o',k o' e',q⟩⟩
section
variable {X:Cx}{pins:List (Addr×Obj)}{σ:St}{H H':Hp}{s s':Shared}{a:Addr}{cls:Value}
theorem Fly.track2 {od:Option Addr}(I:Inv X pins σ H s)(Y:Fly X.prog X.w X.stack H s a cls H' s')(d:DictIs s'.heap a od):H' a=none∧Inv X pins σ (upd H' a (ExD a cls od)) s':=by
 obtain ⟨na,J⟩:=Y.track I
 refine ⟨na,?_⟩
 have hf:∃ o,s'.heap.get? a=some o∧o.cls=cls∧∃ vs,o.data = .fields vs:=by
  obtain ⟨B,t,hfl,_⟩:=Y.ex
  obtain ⟨oe,vs,h1,h2,h3,_⟩:=hfl.first
  exact ⟨oe,h1,h2,vs,h3⟩
 have hx:ObjOk X.prog X.w (upd H' a (.ext fun h=>∃ o,h.get? a=some o∧o.cls=cls)) s'.heap a (.ext fun h=>∃ o,h.get? a=some o∧o.cls=cls):=J.hok a _ upd_same
 have K:=J.write (x:=a) (e:=a) (o:=ExD a cls od) (t':=s'.toks) (h':=s'.heap) (by rw [upd_same];exact True.intro) (.inl rfl) (fun _ _ _ q=>q) hx.2.1 (exD_ok hf d)
 rw [upd_upd] at K
 exact K
end
section
variable {P:Program}{w:World}{K:PySem.W.Frag}{mg:Str->Option Value}{base:Heap}{N:List Str}{qual:Str}{scope:Scope}{f:Addr}{cdv:Value}{A:Around}{outer:List Env}{s:Shared}{H:Hp}{E:XK}
theorem passX2:Passes (CX2 P w) (cxOf (CX2 P w) P w K mg base N qual scope f cdv A outer s H E) E:=fun pins σ H1 s1 e s' I h=>by
 obtain ⟨a,cls,od,H',rfl,Y,d,q⟩:=h
 exact thn (Fly.on2 I ownX Y d) fun _ s'' Z=>⟨a,cls,od,H',rfl,Z.1,Z.2,q⟩
theorem raiseX2 {C:Addr}{pins:List (Addr×Obj)}{σ:St}{H1:Hp}{s1:Shared}{h:Heap}{a:Addr}{args:List Value}(I:Inv (cxOf (CX2 P w) P w K mg base N qual scope f cdv A outer s H E) pins σ H1 s1)(hx:Heap.MadeExcOf s1.heap h a (.ref C) args)(q:E (.ref C) none H1) :
  (cxOf (CX2 P w) P w K mg base N qual scope f cdv A outer s H E).xe (.ref a) { s1 with heap:=h }:=by
 obtain ⟨t,ht,_⟩:=hx.there
 have d0:DictIs h a none:=⟨_,ht,fun dx z=>(by cases z),rfl⟩
 exact thn ((ds_leaving _ _).any (Fly.raised I ownX hx)) fun _ s'' Z=>⟨a,.ref C,none,H1,rfl,Z.1,d0.keep Z.2 Z.1.here,q⟩
theorem pass2 {X:Cx}:Passes (CX2 P w) X E0:=fun _ _ _ _ _ _ _ h=>by
 obtain ⟨_,_,_,_,_,_,_,q⟩:=h
 exact q.elim
theorem Fun.okX2 {x qual:Str}{st:Stmt}{f:Addr}{fd:FuncData}{N ps:List Str}{k:Nat}{sp:Sp}(F:Fun K x qual st f fd)(S:FnScope N ps (defScope st))(len:∀ vs H Q E,sp vs H Q E->vs.length=ps.length)
  (hbody:∀ (cdv:Value) (A:Around) (outer:List Env) (s:Shared) (H:Hp) (vs:List V) (Q:VK) (E:XK),Room k (A.deeper (envOfC qual (defScope st) s.heap.objs.size f cdv))->sp vs H Q E ->
   ∃ t,PSs (cxOf (CX2 P w) P w K mg base N qual (defScope st) f cdv A outer s H E) (defBody st) t∧t { nx:=fun _ H'=>Q .non H',rt:=Q } (start N vs) H):FnOk P w K mg base (CX2 P w) (k+1) f fd ps sp:=by
 obtain ⟨oc,od,kV,doc,pm,an,cdv,ct,osl,rfl,lk,hcd⟩:=F.ex
 exact fn_of lk hcd S len fun A outer s H vs Q E hr hsp=>hbody cdv A outer s H vs Q E hr hsp
theorem Fun.okN2 {x qual:Str}{st:Stmt}{f:Addr}{fd:FuncData}{N ps:List Str}{k:Nat}{sp:Sp}(F:Fun K x qual st f fd)(S:FnScope N ps (defScope st))(len:∀ vs H Q E,sp vs H Q E->vs.length=ps.length)
  (hbody:∀ (cdv:Value) (A:Around) (outer:List Env) (s:Shared) (H:Hp) (vs:List V) (Q:VK) (E:XK),Room k (A.deeper (envOfC qual (defScope st) s.heap.objs.size f cdv))->sp vs H Q E ->
   ∃ t,PSs (cxOf (CX2 P w) P w K mg base N qual (defScope st) f cdv A outer s H E).nox (defBody st) t∧t { nx:=fun _ H'=>Q .non H',rt:=Q } (start N vs) H):FnOk P w K mg base (CX2 P w) (k+1) f fd ps sp:=by
 obtain ⟨oc,od,kV,doc,pm,an,cdv,ct,osl,rfl,lk,hcd⟩:=F.ex
 refine fn_of lk hcd S len fun A outer s H vs Q E hr hsp=>?_
 obtain ⟨t,h,q⟩:=hbody cdv A outer s H vs Q E hr hsp
 exact ⟨t,h.nox,q⟩
end
def XP2 (X:Cx)(pins:List (Addr×Obj))(R:St->Value->Option Addr->Hp->Prop)(e:Value)(s':Shared):Prop :=
 ∃ a cls od σ' H s1 H',e = .ref a∧Inv X pins σ' H s1∧Fly X.prog X.w X.stack H s1 a cls H' s'∧DictIs s'.heap a od∧R σ' cls od H'
abbrev TTy2:=Ends->(St->Value->Option Addr->Hp->Prop)->St->Hp->Prop
def PTy2 (X:Cx)(st:List Stmt)(t:TTy2):Prop :=
 ∀ (pins:List (Addr×Obj)) (s:Shared) (σ:St) (H:Hp) (D:Ends) (R:St->Value->Option Addr->Hp->Prop),Inv X pins σ H s->t D R σ H->wpAny (model X.prog X.w) X.A (execs st X.env) (SP X pins D) (XP2 X pins R) s
abbrev TH2:=Ends->St->Value->Option Addr->Hp->Prop
def PH2 (X:Cx)(hs:List ExceptHandler)(t:TH2):Prop :=
 ∀ (pins:List (Addr×Obj)) (σ:St) (H:Hp) (s:Shared) (a:Addr) (cls:Value) (od:Option Addr) (H':Hp) (s':Shared) (D:Ends),Inv X pins σ H s->Fly X.prog X.w X.stack H s a cls H' s'->DictIs s'.heap a od->t D σ cls od H' ->
  wpAny (model X.prog X.w) X.A (handleBy (.ref a) X.env hs) (SP X pins D) X.xe s'
section
variable {X:Cx}
def thNone2:TH2:=fun _ _ _ _ _=>False
theorem ph_nil2:PH2 X [] thNone2:=fun _ _ _ _ _ _ _ _ _ _ _ _ _ h=>False.elim h
def tTry2 (tb:TTy2)(th:TH2):TS:=fun D σ H=>tb D (fun σ' cls od H'=>th D σ' cls od H') σ H
theorem ps_try2 {body:List Stmt}{h₀:ExceptHandler}{hs:List ExceptHandler}{pos:Pos}{tb:TTy2}{th:TH2}(O:Own X)(hb:PTy2 X body tb)(hh:PH2 X (h₀::hs) th):PS X (.Try body (h₀::hs) [] [] pos) (tTry2 tb th):=by
 intro pins s σ H D I q
 refine wpAny_Try_except (wpAny_mono (hb pins s σ H D _ I q) (fun f s1 z=>?_) fun e s1 z=>?_)
 ·cases f with
  | next=>exact wpAny_execs_nil z
  | ret v=>exact z
  | brk=>exact z
  | cont=>exact z
 ·obtain ⟨a,cls,od,σ',H1,s2,H',rfl,I2,Y,d,q2⟩:=z
  exact Y.look2 I2 O d fun h' Y' d'=>hh pins σ' H1 s2 a cls od H' _ D I2 Y' d' q2
end
end L2
namespace L2
open PySem PySem.Spec PyProof.Rows
def exHeap (h:Heap)(Cl:Addr)(us:List Value):Heap :=
 (h.push { cls:=.type "tuple",data:=.seq us.toArray }).push { cls:=.ref Cl,data:=.fields #[.ref h.objs.size,.none,.none,.none,.bool false,.none] }
theorem exHeap_keep {h:Heap}{Cl:Addr}{us:List Value}{b:Addr}{o:Obj}(e:h.get? b=some o):(exHeap h Cl us).get? b=some o:=Heap.get?_push_of_some _ (Heap.get?_push_of_some _ e)
theorem exHeap_at (h:Heap)(Cl:Addr)(us:List Value):(exHeap h Cl us).get? (h.objs.size+1)=some { cls:=.ref Cl,data:=.fields #[.ref h.objs.size,.none,.none,.none,.bool false,.none] }:=by
 unfold exHeap
 heap_get
section
variable {prog:Program}{w:World}{A:Around}{E:Value->Shared->Prop}{h:Heap}{g:Array GenState}{d:Drawn}{t:Nat}{os:OsState}
variable {nm q:Str}{Cl Ns:Addr}{bs tl:List Value}{hdct:Bool}{sn:List Str}{sub:List Value}{ab:Bool}{col:Option Bool}{dd:Option Addr}{k0 k1 k2 k3 k5:Option Value}
theorem exI_type {mN:Str->Option Value}{us:List Value}{fI:Addr}{oI:Obj}{Q:Fin->Shared->Prop}(T:OwnTail h bmVE tl)
  (c0:h.get? Cl=some (excClassObj nm q Cl Ns bs tl hdct sn sub ab col dd k0 k1 k2 k3 k5 "ValueError.__new__")) (n0:h.Ns Ns mN) (i0:mN "__init__" = some (.ref fI))
  (f0:h.get? fI=some oI) (f1:oI.cls = .type "function") (hl:us.length<=sizeLine)
  (hq:wpAny (model prog w) A (call (.ref fI) (.ref (h.objs.size+1)::us)) (fun r s'=>r = .none∧Q (.done (.ret (.ref (h.objs.size+1)))) s') E ⟨exHeap h Cl us,g,d,t,os⟩) :
  wpAny (model prog w) A (Builtin.«type.__call__» ⟨.ref Cl::us,[]⟩) Q E ⟨h,g,d,t,os⟩:=by
 have F:=PySem.F.excBase_ValueError
 repeat (first | with_reducible refine wpAny_loadPart_at c0 ?_ | with_reducible refine wpAny_madeBy_exc c0 ?_ | wp_step)
 refine codeAny_call_builtin_code (Code.quiet_builtin _ F.quiet) (wpAny_check_new_subT F T c0 ?_)
 refine codeAny_exc_new_subT F T c0 ?_ hl
 show wpAny (model prog w) A _ _ _ ⟨exHeap h Cl us,g,d,t,os⟩
 have c1:(exHeap h Cl us).get? Cl=some _:=exHeap_keep c0
 have f2:(exHeap h Cl us).get? fI=some oI:=exHeap_keep f0
 have n1:(exHeap h Cl us).Ns Ns mN:=n0.keeps fun _ _=>exHeap_keep
 have T1:=T.keeps (h':=exHeap h Cl us) fun _ _=>exHeap_keep
 have e1:=exHeap_at h Cl us
 have m1:(Value.ref Cl::tl).contains (.ref Cl)=true:=by simp
 unfold isInstance
 repeat (first | with_reducible refine wpAny_loadPart_at e1 ?_ | (with_reducible refine wpAny_isSubtype_exc c1 ?_;rw [m1]) | wp_step)
 show wpAny _ _ (typeLookup (.ref Cl) _) _ _ _
 refine wpAny_typeLookup_tail c1 n1 T1 F.mroIs F.init.lookup ?_
 rw [i0]
 refine wpAny_holding (wpAny_bind ?_)
 unfold bindSpecial
 refine wpAny_bind (wpAny_typeOf (T := "function") ⟨_,f2,f1⟩ ?_)
 rw [if_pos (by decide)]
 refine wpAny_pure (wpAny_bind (wpAny_mono hq (fun r s' hr=>?_) fun _ _ x=>x))
 obtain ⟨rfl,z⟩:=hr
 wp_walk
 exact z
theorem exI_call {mN:Str->Option Value}{us:List Value}{fI:Addr}{oI:Obj}{Q:Value->Shared->Prop}(T:OwnTail h bmVE tl)
  (c0:h.get? Cl=some (excClassObj nm q Cl Ns bs tl hdct sn sub ab col dd k0 k1 k2 k3 k5 "ValueError.__new__")) (n0:h.Ns Ns mN) (i0:mN "__init__" = some (.ref fI))
  (f0:h.get? fI=some oI) (f1:oI.cls = .type "function") (hl:us.length<=sizeLine)
  (hq:wpAny (model prog w) (A.under (.builtin "type.__call__" ⟨.ref Cl::us,[]⟩)) (call (.ref fI) (.ref (h.objs.size+1)::us)) (fun r s'=>r = .none∧Q (.ref (h.objs.size+1)) s') E ⟨exHeap h Cl us,g,d,t,os⟩) :
  wpAny (model prog w) A (call (.ref Cl) us) Q E ⟨h,g,d,t,os⟩:=by
 have l1:=tc_lookup
 have l2:=tc_bind (.ref Cl)
 have l3:(⟨h,g,d,t,os⟩:Shared).TypeIs (.ref Cl) "type" := ⟨_,c0,rfl⟩
 refine wpAny_call (codeAny_of_tree ?_)
 show wpAny _ _ (callAny (.ref Cl) _) _ _ _
 repeat (any_goals (first | assumption | with_reducible refine wpAny_loadPart_at c0 ?_ | wp_step))
 refine ⟨rfl,?_⟩
 refine codeAny_call_builtin_at (Code.quiet_builtin _ (by decide +kernel)) entry_typeCall (wpAny_check_type_call_sub c0 (exI_type T c0 n0 i0 f0 f1 hl ?_))
 exact hq
end
section
variable {M:Model}{A:Around}{E:Value->Shared->Prop}{s:Shared}{env:Env}
variable {nm q:Str}{Cl Ns:Addr}{bs tl:List Value}{hdct:Bool}{sn:List Str}{sub:List Value}{ab:Bool}{col:Option Bool}{dd:Option Addr}{k0 k1 k2 k3 k5:Option Value}{ni:String}
theorem exI_raise {x:Sem Value}{Q:Flow->Shared->Prop}(hb:tl.contains (.type "BaseException")=true)(hh:A.handled=none)
  (h:wpAny M A x (fun v s₁=>∃ e oe vs,v = .ref e∧s₁.heap.get? Cl=some (excClassObj nm q Cl Ns bs tl hdct sn sub ab col dd k0 k1 k2 k3 k5 ni)∧s₁.heap.get? e=some oe∧oe.cls = .ref Cl∧oe.data = .fields vs∧vs[1]?=some .none∧E (.ref e) s₁) E s) :
  wpAny M A (raiseStmt env (some x) none) Q E s:=by
 have m1:(Value.ref Cl::tl).contains (.type "BaseException")=true:=by rw [List.contains_cons,hb,Bool.or_true]
 unfold raiseStmt
 refine wpAny_bind (wpAny_mono h (fun v s₁ z=>?_) fun _ _ x=>x)
 obtain ⟨e,oe,vs,rfl,c1,e1,ec,en,ev,hE⟩:=z
 obtain ⟨hp,g,d,tk,os⟩:=s₁
 obtain ⟨oc,odi,oda,osl⟩:=oe
 dsimp only at ec en
 subst ec en
 repeat (first | with_reducible refine wpAny_loadPart_at e1 ?_ | with_reducible refine wpAny_loadPart_at c1 ?_ | (with_reducible refine wpAny_isSubtype_exc c1 ?_;rw [m1]) | wp_step)
 rw [ev]
 refine wpAny_pure ?_
 rw [if_neg (by decide)]
 exact wpAny_pure (wpAny_raiseNew_none hh hE)
end
end L2
namespace L2
open PySem PySem.Spec PyProof.Rows
def excIIn (K:PySem.W.Frag)(C f:Addr):Bool:=match K.lookup C with
 | some ⟨.type "type",_,.cls cd,sl⟩=>(match cd.mro,sl.toList with
  | .ref C2::tl,[_,_,_,_,some (.builtin n),_]=>C2==C&&n == "ValueError.__new__" && cd.hasDict && !cd.hasDel&&PySem.W.tailIn K bmVE tl&&PySem.W.nsOkIn K cd.ns&&PySem.W.nsIn K cd.ns "__init__" == some (some (.ref f))
  | _,_=>false)
 | _=>false
set_option genInjectivity false in
structure ExcI (K:PySem.W.Frag)(C f:Addr):Prop where
 is:excIIn K C f=true
 fn:PySem.W.isFn K (.ref f)=true
 sa:PySem.W.findIn K (.ref C) "__setattr__" = some (some (.builtin "object.__setattr__"))
set_option genInjectivity false in
structure ClsAt (h:Heap)(C f:Addr):Prop where
 ex:∃ (nm q:Str) (Ns:Addr) (bs tl:List Value) (sn:List Str) (sub:List Value) (ab:Bool) (col:Option Bool) (dd:Option Addr) (k0 k1 k2 k3 k5:Option Value) (mN:Str->Option Value) (oI:Obj),
  h.get? C=some (excClassObj nm q C Ns bs tl true sn sub ab col dd k0 k1 k2 k3 k5 "ValueError.__new__")∧h.Ns Ns mN∧mN "__init__" = some (.ref f)∧OwnTail h bmVE tl∧h.get? f=some oI∧oI.cls = .type "function"
theorem ns_some_of {K:PySem.W.Frag}{h:Heap}{N:Addr}{x:Str}{v:Value}(X:K.In h)(q:PySem.W.nsIn K N x=some (some v))(e:PySem.W.nsOkIn K N=true):h.nsMap N x=some v:=by
 have hn:h.Ns N (h.nsMap N):=.of_isNs (PySem.W.isNs_of_in X e)
 obtain ⟨o,es,ep,ho,hd,_,hm⟩:=hn
 unfold PySem.W.nsIn at q
 split at q
 ·rename_i c d es2 ep2 sl hk
  have ho2:=X _ _ hk
  rw [ho] at ho2
  cases ho2
  cases hd
  rw [<- hm x]
  unfold nsFind findBy
  rw [<- Array.find?_toList]
  split at q
  ·rename_i en he
   rw [he]
   exact Option.some.inj q
  ·split at q <;> cases q
 ·cases q
theorem ExcI.cls {K:PySem.W.Frag}{C f:Addr}{h:Heap}(c:ExcI K C f)(X:K.In h):ClsAt h C f:=by
 have hf:∃ oI,h.get? f=some oI∧oI.cls = .type "function" := by
  have z:PySem.W.typeIn K (.ref f)=some (.type "function"):=beq_iff_eq.mp c.fn
  unfold PySem.W.typeIn at z
  obtain ⟨o,ho,hc⟩:=Option.map_eq_some_iff.mp z
  exact ⟨o,X _ _ ho,hc⟩
 obtain ⟨oI,f0,f1⟩:=hf
 have q:=c.is
 unfold excIIn at q
 split at q
 ·rename_i dd cd sl ho
  split at q
  ·rename_i C2 tl k0 k1 k2 k3 n k5 hm hs
   simp only [beq_iff_eq,Bool.not_eq_true',Bool.and_eq_true] at q
   obtain ⟨⟨⟨⟨⟨⟨g1,g2⟩,gd⟩,g3⟩,g4⟩,g5⟩,g6⟩:=q
   subst g1 g2
   obtain ⟨nm,bs,mro,ns,qn,hd,sn,sub,ab,col,del⟩:=cd
   have hsl:sl = #[k0,k1,k2,k3,some (.builtin "ValueError.__new__"),k5]:=by
    cases sl with
    | mk l =>
     have hs2:l=_:=hs
     rw [hs2]
   have hm2:mro=_:=hm
   have g32:del=false:=g3
   have gd2:hd=true:=gd
   subst hsl hm2 g32 gd2
   exact ⟨nm,qn,ns,bs,tl,sn,sub,ab,col,dd,k0,k1,k2,k3,k5,h.nsMap ns,oI,X _ _ ho,.of_isNs (PySem.W.isNs_of_in X g5),ns_some_of X g6 g5,PySem.W.tail_of_in X g4,f0,f1⟩
  ·cases q
 ·cases q
def ExB (a C:Addr)(od:Option Addr):HO:=.ext fun h=>∃ x0:Addr,h.get? a=some { cls:=.ref C,dict:=od,data:=.fields #[.ref x0,.none,.none,.none,.bool false,.none] }
theorem exB_ok {P:Program}{w:World}{H:Hp}{h:Heap}{a C:Addr}{od:Option Addr}{x0:Addr}(e:h.get? a=some { cls:=.ref C,dict:=od,data:=.fields #[.ref x0,.none,.none,.none,.bool false,.none] }):ObjOk P w H h a (ExB a C od) :=
 ⟨⟨x0,e⟩,⟨_,e⟩,fun _ _ ⟨x,q⟩ k=>⟨x,k _ q⟩⟩
theorem refuse_tail {h:Heap}{tl:List Value}(self:Value)(T:OwnTail h bmVE tl):refuseLoop self "__setattr__" tl=pure ():=by
 induction T with
 | base=>exact PySem.F.store_ValueError.passes self
 | own _ _ _ _ ih=>rw [refuseLoop_ref];exact ih
end L2
namespace L2
open PySem PySem.Spec PyProof.Rows
set_option genInjectivity false in
structure BaseI (K:PySem.W.Frag)(mg:Str->Option Value)(x:Str)(O:Addr):Prop where
 mg:mg x=some (.ref O)
 ga:PySem.W.specialIn K (.ref O) "__getattribute__" = some (some (.builtin "type.__getattribute__"))
 rd:PySem.W.readsIn K O (.type "type")=true
 fc:PySem.W.findCls K (.ref O) (.type "type") "__init__" = some (.val (.builtin "ValueError.__init__"))
section
variable {X:Cx}
theorem init_run {A:Around}{prog:Program}{w:World}{E:Value->Shared->Prop}{C f a:Addr}{x0:Addr}{u:Value}{s:Shared}{Q:Value->Shared->Prop}(T:ClsAt s.heap C f)
  (e0:s.heap.get? a=some { cls:=.ref C,data:=.fields #[.ref x0,.none,.none,.none,.bool false,.none] })
  (hq:∀ h' x1,h'.get? a=some { cls:=.ref C,data:=.fields #[.ref x1,.none,.none,.none,.bool false,.none] }->(∀ b o,b≠a->s.heap.get? b=some o->h'.get? b=some o)->Q .none { s with heap:=h' }) :
  wpAny (model prog w) A (call (.builtin "ValueError.__init__") [.ref a,u]) Q E s:=by
 have F:=PySem.F.excBase_ValueError
 obtain ⟨nm,q,Ns,bs,tl,sn,sub,ab,col,dd,k0,k1,k2,k3,k5,mN,oI,c0,n0,i0,T0,f0,f1⟩:=T.ex
 obtain ⟨h,g,d,t,os⟩:=s
 refine wpAny_call (codeAny_call_builtin F.init.plain F.initEntry (wpAny_check_init_subT F T0 c0 e0 rfl ?_))
 wp_walk
 have hne:h.objs.size≠a:=Nat.ne_of_gt (Heap.lt_size e0)
 refine hq _ h.objs.size ?_ fun b o hb e=>?_
 ·rw [Heap.get?_update_self _ (Heap.get?_push_of_some _ e0) rfl]
  rfl
 ·rw [Heap.get?_update_other _ _ (Ne.symm hb)]
  exact Heap.get?_push_of_some _ e
def tInit0 (C:Addr)(t:TA):TE:=fun σ H Q=>t σ H fun vs H1=>∃ a v,vs=[.ref a,v]∧H1 a=some (ExB a C none)∧Q .non (upd H1 a (ExB a C none))
theorem pe_init0 {pl:Sem Bool}{x:Str}{O C f:Addr}{e:Expr}{es:List Expr}{t:TA}{p1 p2 p3:Pos}(b:BaseI X.K X.mg x O)(c:ExcI X.K C f)(ha:PA X (e::es) t)(hg:Gl X x:=by rfl)(hd:(x==("__debug__" : Str))=false:=by decide)
  (hst:starEach (e::es) X.env=(false,eval e X.env)::starEach es X.env:=by rfl) (hpl:(backTo p3 (starEach es X.env)).any (·.1)=false:=by rfl)
  (ht:eval (.Call (.Attribute (.Name x p1) "__init__" p2) (e::es) [] p3) X.env=(do
   let ov <- eval (.Name x p1) X.env
   standAt p2.atName
   let (f,first) <- holding [ov] (getMethod ov "__init__" pl)
   callWith p3 f first (backTo p3 (starEach (e::es) X.env)) (backToKw p3 (keywordEach [] X.env))):=by rfl) :
  PE X (.Call (.Attribute (.Name x p1) "__init__" p2) (e::es) [] p3) (tInit0 C t):=by
 intro pins s σ H Q I h
 refine PySem.W.methodCall_KW (pl:=pl) (ld_glob I hg b.mg ?_ hd) ht
 refine PySem.W.method_cls I.kIn b.ga (PySem.W.cls_value I.kIn b.rd b.fc rfl ?_)
 have I1:=I.tok (s.toks+1)
 have hA:=ha p3 pins _ σ H _ I1 h
 rw [hst] at hA ⊢
 refine Calls.callWith_builtin (by show (false||(backTo p3 (starEach es X.env)).any (·.1))=false;rw [hpl];rfl) (Calls.evalArgs_plain ?_)
 refine thn hA fun us s2 ⟨vs,H2,I2,r2,a,v,hv,hx,q2⟩=>?_
 subst hv
 obtain ⟨⟨x0,e0⟩,_,_⟩:=I2.hok a _ hx
 obtain ⟨u1,us1,rfl,hu1,r3⟩:∃ u1 us1,us=u1::us1∧RelV (.ref a) u1∧Vals [v] us1:=by
  cases r2 with
  | cons h1 h2=>exact ⟨_,_,rfl,h1,h2⟩
 obtain ⟨u2,rfl⟩:∃ u2,us1=[u2]:=by
  cases r3 with
  | cons h1 h2=>cases h2;exact ⟨_,rfl⟩
 obtain rfl:u1=Value.ref a:=hu1
 refine init_run (c.cls I2.kIn) e0 fun h' x1 e1 k=>?_
 exact ⟨.non,_,I2.write (x:=a) (e:=a) (o:=ExB a C none) (t':=s2.toks) (by rw [hx];exact True.intro) (.inl rfl) k ⟨_,e1⟩ (exB_ok e1),rfl,q2⟩
end
end L2
namespace L2
open PySem PySem.Spec PyProof.Rows PySem.Builtin PySem.Builtin.ObjectAttr
section
variable {prog:Program}{w:World}{A:Around}{E:Value->Shared->Prop}{K:PySem.W.Frag}{C f a x0:Addr}{F:Str}{v:Value}{s:Shared}
theorem exset_run {Q:Unit->Shared->Prop}(X:K.In s.heap)(c:ExcI K C f)(n:NoAttr K C F)
  (e0:s.heap.get? a=some { cls:=.ref C,data:=.fields #[.ref x0,.none,.none,.none,.bool false,.none] })
  (hq:∀ h' tk',h'.get? a=some { cls:=.ref C,dict:=some s.heap.objs.size,data:=.fields #[.ref x0,.none,.none,.none,.bool false,.none] }->h'.Ns1 s.heap.objs.size (fun y=>if y=F then some v else none) ->
   (∀ b o,b≠a->s.heap.get? b=some o->h'.get? b=some o)->Q () { s with heap:=h',toks:=tk' }) :
  wpAny (model prog w) A (setAttr (.ref a) F v) Q E s:=by
 obtain ⟨nm,q,Ns,bs,tl,sn,sub,ab,col,dd,k0,k1,k2,k3,k5,mN,oI,c0,n0,i0,T0,f0,f1⟩:=(c.cls X).ex
 have J:PySem.W.InstAt s.heap a { cls:=.ref C,data:=.fields #[.ref x0,.none,.none,.none,.bool false,.none] } C none:=⟨e0,rfl,rfl,trivial⟩
 have SF:=PySem.F.store_object
 have m1:(Value.ref C::tl).contains (.type "object")=true:=by rw [List.contains_cons,T0.hasType (X := "object") (b:=true) (by decide +kernel),Bool.or_true]
 refine PySem.W.set_plain X J c.sa ?_
 have sb:PySem.W.Looks (model prog w) s.heap (isInstance (.ref a) (.type "object")) true:=J.type.andThen fun A' Q' E' s' k z=>by
  obtain ⟨h1,g1,d1,t1,o1⟩:=s'
  exact wpAny_isSubtype_exc (k _ _ c0) (by rw [m1];exact z)
 have mo:PySem.W.Looks (model prog w) s.heap (mroOf (.ref C)) (.ref C::tl):=fun A' Q' E' s' k z=>by
  obtain ⟨h1,g1,d1,t1,o1⟩:=s'
  exact wpAny_mroOf_exc (k _ _ c0) z
 refine codeAny_call_builtin SF.slot.plain SF.entry (@PySem.W.check_slot (model prog w) _ _ { s with toks:=s.toks+1 } "object.__setattr__" "object" "__setattr__" (.ref a) [.str F s.toks,v] [] _ SF.kind SF.split sb (SF.args (.ref a) (.str F s.toks) v) ?_)
 rw [PySem.W.osa_eq,refuse_eq]
 refine wpAny_bind (wpAny_bind (J.type.here (s:={ s with toks:=s.toks+1 }) (wpAny_bind (mo.here (s:={ s with toks:=s.toks+1 }) ?_))))
 rw [refuseLoop_ref,refuse_tail _ T0]
 refine wpAny_pure (wpAny_bind (J.type.here (s:={ s with toks:=s.toks+1 }) (wpAny_bind ((PySem.W.looks_findIn (M:=model prog w) X n).here (s:={ s with toks:=s.toks+1 }) (wpAny_bind (wpAny_pure ?_))))))
 show wpAny (model prog w) A.in1 (storeInOwnDict (.ref a) (.ref C) (.str F s.toks) F v false) _ _ _
 obtain ⟨h,g,d,t,os⟩:=s
 have hc:h.get? C=some (excClassObj nm q C Ns bs tl true sn sub ab col dd k0 k1 k2 k3 k5 "ValueError.__new__"):=c0
 have he:h.get? a=some { cls:=.ref C,data:=.fields #[.ref x0,.none,.none,.none,.bool false,.none] }:=e0
 have ha:a≠h.objs.size:=Nat.ne_of_lt (Heap.lt_size he)
 have he1:(h.push { cls:=.type "dict",data:=.dict #[] }).get? a=some { cls:=.ref C,data:=.fields #[.ref x0,.none,.none,.none,.bool false,.none] }:=Heap.get?_push_of_some _ he
 unfold storeInOwnDict
 refine wpAny_bind (wpAny_pure ?_)
 show wpAny (model prog w) A.in1 (instanceDict a true >>= _) _ _ _
 unfold instanceDict
 refine wpAny_bind (wpAny_bind (wpAny_loadPart_at he ?_))
 refine wpAny_bind ?_
 unfold classData
 refine wpAny_bind (wpAny_load hc (wpAny_pure ?_))
 refine wpAny_bind (wpAny_alloc' ?_)
 refine wpAny_bind (wpAny_update' he1 ?_)
 refine wpAny_pure ?_
 have g0:((h.push { cls:=.type "dict",data:=.dict #[] }).update a fun o=>{ cls:=o.cls,dict:=some h.objs.size,data:=o.data,slots:=o.slots }).get? h.objs.size=some { cls:=.type "dict",data:=.dict #[] } :=
  (Heap.get?_update_ne _ _ _ _ ha.symm).trans (Heap.get?_push_at rfl rfl)
 have g1:((h.push { cls:=.type "dict",data:=.dict #[] }).update a fun o=>{ cls:=o.cls,dict:=some h.objs.size,data:=o.data,slots:=o.slots }).Ns h.objs.size (fun _=>none):=⟨_,#[],_,g0,rfl,fun e z=>absurd z (by simp),fun _=>rfl⟩
 show wpAny (model prog w) A.in1 (storeInDict h.objs.size (.str F t) F v) _ _ _
 unfold storeInDict newKeyGuard
 refine wpAny_bind (wpAny_pure (wpAny_bind (wpAny_nsSet1 (Heap.Ns1.of_empty g1) fun h' hn' hs'=>?_)))
 obtain ⟨oD,esD,epD,o1,o2,o3⟩:=hn'.count (Within.cons F v Within.nil)
 refine wpAny_bind (wpAny_lookBehind o1 (by rw [o2];exact pastItsLine_dict (Nat.le_trans o3 (by rw [List.length_cons,List.length_nil,sizeLine_eq];omega))) ?_)
 wp_walk
 refine hq h' _ ?_ hn' fun b o hb e=>?_
 ·refine (hs'.2 a ha).trans (Heap.get?_update_self _ he1 rfl)
 ·exact (hs'.2 b (Nat.ne_of_lt (Heap.lt_size e))).trans ((Heap.get?_update_ne _ _ _ _ hb).trans (Heap.get?_push_of_some _ e))
end
section
variable {X:Cx}
def tExSet (C:Addr)(F:Str)(ta tv:TE):TS:=fun D σ H=>tv σ H fun y H1=>ta σ H1 fun x H2=>∃ a,x = .ref a∧H2 a=some (ExB a C none)∧∀ dx,H2 dx=none->D.nx σ (upd (upd H2 dx (.xd [(F,y)])) a (ExB a C (some dx)))
theorem ps_exset {C f:Addr}{F:Str}{o value:Expr}{ta tv:TE}{pos pos':Pos}(c:ExcI X.K C f)(n:NoAttr X.K C F)(ha:PE X o ta)(hv:PE X value tv)(hs:swapsWith value (some (.Attribute o F pos')) pos.line X.env=pure false:=by rfl):PS X (.Assign [.Attribute o F pos'] value pos) (tExSet C F ta tv):=by
 intro pins s σ H D I h
 refine plainObj_wpAny_Assign_Attribute (thn (hv pins s σ H _ I h) fun u s1 ⟨y,H1,I1,ry,q⟩=>thn (ha pins s1 σ H1 _ I1 q) fun ov s2 ⟨x,H2,I2,rx,a,ex,ea,q2⟩=>?_) hs
 subst ex
 obtain rfl:ov=Value.ref a:=rx
 obtain ⟨⟨x0,e0⟩,_,_⟩:=I2.hok a _ ea
 refine exset_run I2.kIn c n e0 fun h' tk' e1 hn k=>?_
 have hfr:H2 s2.heap.objs.size=none:=I2.hok.fresh (Nat.le_refl _)
 obtain ⟨oD,es,ep,hoD,r⟩:=id hn
 have ne:a≠s2.heap.objs.size:=Nat.ne_of_lt (Heap.lt_size e0)
 have hfree:oD.isFreed=false:=(Heap.get?_some_iff.mp hoD).2
 have hp:(s2.heap.push oD).get? s2.heap.objs.size=some oD:=Heap.get?_push_size s2.heap hfree
 have J:=I2.laid (a:=s2.heap.objs.size) (o:=.xd [(F,y)]) (h':=s2.heap.push oD) (t':=tk') (fun b u z=>Heap.get?_push_of_some _ z) (Nat.le_refl _) ⟨_,⟨oD,es,ep,hp,r⟩,fun g=>?_⟩
 ·have J2:=J.write (x:=a) (e:=a) (o:=ExB a C (some s2.heap.objs.size)) (t':=tk') (h':=h') (by rw [upd_ne ne,ea];exact True.intro) (.inl rfl) (fun b o hb z=>?_) ⟨_,e1⟩ (exB_ok e1)
  ·exact ⟨σ,_,J2,q2 _ hfr⟩
  ·by_cases hbs:b=s2.heap.objs.size
   ·subst hbs
    rw [hp] at z
    cases z
    exact hoD
   ·refine k b o hb ?_
    rw [<- z]
    exact (Heap.get?_push_ne _ _ _ hbs).symm
 ·show RelO (List.lookup g [(F,y)]) (if g=F then some u else none)
  by_cases hg:g=F
  ·have hb:(g==F)=true:=beq_iff_eq.mpr hg
   simp only [List.lookup,hb,if_pos hg]
   exact ry
  ·have hb:(g==F)=false:=beq_eq_false_iff_ne.mpr hg
   simp only [List.lookup,hb,if_neg hg]
   trivial
end
end L2
namespace L2
open PySem PySem.Spec PyProof.Rows
section
variable {X:Cx}{pins:List (Addr×Obj)}{σ:St}{H:Hp}{s:Shared}{a C x0:Addr}{E:Value->Shared->Prop}{od:Option Addr}
theorem Fly.raisedI (I:Inv X pins σ H s)(O:Own X)(na:H a=none)(new:X.s₀.heap.objs.size<=a)
  (e0:s.heap.get? a=some { cls:=.ref C,dict:=od,data:=.fields #[.ref x0,.none,.none,.none,.bool false,.none] }) :
  wpAny (model X.prog X.w) X.A (leaving X.env (.ref a)) (fun _ s''=>Fly X.prog X.w X.outer X.H₀ X.s₀ a (.ref C) H s''∧DictIs s''.heap a od) E s:=by
 have d0:DictIs s.heap a od:=⟨_,e0,fun dx z=>z,rfl⟩
 suffices hw:wpAny (model X.prog X.w) X.A (leaving X.env (.ref a)) (fun _ s''=>Fly X.prog X.w X.outer X.H₀ X.s₀ a (.ref C) H s'') E s from
  wpAny_mono ((ds_leaving _ _).any hw) (fun _ _ z=>⟨z.1,d0.keep z.2 z.1.here⟩) fun _ _ z=>z
 have hst:=I.stack
 have hin:∀ env∈X.stack,∀ b,env.frame=some b->b∈a::L2.frs X.stack:=fun env he b hb=>List.mem_cons_of_mem _ (List.mem_filterMap.mpr ⟨env,he,hb⟩)
 have hl:=PySem.W.funFrames_hide hst hin
 have hfr:=I.ok.frames
 rw [O.stk] at hl hfr
 have noEx:∀ b,b∉X.ex:=fun b z=>by
  rw [O.ex] at z
  cases z
 have old:∀ b o,X.s₀.heap.get? b=some o->b≠a:=fun b o e=>Nat.ne_of_lt (Nat.lt_of_lt_of_le (Heap.lt_size e) new)
 have hokB:HOk X.prog X.w H (PySem.W.hideAll s.heap (a::L2.frs X.stack)):=fun b u e =>
  (I.hok b u e).stay (fun c v hc q=>PySem.W.hideAll_get _ q fun hm=>by
   rcases List.mem_cons.mp hm with rfl | hm
   ·rcases hc with z | z
    ·rw [z,e] at na
     cases na
    ·rw [z] at na
     cases na
   ·have n:=I.stkFree c hm
    rcases hc with z | z
    ·rw [z,e] at n
     cases n
    ·rw [z] at n
     cases n) (fun _ q=>q) fun _ _ q=>q
 rw [O.stk] at hokB
 have notIn:∀ b o,X.s₀.heap.get? b=some o->b∉L2.frs X.outer->b∉a::L2.frs (X.env::X.outer):=fun b o e nb z=>by
  rcases List.mem_cons.mp z with z | z
  ·exact old b o e z
  ·rw [<- O.stk] at z
   rcases O.frs.mp z with q | q
   ·exact I.oldNe e q
   ·exact nb q
 refine PySem.wpAny_leaving_firstW (a0:=.ref x0) hfr hl O.fr e0 (fun b o q=>PySem.W.of_hideAll _ q) (PySem.W.hideAll_none _ (List.mem_cons_self ..)) rfl rfl rfl fun h' hL=>?_
 obtain ⟨k1,⟨_,_,k2⟩,k3,k4⟩:=hL
 refine ⟨I.os,I.bare,⟨_,x0,⟨k1,PySem.W.hideAll_none _ (List.mem_cons_self ..),k2,k3⟩,hokB,fun b o e n nb=>?_,fun b o e nb=>?_⟩,fun b o e n hb=>?_,fun b o e n=>I.base.free b o e n (noEx b),I.base.tups,I.base.frzs,I.base.tbls⟩
 ·exact PySem.W.hideAll_get _ (I.base.keep b o e n nb (noEx b)) (notIn b o e nb)
 ·obtain ⟨o',e'⟩:=I.base.there b o e (noEx b)
  exact ⟨o',PySem.W.hideAll_get _ e' (notIn b o e nb)⟩
 ·obtain ⟨sl,e1⟩:=I.base.slot b o e n hb (noEx b)
  obtain ⟨_,o2,e2,hd⟩:=I.funs.mem hb
  rw [e1] at e2
  cases e2
  obtain ⟨sl2,e3⟩:=k4 b _ e1 hd
  exact ⟨sl2,e3⟩
def drp (H:Hp)(a:Addr):Hp:=fun b=>if b=a then none else H b
theorem Inv.drp (I:Inv X pins σ H s)(new:X.s₀.heap.objs.size<=a)(ho:H a=some (ExB a C od)):Inv X pins σ (L2.drp H a) s:=by
 have old:∀ b o,X.s₀.heap.get? b=some o->b≠a:=fun b o e=>Nat.ne_of_lt (Nat.lt_of_lt_of_le (Heap.lt_size e) new)
 have ne:∀ {b},b≠a->L2.drp H a b=H b:=fun hb=>if_neg hb
 have nn:∀ {b},H b=none->L2.drp H a b=none:=fun {b} hb=>by
  unfold L2.drp
  split
  ·rfl
  ·exact hb
 refine ⟨I.ok,I.os,I.bare,⟨I.base.keep,I.base.slot,fun b o e n hx=>nn (I.base.free b o e n hx),I.base.there,fun b xs q=>?_,fun b o u q=>?_,fun b ps q=>?_⟩,I.loc,I.cell,nn I.free,fun x c e=>nn (I.freeC x c e),fun p hp=>?_,fun b u q=>?_,I.len⟩
 ·have z:=I.base.tups b xs q
  rw [ne (fun e=>by rw [e,ho] at z;cases z)]
  exact z
 ·have z:=I.base.frzs b o u q
  rw [ne (fun e=>by rw [e,ho] at z;cases z)]
  exact z
 ·obtain ⟨m,z⟩:=I.base.tbls b ps q
  exact ⟨m,by rw [ne (fun e=>by rw [e,ho] at z;cases z)];exact z⟩
 ·obtain ⟨e,n,r⟩:=I.pin p hp
  exact ⟨e,nn n,r⟩
 ·have hb:b≠a:=fun z=>by
   unfold L2.drp at q
   rw [if_pos z] at q
   cases q
  rw [ne hb] at q
  refine (I.hok b u q).stay (fun _ _ _ z=>z) (fun c z=>?_) fun c xs z=>?_
  ·rw [ne (fun e=>by rw [e,ho] at z;cases z)];exact z
  ·rw [ne (fun e=>by rw [e,ho] at z;cases z)];exact z
theorem Inv.size₀ (I:Inv X pins σ H s):X.s₀.heap.objs.size<=s.heap.objs.size:=by
 obtain ⟨m,⟨oL,_,_,hoL,_⟩,_⟩:=I.loc
 exact Nat.le_of_lt (Nat.lt_of_le_of_lt I.ok.above (Heap.lt_size hoL))
end
def tRaiseI (E:XK)(C:Addr)(F:Str)(t:TA):TS:=fun _ σ H=>t σ H fun vs H1=>∃ v1 v,vs=[v1,v]∧∀ dx,H1 dx=none->E (.ref C) (some dx) (upd H1 dx (.xd [(F,v)]))
def spInitE (C:Addr)(F:Str):Sp:=fun vs H Q _=>∃ a v1 v,vs=[.ref a,v1,v]∧H a=some (ExB a C none)∧∀ dx,H dx=none->Q .non (upd (upd H dx (.xd [(F,v)])) a (ExB a C (some dx)))
section
variable {X:Cx}
theorem ps_raiseI {CX:CXT}{x F:Str}{C f:Addr}{fd:FuncData}{k j:Nat}{ps:List Str}{e₀:Expr}{rest:List Expr}{np cpos pos:Pos}{t:TA}{E:XK}(hm:X.mg x=some (.ref C))(c:ExcI X.K C f)(kp:PySem.W.keepIn X.K (.ref C)=true)(O:Own X)(hc:X.calm=true)
  (Fn:FnOk X.prog X.w X.K X.mg X.base CX j f fd ps (spInitE C F)) (hp0:Passes CX X E0) (hr:Room k X.A) (hb:Binds X.K fd ps [])
  (hE:∀ (pins:List (Addr×Obj)) (σ:St) (H:Hp) (s:Shared) (a dx:Addr),Inv X pins σ H s->(∀ E':Value->Shared->Prop,wpAny (model X.prog X.w) X.A (leaving X.env (.ref a)) (fun _ s''=>Fly X.prog X.w X.outer X.H₀ X.s₀ a (.ref C) H s''∧DictIs s''.heap a (some dx)) E' s)->E (.ref C) (some dx) H->X.xe (.ref a) s)
  (ha:PA X (e₀::rest) t) (hjk:j+1<=k:=by decide) (hg:Gl X x:=by rfl) (hd:(x==("__debug__" : Str))=false:=by decide)
  (he:starEach (e₀::rest) X.env=(false,eval e₀ X.env)::starEach rest X.env:=by rfl) (hpl:(backTo cpos (starEach rest X.env)).any (·.1)=false:=by rfl) :
  PS X (.Raise (some (.Call (.Name x np) (e₀::rest) [] cpos)) none pos) (tRaiseI E C F t):=by
 intro pins s σ H D I h
 rw [arm_exec_Raise]
 simp only [evalOpt,Option.map]
 obtain ⟨nm,q,Ns,bs,tl,sn,sub,ab,col,dd,k0,k1,k2,k3,k5,mN,oI,c0,n0,i0,T0,f0,f1⟩:=(c.cls I.mod.kin).ex
 refine wpAny_bind (wpAny_standAt (exI_raise (Cl:=C) (nm:=nm) (q:=q) (Ns:=Ns) (bs:=bs) (tl:=tl) (hdct:=true) (sn:=sn) (sub:=sub) (ab:=ab) (col:=col) (dd:=dd) (k0:=k0) (k1:=k1) (k2:=k2) (k3:=k3) (k5:=k5) (ni := "ValueError.__new__") (T0.hasType (by decide +kernel)) (I.ok.hd hc) ?_))
 refine wpAny_bind (wpAny_mono ?_ (fun v s₃ z=>wpAny_bind (wpAny_standAt (wpAny_pure z))) fun _ _ z=>z)
 refine wpAny_Call_Name_kw (ld_glob I hg hm ?_ hd)
 refine PySem.W.callWith_K (h₀:=X.base) I.ok.mod.kin kp (thn (ha cpos pins s σ H _ I h) fun us s1 ⟨vs,H1,I1,r,v1,v,hv,q1⟩=>⟨I1.kIn,?_⟩) he hpl
 subst hv
 rw [List.nil_append]
 have hus:us.length=2:=r.length.symm
 have hfr:H1 (s1.heap.objs.size+1)=none:=I1.hok.fresh (Nat.le_succ _)
 have I2:Inv X pins σ (upd H1 (s1.heap.objs.size+1) (ExB (s1.heap.objs.size+1) C none)) { s1 with heap:=exHeap s1.heap C us } :=
  I1.laid (t':=s1.toks) (fun b u z=>exHeap_keep z) (Nat.le_succ _) (exB_ok (exHeap_at s1.heap C us))
 have r2:Vals (V.ref (s1.heap.objs.size+1)::[v1,v]) (Value.ref (s1.heap.objs.size+1)::us):=.cons rfl r
 have hq:spInitE C F (V.ref (s1.heap.objs.size+1)::[v1,v]) (upd H1 (s1.heap.objs.size+1) (ExB (s1.heap.objs.size+1) C none))
   (fun u H2=>u = .non∧∃ dx,upd H1 (s1.heap.objs.size+1) (ExB (s1.heap.objs.size+1) C none) dx=none∧H2=upd (upd (upd H1 (s1.heap.objs.size+1) (ExB (s1.heap.objs.size+1) C none)) dx (.xd [(F,v)])) (s1.heap.objs.size+1) (ExB (s1.heap.objs.size+1) C (some dx))) E0 :=
  ⟨_,v1,v,rfl,upd_same,fun dx hdx=>⟨rfl,dx,hdx,rfl⟩⟩
 have hl:(Value.ref (s1.heap.objs.size+1)::us++[]).length=ps.length:=by
  rw [List.append_nil,<- r2.length]
  exact Fn.len _ _ _ _ hq
 have hbt:=hb _ (Value.ref (s1.heap.objs.size+1)::us) I2.kIn hl
 rw [List.append_nil] at hbt
 have new:X.s₀.heap.objs.size<=s1.heap.objs.size+1:=Nat.le_succ_of_le I1.size₀
 refine exI_call (h:=s1.heap) (g:=s1.gens) (d:=s1.drawn) (t:=s1.toks) (os:=s1.os) (T0.keeps I1.bk) (I1.bk _ _ c0) (n0.keeps I1.bk) i0 (I1.bk _ _ f0) f1 (by rw [hus,sizeLine_eq];omega) ?_
 refine wpAny_call (codeAny_mono (Fn.run _ X.stack _ _ ⟨Value.ref (s1.heap.objs.size+1)::us,[]⟩ (Value.ref (s1.heap.objs.size+1)::us) _ _ E0 ((hr.mono hjk).make C us []) (I2.env0.make C us []) hbt r2 hq) fun res s' hq'=>?_)
 cases res with
 | error x'=>exact hp0 pins σ _ _ x' s' I2 hq'
 | ok fl =>
  cases fl with
  | ret u =>
   obtain ⟨v',H',I3,rv,rfl,dx,hdx,rfl⟩:=I2.after hq'
   refine ⟨rv,?_⟩
   have hde:dx≠s1.heap.objs.size+1:=fun z=>by rw [z,upd_same] at hdx;cases hdx
   rw [upd_ne hde] at hdx
   obtain ⟨⟨x0,e0⟩,_,_⟩:=I3.hok (s1.heap.objs.size+1) _ upd_same
   have I4:=I3.drp (C:=C) (od:=some dx) new upd_same
   have hD:drp (upd (upd (upd H1 (s1.heap.objs.size+1) (ExB (s1.heap.objs.size+1) C none)) dx (.xd [(F,v)])) (s1.heap.objs.size+1) (ExB (s1.heap.objs.size+1) C (some dx))) (s1.heap.objs.size+1)=upd H1 dx (.xd [(F,v)]):=by
    funext b
    unfold drp
    by_cases hb:b=s1.heap.objs.size+1
    ·rw [if_pos hb,hb,upd_ne hde.symm,hfr]
    ·rw [if_neg hb,upd_ne hb]
     by_cases hb2:b=dx
     ·rw [hb2,upd_same,upd_same]
     ·rw [upd_ne hb2,upd_ne hb,upd_ne hb2]
   rw [hD] at I4
   refine ⟨s1.heap.objs.size+1,_,_,rfl,I3.bk _ _ c0,e0,rfl,rfl,rfl,?_⟩
   exact hE pins σ _ s' _ dx I4 (fun _=>Fly.raisedI I4 O (by rw [upd_ne hde.symm];exact hfr) new e0) (q1 dx hdx)
  | next=>exact False.elim hq'
  | brk=>exact False.elim hq'
  | cont=>exact False.elim hq'
end
end L2
namespace L2
open PySem PyProof.Rows PySem.Spec
theorem raiseXI {P:Program}{w:World}{K:PySem.W.Frag}{mg:Str->Option Value}{base:Heap}{N:List Str}{qual:Str}{scope:Scope}{f:Addr}{cdv:Value}{A:Around}{outer:List Env}{s:Shared}{H:Hp}{E:XK}{C:Addr}
 (pins:List (Addr×Obj)) (σ:St) (H1:Hp) (s1:Shared) (a dx:Addr) (I:Inv (cxOf (CX2 P w) P w K mg base N qual scope f cdv A outer s H E) pins σ H1 s1)
 (hx:∀ E':Value->Shared->Prop,wpAny (model P w) (cxOf (CX2 P w) P w K mg base N qual scope f cdv A outer s H E).A (leaving (cxOf (CX2 P w) P w K mg base N qual scope f cdv A outer s H E).env (.ref a)) (fun _ s''=>Fly P w outer H s a (.ref C) H1 s''∧DictIs s''.heap a (some dx)) E' s1)
 (q:E (.ref C) (some dx) H1):(cxOf (CX2 P w) P w K mg base N qual scope f cdv A outer s H E).xe (.ref a) s1:=thn (hx _) fun _ s'' Z=>⟨a,.ref C,some dx,H1,rfl,Z.1,Z.2,q⟩
section
variable {X:Cx}
theorem call_isinstD (K:PySem.W.Frag)(hK:X.K=K):CallR X (.builtin "isinstance") (fun xs H Q=>∃ (a C:Addr) (od:Option Addr) (c:Value) (v:V) (b:Bool),xs=[.ref a,v]∧clsV c=some v∧H a=some (ExD a (.ref C) od)∧Knd K C∧PySem.W.kitOne K (.ref C) c=some b∧Q (.bl b) H):=by
 subst hK
 intro pins s σ H xs us Q I r h
 obtain ⟨a,C,od,c,v,b,rfl,hv,ha,k,e,q⟩:=h
 obtain ⟨u,w',rfl,ru,rw'⟩:=vals2 r
 cases ru
 obtain rfl:=clsV_rel hv rw'
 obtain ⟨p,_⟩:=(show ObjOk X.prog X.w H s.heap a (ExD a (.ref C) od) from I.hok a _ ha)
 exact PySem.W.kia_one (EX.kit k) I.kIn (let ⟨o,h1,h2,_⟩:=p.1;⟨o,h1,h2⟩) e (fun z=>nomatch z) fun tk=>⟨.bl b,H,I.tok tk,rfl,q⟩
theorem call_isinstDs (K:PySem.W.Frag)(hK:X.K=K):CallR X (.builtin "isinstance") (fun xs H Q=>∃ (a C tp:Addr) (od:Option Addr) (cs:List Addr) (b:Bool),xs=[.ref a,.ref tp]∧H tp=some (.tup (cs.map V.ref))∧H a=some (ExD a (.ref C) od)∧Knd K C∧PySem.W.kitAny K (.ref C) (cs.map Value.ref)=some b∧Q (.bl b) H):=by
 subst hK
 intro pins s σ H xs us Q I r h
 obtain ⟨a,C,tp,od,cs,b,rfl,ht,ha,k,e,q⟩:=h
 obtain ⟨u,w',rfl,ru,rw'⟩:=vals2 r
 cases ru
 cases rw'
 obtain ⟨p,_⟩:=(show ObjOk X.prog X.w H s.heap a (ExD a (.ref C) od) from I.hok a _ ha)
 obtain ⟨_,its,rv,⟨⟨oc,od2,odt,osl⟩,ho,hc,n,hd⟩⟩:=(show ObjOk X.prog X.w H s.heap tp (.tup (cs.map V.ref)) from I.hok tp _ ht)
 obtain rfl:=vals_refs rv
 simp only at hc hd
 subst hc hd
 exact PySem.W.kia_tup (EX.kit k) I.kIn (let ⟨o,h1,h2,_⟩:=p.1;⟨o,h1,h2⟩) ho e (fun z=>nomatch z) fun tk=>⟨.bl b,H,I.tok tk,rfl,q⟩
end
namespace EX
open PySem.W PySem.Calls PySem.Builtin PySem.Builtin.ObjectAttr PySem.Builtin.Getset_descriptor
variable {prog:Program}{w:World}{A:Around}{E:Value->Shared->Prop}{s:Shared}{K:PySem.W.Frag}{a C:Addr}
end EX
section
variable {X:Cx}
end
set_option genInjectivity false in
structure Cxi (P:Program)(w:World)(K:PySem.W.Frag)(mg:Str->Option Value)(base:Heap)(x:Str)(C:Addr)(F:Str)(j:Nat)(ps:List Str):Prop where
 ex:∃ f fd,FnOk P w K mg base (CX2 P w) j f fd ps (spInitE C F)∧ExcI K C f∧mg x=some (.ref C)∧PySem.W.keepIn K (.ref C)=true∧Binds K fd ps []
theorem ps_rai {X:Cx}{x F:Str}{C:Addr}{k j:Nat}{ps:List Str}{e₀:Expr}{rest:List Expr}{np cpos pos:Pos}{t:TA}{E:XK}(c:Cxi X.prog X.w X.K X.mg X.base x C F j ps)(O:Own X)(hc:X.calm=true)(hr:Room k X.A)
  (hE:∀ (pins:List (Addr×Obj)) (σ:St) (H:Hp) (s:Shared) (a dx:Addr),Inv X pins σ H s->(∀ E':Value->Shared->Prop,wpAny (model X.prog X.w) X.A (leaving X.env (.ref a)) (fun _ s''=>Fly X.prog X.w X.outer X.H₀ X.s₀ a (.ref C) H s''∧DictIs s''.heap a (some dx)) E' s)->E (.ref C) (some dx) H->X.xe (.ref a) s)
  (ha:PA X (e₀::rest) t) (hjk:j+1<=k:=by decide) (hg:Gl X x:=by rfl) (hd:(x==("__debug__" : Str))=false:=by decide)
  (he:starEach (e₀::rest) X.env=(false,eval e₀ X.env)::starEach rest X.env:=by rfl) (hpl:(backTo cpos (starEach rest X.env)).any (·.1)=false:=by rfl) :
  PS X (.Raise (some (.Call (.Name x np) (e₀::rest) [] cpos)) none pos) (tRaiseI E C F t):=by
 obtain ⟨f,fd,Fn,ci,hm,kp,hb⟩:=c.ex
 exact ps_raiseI hm ci kp O hc Fn pass2 hr hb hE ha hjk hg hd he hpl
end L2
namespace L2
open PySem PySem.Spec PyProof.Rows
section
variable {X:Cx}
theorem pi_listK (K:PySem.W.Frag)(hK:X.K=K){tg l:Expr}{tl:TE}(hl:PE X l tl):PI X tg l (iList K tl):=by
 subst hK
 exact pi_list hl
end
end L2
namespace L2
open PySem PyProof.Rows PySem.Spec
section
variable {X:Cx}
end
end L2
namespace L2
open PySem PyProof.Rows PySem.Spec
section
variable {X:Cx}
end
section
variable {X:Cx}{N':List Str}{scope:Scope}{x y2:Str}{px py py2 pt:Pos}{elt iter:Expr}{pos:Pos}{te:TE}{wi:TI}
end
end L2
namespace L2
open PySem PyProof.Rows PySem.Spec
section
variable {X:Cx}
end
end L2
namespace SR
open PySem PyProof.Rows PySem.Spec
section
variable {prog:Program}{w:World}{A:Around}{E:Value->Shared->Prop}{s:Shared}
end
end SR
namespace L2
open PySem PyProof.Rows PySem.Spec
section
variable {X:Cx}
end
end L2
namespace L2
open PySem PyProof.Rows PySem.Spec
section
variable {X:Cx}
end
end L2
namespace L2
open PySem PyProof.Rows PySem.Spec
section
variable {X:Cx}
end
end L2
namespace L2
open PySem PyProof.Rows PySem.Spec
section
variable {X:Cx}
end
end L2
namespace L2
open PySem PyProof.Rows PySem.Spec
section
variable {X:Cx}
end
end L2
namespace L2
open PySem PyProof.Rows PySem.Spec
section
variable {X:Cx}
end
section
variable {K:PySem.W.Frag}{H G:Hp}{as:List Addr}{M:List (List Int)}
end
end L2
namespace L2
open PySem PySem.Spec PyProof.Rows
section
variable {X:Cx}{pins:List (Addr×Obj)}{σ:St}{H:Hp}{s:Shared}{a:Addr}{kvs:List (Key×V)}{k:Key}{A:Around}{E:Value->Shared->Prop}
end
section
variable {X:Cx}{o e f:Expr}{apos cpos:Pos}{td ty tx:TE}
end
end L2
namespace SS
open PySem PyProof.Rows L2
section
variable {prog:Program}{w:World}{A:Around}{E:Value->Shared->Prop}{s:Shared}
end
end SS
namespace L2
open PySem PyProof.Rows
section
variable {X:Cx}
end
end L2
namespace L2
open PySem PyProof.Rows
end L2
namespace L2
open PySem PyProof.Rows
section
variable {X:Cx}{pins:List (Addr×Obj)}{σ:List (Option V)}{H H':Hp}{s:Shared}
end
section
variable {X:Cx}{tg:Expr}
end
end L2
namespace L2
open PySem PyProof.Rows
section
variable {X:Cx}{o:Expr}{td:TE}{apos cpos:Pos}
end
end L2
namespace L2
open PySem PyProof.Rows PySem.Spec
section
variable {X:Cx}
end
end L2
namespace L2
open PySem PyProof.Rows
section
variable {X:Cx}{pins:List (Addr×Obj)}{σ:St}{H:Hp}{s:Shared}
end
section
variable {X:Cx}
end
end L2
namespace L2
open PySem PySem.Spec PyProof.Rows
set_option genInjectivity false in
structure CompScC (N N':List Str)(sc scope:Scope)(x:Str):Prop where
 kind:scope.kind = .function
 cell:scope.names.filter (fun y=>y.2 == .cell)=[(x,.cell)]
 names:∀ y∈scope.names,y.2 = .local->scope.names.lookup y.1=some .local
 var:scope.names.lookup x=some .cell
 ok:∀ y∈scope.names,y.2 = .free->(y.1≠x∧(sc.names.lookup y.1=some .cell∨sc.names.lookup y.1=some .free))
 hd:N'[0]?=some x
 len:N'.length=N.length+1
 sub:∀ i,i<N.length->N'[i+1]?=N[i]?∨(N'[i+1]?.map fun y=>scope.names.lookup y)=some none
 noe:scope.names.lookup ("" : Str)=none
 nol:∀ y∈N'.tail,scope.names.lookup y≠some .local∧scope.names.lookup y≠some .cell
 nd:N'.Nodup
theorem cellsFrom_no:∀ (names:List (Str×NameKind)) (n:Nat) (acc:List (Str×Addr)),names.filter (fun y=>y.2 == .cell)=[]->cellsFrom n names acc=acc
 | [],_,_,_=>rfl
 | (y,k)::r,n,acc,h=>by
  rw [List.filter_cons] at h
  unfold cellsFrom
  by_cases hk:(k==NameKind.cell)=true
  ·rw [if_pos hk] at h
   cases h
  ·rw [if_neg hk] at h
   rw [if_neg hk]
   exact cellsFrom_no r n acc h
theorem cellsFrom_one {x:Str}:∀ (names:List (Str×NameKind)) (n:Nat) (acc:List (Str×Addr)),names.filter (fun y=>y.2 == .cell)=[(x,.cell)]->cellsFrom n names acc=(x,n)::acc
 | [],_,_,h=>by cases h
 | (y,k)::r,n,acc,h=>by
  rw [List.filter_cons] at h
  unfold cellsFrom
  by_cases hk:(k==NameKind.cell)=true
  ·rw [if_pos hk] at h
   obtain ⟨h1,h2⟩:=List.cons.inj h
   rw [if_pos hk,cellsFrom_no r _ _ h2]
   cases h1
   rfl
  ·rw [if_neg hk] at h
   rw [if_neg hk]
   exact cellsFrom_one r n acc h
theorem pushCells_no:∀ (names:List (Str×NameKind)) (h:Heap),names.filter (fun y=>y.2 == .cell)=[]->pushCells h names=h
 | [],_,_=>rfl
 | (y,k)::r,h0,h=>by
  rw [List.filter_cons] at h
  unfold pushCells
  by_cases hk:(k==NameKind.cell)=true
  ·rw [if_pos hk] at h
   cases h
  ·rw [if_neg hk] at h
   rw [if_neg hk]
   exact pushCells_no r h0 h
theorem pushCells_one {x:Str}:∀ (names:List (Str×NameKind)) (h:Heap),names.filter (fun y=>y.2 == .cell)=[(x,.cell)]->pushCells h names=h.push { cls:=.type "cell",data:=.cell none }
 | [],_,h=>by cases h
 | (y,k)::r,h0,h=>by
  rw [List.filter_cons] at h
  unfold pushCells
  by_cases hk:(k==NameKind.cell)=true
  ·rw [if_pos hk] at h
   obtain ⟨h1,h2⟩:=List.cons.inj h
   rw [if_pos hk,pushCells_no r _ h2]
  ·rw [if_neg hk] at h
   rw [if_neg hk]
   exact pushCells_one r h0 h
section
variable {M:Model}{A:Around}{E:Value->Shared->Prop}{s:Shared}
theorem newFunctionEnv_one {scope:Scope}{x:Str}{globals:Addr}{closure:List (Str×Addr)}{qual:Str}{func:Option Addr}{code:Value}{outer:Env}{builtins:Addr}{Q:Env->Shared->Prop}(hc:scope.names.filter (fun y=>y.2 == .cell)=[(x,.cell)])
  (hQ:Q (newEnv scope s.heap.objs.size globals ((x,s.heap.objs.size+1)::closure) qual func code (some outer) builtins) { s with heap:=(s.heap.push { cls:=.type "dict",data:=.dict #[] }).push { cls:=.type "cell",data:=.cell none } }) :
  wpAny M A (newFunctionEnv scope globals closure [] qual func code (some outer) builtins) Q E s:=by
 simp only [newFunctionEnv,Option.isSome_some,if_true]
 refine wpAny_bind (wpAny_alloc ?_)
 refine wpAny_bind (wpAny_layCells _ (fun name kind cells=>by cases hkc:kind==NameKind.cell <;> simp [hkc]) _ _ _ _ ?_)
 rw [show ({ s with heap:=s.heap.push { cls:=.type "dict",data:=.dict #[] } }:Shared).heap.objs.size=s.heap.objs.size+1 from Heap.size_push ..]
 rw [cellsFrom_one _ _ _ hc,pushCells_one _ _ hc]
 refine wpAny_bind (wpAny_pure ?_)
 exact wpAny_pure hQ
end
abbrev cxCompC (X:Cx)(x:Str)(N':List Str)(scope:Scope)(cl:List (Str×Addr))(C:Addr)(s:Shared)(H:Hp)(fp:List Addr):Cx :=
 { X with env:=compEnvC scope cl C X.env,N:=N',s₀:=s,H₀:=H,outer:=X.stack,stack:=X.stack,ex:=fp,fn:=fun y=>y==x,xe:=fun _ _=>False }
theorem look_x {x:Str}{c:Addr}{cl:List (Str×Addr)}:List.lookup x ((x,c)::cl)=some c:=by
 rw [List.lookup_cons,beq_self_eq_true]
theorem look_ne {x y:Str}{c:Addr}{cl:List (Str×Addr)}(h:y≠x):List.lookup y ((x,c)::cl)=List.lookup y cl:=by
 rw [List.lookup_cons,beq_false_of_ne h]
section
variable {X:Cx}{N':List Str}{scope:Scope}{x:Str}{px:Pos}{elt iter:Expr}{cds:List Expr}{pos:Pos}{te:TE}{tc:TT}{wi:TI}
theorem compc_core (S:CompScC X.N N' X.env.scope scope x)(hc:X.calm=true)(ht:∀ cl C s H fp,PTL (cxCompC X x N' scope cl C s H fp) cds tc)(he:∀ cl C s H fp,PE (cxCompC X x N' scope cl C s H fp) elt te)
  {pins:List (Addr×Obj)} {σ:St} {H:Hp} {s:Shared} {Q:VK} {E:Value->Shared->Prop} {RR:Value->Addr->Result->Shared->Prop} {it:Addr} {fp:List Addr} {tn:Nat->Heap->Prop} {J:It}
  (I:Inv X pins σ H s) (T:Turn X.prog X.w X.K (.Name x px) J fp it tn) (st:tn 0 s.heap) (f2:∀ b∈fp,FpOk X pins H b)
  (hw:compAtF tc te σ Q J H)
  (hRR:∀ D C s' H',Inv X pins σ H' s'->(∃ m,s'.heap.Ns C m)->C≠X.env.locals->(∀ y c,X.env.cells.lookup y=some c->c≠C)->H' C=none->X.s₀.heap.objs.size<=C->(∀ p∈X.pn++pins,p.1≠C)->Q (.ref D) H'->RR (.ref D) C (.ok .next) s') :
  ∃ cl,closureFor scope X.env=pure cl∧wpAny (model X.prog X.w) X.A (newList []) (fun acc s₃=>wpAny (model X.prog X.w) X.A (newFunctionEnv scope X.env.globals cl [] X.env.qual none .none (some X.env)) (fun cenv s₄ =>
   codeAny (model X.prog X.w) X.A (.compStart (.ListComp elt [⟨.Name x px,iter,cds,0⟩] scope pos) 0 (.ref it) acc { cenv with scope:=relabel scope X.env }) (RR acc cenv.locals) s₄) E s₃) E s:=by
 have hfree:∀ z∈scope.names,z.2 = .free->∃ c,X.env.cells.lookup z.1=some c:=fun z hz hk=>by
  rcases (S.ok z hz hk).2 with q | q
  ·exact I.ok.has z.1 (.inl q)
  ·exact I.ok.has z.1 (.inr q)
 refine ⟨_,clos_eq hfree,?_⟩
 have clS:∀ y c,(closOf X.env.cells scope.names []).lookup y=some c->X.env.cells.lookup y=some c:=fun y c=>clos_sound scope.names [] hfree fun q=>by cases q
 generalize hcl:closOf X.env.cells scope.names []=cl at clS
 have clH:∀ y,scope.names.lookup y=some .free->∃ c,cl.lookup y=some c:=fun y hy=>by
  rw [<- hcl]
  exact clos_has scope.names [] (lookup_mem hy)
 refine wpAny_newObj_type (newFunctionEnv_one S.cell ?_)
 have I3:Inv X pins σ (upd H s.heap.objs.size (.lst [])) { s with heap:=s.heap.push { cls:=.type "list",data:=.seq ([]:List Value).toArray } }:=I.lnew (t':=s.toks) .nil (Nat.zero_le _)
 obtain ⟨W,⟨m0,w0⟩,turn⟩:=hw s.heap.objs.size I.fresh
 dsimp only
 generalize hs3:({ s with heap:=s.heap.push { cls:=.type "list",data:=.seq ([]:List Value).toArray } }:Shared)=s3 at I3
 have hh3:s3.heap=s.heap.push { cls:=.type "list",data:=.seq ([]:List Value).toArray }:=by rw [<- hs3]
 have hsz3:s3.heap.objs.size=s.heap.objs.size+1:=by rw [hh3,Heap.size_push]
 rw [<- hh3]
 generalize hh₁:(s3.heap.push { cls:=.type "dict",data:=.dict #[] }).push { cls:=.type "cell",data:=.cell none }=h₁
 have old:∀ b o,s3.heap.get? b=some o->h₁.get? b=some o:=fun b o e=>by rw [<- hh₁];exact Heap.get?_push_of_some _ (Heap.get?_push_of_some _ e)
 have old0:∀ b o,s.heap.get? b=some o->h₁.get? b=some o:=fun b o e=>old b o (by rw [hh3];exact Heap.get?_push_of_some _ e)
 have hns₁:h₁.Ns s3.heap.objs.size fun _=>none:=by rw [<- hh₁];exact (Heap.Ns.new s3.heap (.type "dict")).keeps fun b o e=>Heap.get?_push_of_some _ e
 have hzp:(s3.heap.push { cls:=.type "dict",data:=.dict #[] }).objs.size=s3.heap.objs.size+1:=Heap.size_push ..
 have hce:h₁.IsCell (s3.heap.objs.size+1) none:=⟨_,by rw [<- hh₁,<- hzp];exact Heap.get?_push_size _ rfl,rfl⟩
 have CneL:s3.heap.objs.size≠X.env.locals:=Nat.ne_of_gt I3.lt
 have CneC:∀ y c,X.env.cells.lookup y=some c->c<s3.heap.objs.size:=fun y c e=>by
  obtain ⟨v,q⟩:=I3.cell y c e
  exact q.lt
 have CneP:∀ p∈X.pn++pins,p.1<s3.heap.objs.size:=fun p hp=>Heap.lt_size (I3.pin p hp).1
 have fpLt:∀ b∈fp,b<s3.heap.objs.size:=fun b hb=>by
  obtain ⟨o,e,_⟩:=T.obj 0 s.heap st b hb
  rw [hsz3]
  exact Nat.lt_succ_of_lt (Heap.lt_size e)
 have fpD:∀ b∈fp,b≠s.heap.objs.size:=fun b hb=>by
  obtain ⟨o,e,_⟩:=T.obj 0 s.heap st b hb
  exact Nat.ne_of_lt (Heap.lt_size e)
 generalize hC1:s3.heap.objs.size+1=C1 at hce hzp
 have C1gt:s3.heap.objs.size<C1:=by rw [<- hC1];exact Nat.lt_succ_self _
 have cases':∀ y c,List.lookup y ((x,C1)::cl)=some c->(y=x∧c=C1)∨(y≠x∧cl.lookup y=some c):=fun y c e=>by
  by_cases hy:y=x
  ·subst hy
   rw [look_x] at e
   exact .inl ⟨rfl,(Option.some.inj e).symm⟩
  ·rw [look_ne hy] at e
   exact .inr ⟨hy,e⟩
 have ltC1:∀ y c,cl.lookup y=some c->c<s3.heap.objs.size:=fun y c e=>CneC y c (clS y c e)
 have ok':(cxCompC X x N' scope ((x,C1)::cl) s3.heap.objs.size s3 (upd H s.heap.objs.size (.lst [])) fp).Ok:=by
  refine ⟨I3.ok.mod,?_,I3.ok.glob,I3.ok.blt,Nat.le_refl _,fun y z c h1 h2=>?_,fun y hy=>?_,fun y c hf e=>?_,I3.ok.hd,I3.ok.frames,.inl rfl,fun b hb=>⟨Nat.ne_of_lt (fpLt b hb),fun y c e=>?_⟩,
   fun b o e=>I3.bs b o e,Nat.le_trans I3.ok.bsz I3.sz,fun b o e hb=>?_,fun b hb z=>?_,I3.stack,I3.stkFree⟩
  ·show (relabel scope X.env).kind = .function
   exact S.kind
  ·rcases cases' y c h1 with ⟨e1,e2⟩ | ⟨n1,e1⟩
   ·rcases cases' z c h2 with ⟨e3,e4⟩ | ⟨n3,e3⟩
    ·rw [e1,e3]
    ·exact absurd (ltC1 z c e3) (by rw [e2];exact Nat.not_lt.mpr (Nat.le_of_lt C1gt))
   ·rcases cases' z c h2 with ⟨e3,e4⟩ | ⟨n3,e3⟩
    ·exact absurd (ltC1 y c e1) (by rw [e4];exact Nat.not_lt.mpr (Nat.le_of_lt C1gt))
    ·exact I3.ok.inj y z c (clS y c e1) (clS z c e3)
  ·by_cases hyx:y=x
   ·subst hyx
    exact ⟨C1,look_x⟩
   have hy':(relabel scope X.env).names.lookup y=some .cell∨(relabel scope X.env).names.lookup y=some .free:=hy
   rw [relabel_lookup] at hy'
   cases q:scope.names.lookup y with
   | none=>rw [q] at hy';rcases hy' with z | z <;> cases z
   | some k =>
    have hm:=lookup_mem q
    cases k with
    | free =>
     obtain ⟨c,hc'⟩:=clH y q
     exact ⟨c,(look_ne hyx).trans hc'⟩
    | cell =>
     have:(y,NameKind.cell)∈scope.names.filter (fun y=>y.2 == .cell):=List.mem_filter.mpr ⟨hm,rfl⟩
     rw [S.cell] at this
     exact absurd (congrArg Prod.fst (List.mem_singleton.mp this)) hyx
    | «local» => rw [q] at hy';rcases hy' with z | z <;> simp at z
    | globalExplicit=>rw [q] at hy';rcases hy' with z | z <;> simp at z
    | globalImplicit=>rw [q] at hy';rcases hy' with z | z <;> simp at z
  ·have hyx:y=x:=by simpa using hf
   rcases cases' y c e with ⟨_,e2⟩ | ⟨n1,_⟩
   ·rw [e2];exact Nat.le_of_lt C1gt
   ·exact absurd hyx n1
  ·rcases cases' y c e with ⟨_,e2⟩ | ⟨n1,e1⟩
   ·rw [e2];exact fun z=>absurd (fpLt b hb) (by rw [<- z];exact Nat.not_lt.mpr (Nat.le_of_lt C1gt))
   ·exact (f2 b hb).2.2.2.2.1 y c (clS y c e1)
  ·rcases (f2 b hb).2.2.2.1 with z | z
   ·exact I.ok.noex b o e z
   ·exact absurd (Nat.lt_of_lt_of_le (Heap.lt_size e) (Nat.le_trans I.ok.bsz z)) (Nat.lt_irrefl _)
  ·rcases List.mem_cons.mp (I3.stkSub b z) with q | q
   ·exact (f2 b hb).2.1 q
   ·exact (f2 b hb).2.2.1 q
 have fpOk':∀ {H':Hp},(∀ b∈fp,H' b=none)->∀ b∈fp,FpOk (cxCompC X x N' scope ((x,C1)::cl) s3.heap.objs.size s3 (upd H s.heap.objs.size (.lst [])) fp) pins H' b:=fun hn b hb =>
  ⟨hn b hb,Nat.ne_of_lt (fpLt b hb),fun z=>by
   rcases List.mem_cons.mp (I3.stkSub b z) with q | q
   ·exact (f2 b hb).2.1 q
   ·exact (f2 b hb).2.2.1 q,.inl hb,fun y c e=>by
   rcases cases' y c e with ⟨_,e2⟩ | ⟨n1,e1⟩
   ·rw [e2];exact fun z=>absurd (fpLt b hb) (by rw [<- z];exact Nat.not_lt.mpr (Nat.le_of_lt C1gt))
   ·exact (f2 b hb).2.2.2.2.1 y c (clS y c e1),(f2 b hb).2.2.2.2.2⟩
 have I4:Inv (cxCompC X x N' scope ((x,C1)::cl) s3.heap.objs.size s3 (upd H s.heap.objs.size (.lst [])) fp) pins (none::σ) (upd H s.heap.objs.size (.lst [])) { s3 with heap:=h₁ }:=by
  refine ⟨ok',rfl,I3.bare,Un.kept old,⟨_,hns₁,fun i y v e1 e2 vis=>?_⟩,fun y c e=>?_,?_,fun y c e=>?_,fun p hp=>?_,I3.hok.kept old,?_⟩
  ·cases i with
   | zero=>cases e2
   | succ i =>
    have e2':σ[i]?=some (some v):=by simpa using e2
    have hi:i<X.N.length:=by rw [<- I3.len];exact (List.getElem?_eq_some_iff.mp e2').1
    have vis':(relabel scope X.env).names.lookup y=some .local∨(relabel scope X.env).names.lookup y=some .cell∨(relabel scope X.env).names.lookup y=some .free:=vis
    have e1':N'[i+1]?=some y:=e1
    rcases S.sub i hi with q | q
    ·rw [e1'] at q
     have hy:X.N[i]?=some y:=q.symm
     have hmem:y∈N'.tail:=by
      rw [List.mem_iff_getElem?]
      exact ⟨i,by rw [List.getElem?_tail];exact e1'⟩
     have hfr:scope.names.lookup y=some .free:=by
      rw [relabel_lookup] at vis'
      cases q2:scope.names.lookup y with
      | none=>rw [q2] at vis';rcases vis' with z | z | z <;> cases z
      | some k =>
       cases k with
       | free=>rfl
       | cell=>exact absurd q2 (S.nol y hmem).2
       | «local» => exact absurd q2 (S.nol y hmem).1
       | globalExplicit=>rw [q2] at vis';rcases vis' with z | z | z <;> simp at z
       | globalImplicit=>rw [q2] at vis';rcases vis' with z | z | z <;> simp at z
     have hyx:y≠x:=fun z=>by rw [z,S.var] at hfr;cases hfr
     have hok:=(S.ok (y,.free) (lookup_mem hfr) rfl).2
     obtain ⟨m,hn,hl⟩:=I3.loc
     have visX:Vis X.env.scope y:=by
      rcases hok with z | z
      ·exact .inr (.inl z)
      ·exact .inr (.inr z)
     obtain ⟨u,r,l⟩:=hl i y v hy e2' visX
     refine ⟨u,r,.inr ⟨?_,?_⟩⟩
     ·show (relabel scope X.env).names.lookup y=some .cell∨(relabel scope X.env).names.lookup y=some .free
      rw [relabel_lookup,hfr,Option.map_some]
      by_cases hcnd:(NameKind.free==NameKind.free&&X.env.scope.kind == .function&&X.env.kindOf y==some .cell)=true
      ·left
       rw [if_pos hcnd]
      ·right
       rw [if_neg hcnd]
     ·rcases l with ⟨k,_⟩ | ⟨k,c,e,z⟩
      ·have k':X.env.scope.names.lookup y=some .local:=k
       have hok':X.env.scope.names.lookup y=some .cell∨X.env.scope.names.lookup y=some .free:=hok
       rw [k'] at hok'
       rcases hok' with z | z <;> cases z
      ·obtain ⟨c',e'⟩:=clH y hfr
       have e3:=clS y c' e'
       rw [e] at e3
       cases e3
       obtain ⟨o,ho,hd⟩:=z
       exact ⟨c,(look_ne hyx).trans e',o,old c o ho,hd⟩
    ·rw [e1'] at q
     have q:scope.names.lookup y=none:=Option.some.inj q
     rw [relabel_lookup,q] at vis'
     rcases vis' with z | z | z <;> cases z
  ·rcases cases' y c e with ⟨_,e2⟩ | ⟨n1,e1⟩
   ·exact ⟨none,by rw [e2];exact hce⟩
   ·obtain ⟨v,o,ho,hd⟩:=I3.cell y c (clS y c e1)
    exact ⟨v,o,old c o ho,hd⟩
  ·show upd H s.heap.objs.size (.lst []) s3.heap.objs.size=none
   exact I3.hok.fresh (Nat.le_refl _)
  ·rcases cases' y c e with ⟨_,e2⟩ | ⟨n1,e1⟩
   ·rw [e2];exact I3.hok.fresh (Nat.le_of_lt C1gt)
   ·exact I3.freeC y c (clS y c e1)
  ·obtain ⟨e,n,ne,nf,d⟩:=I3.pin p hp
   refine ⟨old _ _ e,n,Nat.ne_of_lt (CneP p hp),fun z=>?_,d⟩
   rcases List.mem_cons.mp (I3.stkSub p.1 z) with q | q
   ·exact ne q
   ·exact nf q
  ·show (none::σ).length=N'.length
   rw [S.len,List.length_cons,I3.len]
 have st4:tn 0 h₁:=T.keep 0 s.heap h₁ st fun b _ o e=>old0 b o e
 have hvar:Loc (relabel scope X.env) x:=by
  right
  show (relabel scope X.env).names.lookup x=some .cell
  rw [relabel_lookup,S.var,Option.map_some]
  rfl
 have loop:∀ s₄:Shared,s₄ = { s3 with heap:=h₁ } ->
   codeAny (model X.prog X.w) X.A (.compLoop (.ListComp elt [⟨.Name x px,iter,cds,0⟩] scope pos) 0 (.ref it) (.ref s.heap.objs.size) (compEnvC scope ((x,C1)::cl) s3.heap.objs.size X.env)) (RR (.ref s.heap.objs.size) s3.heap.objs.size) s₄:=by
  rintro s₄ rfl
  refine codeAny_compLoop_ts (fun n s'=>∃ i v0 ys H',Inv (cxCompC X x N' scope ((x,C1)::cl) s3.heap.objs.size s3 (upd H s.heap.objs.size (.lst [])) fp) pins (v0::σ) H' s'∧tn i s'.heap∧(∀ b∈fp,H' b=none)∧W i n ys H') ?_ m0
   ⟨0,none,[],_,I4,st4,fun b hb=>by rw [upd_ne (fpD b hb)];exact (f2 b hb).1,w0⟩
  rintro n s5 ⟨i,v0,ys,H5,I5,st5,fr5,w5⟩
  rcases turn i n ys H5 w5 with ⟨stop,qn⟩ | ⟨go,hz,N,hN,Nn,hNn,step⟩
  ·refine thn (T.done (cxCompC X x N' scope ((x,C1)::cl) s3.heap.objs.size s3 (upd H s.heap.objs.size (.lst [])) fp) rfl rfl rfl hc i pins s5 (v0::σ) H5 (fun _ _=>False) I5 (fpOk' fr5) st5 stop) fun r s6 ⟨hr,I6⟩=>?_
   subst hr
   have hch:∀ b∈fp,(b∈X.ex∨X.s₀.heap.objs.size<=b)∧b≠X.env.locals∧(∀ x c,X.env.cells.lookup x=some c->c≠b)∧∀ p∈X.pn++pins,p.1≠b:=fun b hb =>
    ⟨(f2 b hb).2.2.2.1,(f2 b hb).2.1,(f2 b hb).2.2.2.2.1,(f2 b hb).2.2.2.2.2⟩
   have I7:Inv X pins σ H5 s6:=I3.call' (ch:=fp) I6.os I6.base I6.hok I6.bare hch
   obtain ⟨m,hm,_⟩:=I6.loc
   exact hRR s.heap.objs.size s3.heap.objs.size s6 H5 I7 ⟨m,hm⟩ CneL (fun y c e=>Nat.ne_of_lt (CneC y c e)) I6.free (Nat.le_trans I3.sz (Nat.le_refl _)) (fun p hp=>Nat.ne_of_lt (CneP p hp)) qn
  ·refine thn (T.item (cxCompC X x N' scope ((x,C1)::cl) s3.heap.objs.size s3 (upd H s.heap.objs.size (.lst [])) fp) rfl rfl rfl hc i pins s5 (v0::σ) H5 (fun _ _=>False) I5 (fpOk' fr5) st5 go) fun r s6 ⟨u,hr,h6⟩=>?_
   subst hr
   refine thn h6 fun _ s7 ⟨y,H7,I7,r7,y7,st7,fr7⟩=>?_
   have I7':=I7.pinned (fpOk' fr7) (T.obj _ _ st7)
   refine wpAny_assign_Name (store_ok (i:=0) (v:=y) I7' S.nd S.hd hvar r7 (fun s8 I8=>?_) (.inl (beq_self_eq_true x)))
   have I8':Inv (cxCompC X x N' scope ((x,C1)::cl) s3.heap.objs.size s3 (upd H s.heap.objs.size (.lst [])) fp) (pins++pinsAt fp s7.heap) (some y::σ) H7 s8:=I8
   refine thn (ht _ s3.heap.objs.size s3 (upd H s.heap.objs.size (.lst [])) fp _ s8 (some y::σ) H7 (fun b H''=>if b=true then te (some y::σ) H'' N else Nn H'') I8' (step y H7 y7)) fun okb s8 ⟨H8,I8,q8⟩=>?_
   cases okb with
   | false =>
    have q8':Nn H8:=by simpa using q8
    obtain ⟨m',hm,w9⟩:=hNn H8 q8'
    refine ⟨m',hm,i+1,some y,ys,_,I8.unpinned,T.keep _ _ _ st7 fun b hb o e=>(I8.pin (b,o) (List.mem_append_right _ (List.mem_append_right _ (mem_pinsAt hb e)))).1,fun b hb=>?_,w9⟩
    obtain ⟨o,e,d⟩:=T.obj _ _ st7 b hb
    exact (I8.pin (b,o) (List.mem_append_right _ (List.mem_append_right _ (mem_pinsAt hb e)))).2.1
   | true =>
    refine thn (he _ s3.heap.objs.size s3 (upd H s.heap.objs.size (.lst [])) fp _ s8 (some y::σ) H8 N I8 (by simpa using q8)) fun w s9 ⟨v,H9,I9,r9,q9⟩=>?_
    obtain ⟨hD9,m',hm,w9⟩:=hN v H9 q9
    refine thn (mt_append _ s9 (some y::σ) H9 (.ref s.heap.objs.size) [v] (.ref s.heap.objs.size) [w] (fun z H10=>z = .non∧H10=upd H9 s.heap.objs.size (.lst (ys++[v]))) I9 rfl (.cons r9 .nil) ⟨s.heap.objs.size,ys,v,rfl,rfl,hD9,hz,rfl,rfl⟩) fun _ s10 ⟨z,H10,I10,_,ez,e10⟩=>?_
    subst e10
    refine ⟨m',hm,i+1,some y,ys++[v],_,I10.unpinned,T.keep _ _ _ st7 fun b hb o e=>(I10.pin (b,o) (List.mem_append_right _ (List.mem_append_right _ (mem_pinsAt hb e)))).1,fun b hb=>?_,w9⟩
    obtain ⟨o,e,d⟩:=T.obj _ _ st7 b hb
    exact (I10.pin (b,o) (List.mem_append_right _ (List.mem_append_right _ (mem_pinsAt hb e)))).2.1
 exact codeAny_compStart_list (loop _ (by rw [<- hs3])) (T.self X.A 0 _ _ _ st4 (loop _ (by rw [<- hs3])))
end
end L2
namespace L2
open PySem PySem.Spec PyProof.Rows
section
variable {X:Cx}{N':List Str}{scope:Scope}{x:Str}{px:Pos}{elt iter:Expr}{cds:List Expr}{pos:Pos}{te:TE}{tc:TT}{wi:TI}
theorem ps_setCompCx {at':St->VK->It->Hp->Prop}{i:Nat}{y:Str}{py spos:Pos}(S:CompScC X.N N' X.env.scope scope x)(hc:X.calm=true)(hi:PI X (.Name x px) iter wi)(ht:∀ cl C s H fp,PTL (cxCompC X x N' scope cl C s H fp) cds tc)(he:∀ cl C s H fp,PE (cxCompC X x N' scope cl C s H fp) elt te)(cv:∀ σ Q J H,at' σ Q J H->compAtF tc te σ Q J H)
  (hN:X.N.Nodup) (hy:X.N[i]?=some y) (hyl:X.env.scope.names.lookup y=some .local)
  (hsw:swapsWith (.ListComp elt [⟨.Name x px,iter,cds,0⟩] scope pos) (some (.Name y py)) spos.line X.env=pure true:=by rfl)
  (hs:∀ x,foldedSetIterable iter X.env x=pure x:=by intro _;rfl):PS X (.Assign [.Name y py] (.ListComp elt [⟨.Name x px,iter,cds,0⟩] scope pos) spos) (tAsg (fun σ H Q=>wi σ H (at' σ Q)) (gName i)):=by
 intro pins s σ H D0 I h
 have hfree:∀ z∈scope.names,z.2 = .free->∃ c,X.env.cells.lookup z.1=some c:=fun z hz hk=>by
  rcases (S.ok z hz hk).2 with q | q
  ·exact I.ok.has z.1 (.inl q)
  ·exact I.ok.has z.1 (.inr q)
 rw [exec_Assign_Name_used _ _ _ _ hsw]
 refine wpAny_bind (wpAny_standAt (wpAny_bind ?_))
 show wpAny _ X.A (do let _ <- comprehension (.ListComp elt [⟨.Name x px,iter,cds,0⟩] scope pos) scope X.env _ (newList []) false (eval iter X.env) (some (assign (.Name y py) X.env))) _ _ s
 refine wpAny_bind (wpAny_mono (wpAny_comprehension_free (use:=some (assign (.Name y py) X.env)) (Q:=fun _ s'=>SP X pins D0 .next s') rfl hs (clos_eq hfree) S.kind S.names
  (thn (hi pins s σ H _ I h) fun xv s1 h1=>thn h1 fun itv s2 h2=>?_)) (fun _ s' hq=>wpAny_pure (wpAny_pure hq)) fun _ _ e=>e)
 obtain ⟨it,fp,tn,J,H2,e,I2,T,st2,f2,hw⟩:=h2
 subst e
 obtain ⟨cl,hcl,hrun⟩:=compc_core (tc:=tc) (cds:=cds) (elt:=elt) (iter:=iter) (pos:=pos) (px:=px) (E:=X.xe) (Q:=fun x H1=>gName i x σ H1 D0.nx) (RR:=fun acc C=>compPost (model X.prog X.w) X.A X.xe (some (assign (.Name y py) X.env)) (fun _ s'=>SP X pins D0 .next s') acc C) S hc ht he I2 T st2 f2 (cv _ _ _ _ hw) (fun D C s' H' I' ⟨m,hm⟩ n1 n2 n3 n4 n5 q=>by
  show wpAny _ X.A (assign (.Name y py) X.env (.ref D)) _ _ _
  refine wpAny_assign_Name (store_ok2 (i:=i) (v:=.ref D) I' hN hy (.inl hyl) rfl (fun s'' I'' ⟨a,hsa,hwa⟩=>?_) (.inr hyl))
  have haC:C≠a:=by
   rcases hwa with z | z
   ·rw [z];exact n1
   ·intro z2
    exact n2 y a z z2.symm
  refine ⟨m,hm.sameBut hsa haC,fun h' hsb=>?_⟩
  exact ⟨_,H',I''.turned (it:=C) (t':=s''.toks) (fun b o hb e=>(hsb.2 b hb).trans e) n3 n1 (.inr n4) n2 n5,q⟩)
 have ecl:(pure (closOf X.env.cells scope.names []):Sem (List (Str×Addr)))=pure cl:=(clos_eq hfree).symm.trans hcl
 have ecl':closOf X.env.cells scope.names []=cl:=by
  injection ecl
 rw [ecl']
 exact hrun
end
theorem relabel_ok {outer inner:Scope}(h:∀ y∈inner.names,y.2 = .free->outer.names.lookup y.1=some .cell∨outer.names.lookup y.1=some .free)(env:Env):∀ y∈inner.names,y.2 = .free->(relabel outer env).names.lookup y.1=some .cell∨(relabel outer env).names.lookup y.1=some .free:=fun y hy hk=>by
 rw [relabel_lookup]
 rcases h y hy hk with z | z
 ·left
  rw [z,Option.map_some]
  rfl
 ·rw [z,Option.map_some]
  by_cases hcnd:(NameKind.free==NameKind.free&&env.scope.kind == .function&&env.kindOf y.1==some .cell)=true
  ·left
   rw [if_pos hcnd]
  ·right
   rw [if_neg hcnd]
end L2
namespace L2
open PySem PyProof.Rows PySem.Spec
section
variable {X:Cx}
end
section
variable {X:Cx}{N':List Str}{scope:Scope}{x:Str}{px:Pos}{elt iter cd:Expr}{pos:Pos}{te:TE}{tc:TT}{wi:TI}
theorem ps_setCompfC {i:Nat}{y:Str}{py spos:Pos}(S:CompScC X.N N' X.env.scope scope x)(hc:X.calm=true)(hi:PI X (.Name x px) iter wi)(ht:∀ cl C s H fp,PT (cxCompC X x N' scope cl C s H fp) cd tc)(he:∀ cl C s H fp,PE (cxCompC X x N' scope cl C s H fp) elt te)
  (hN:X.N.Nodup) (hy:X.N[i]?=some y) (hyl:X.env.scope.names.lookup y=some .local)
  (hsw:swapsWith (.ListComp elt [⟨.Name x px,iter,[cd],0⟩] scope pos) (some (.Name y py)) spos.line X.env=pure true:=by rfl)
  (hs:∀ x,foldedSetIterable iter X.env x=pure x:=by intro _;rfl):PS X (.Assign [.Name y py] (.ListComp elt [⟨.Name x px,iter,[cd],0⟩] scope pos) spos) (tAsg (tCompF wi tc te) (gName i)) :=
 ps_setCompCx (at':=fun σ Q=>compAtF tc te σ Q) S hc hi (fun _ _ _ _ _=>ptl_one (ht _ _ _ _ _)) he (fun _ _ _ _ h=>h) hN hy hyl hsw hs
end
theorem compFL {J:It}{vs:List V}{tc:TT}{te:TE}{σ:St}{H:Hp}{Q:VK}(p:V->Bool)(g:V->List V)(rd:Reads J H vs)(hn:vs.length<=sizeLine)
  (ht:∀ x H',x∈vs->Same H H'->∀ N:Bool->Hp->Prop,(∀ H'',Same H' H''->N (p x) H'')->tc (some x::σ) H' N)
  (he:∀ x H',x∈vs->p x=true->Same H H'->∀ N:V->Hp->Prop,(∀ c H'',Same H' H''->H' c=none->H'' c=some (.lst (g x))->N (.ref c) H'')->te (some x::σ) H' N)
  (hq:∀ D bs H',H D=none->Same H H'->H' D=some (.lst (bs.map V.ref))->Dt.R2 (fun v b=>b≠D∧H b=none∧H' b=some (.lst (g v))) (vs.filter p) bs->Q (.ref D) H'):compAtF tc te σ Q J H:=by
 intro D hD
 refine ⟨fun i m ys H2=>m=vs.length-i∧i<=vs.length∧Same H H2∧H2 D=some (.lst ys)∧∃ bs:List Addr,ys=bs.map V.ref∧Dt.R2 (fun v b=>b≠D∧H b=none∧H2 b=some (.lst (g v))) ((vs.take i).filter p) bs,⟨vs.length,rfl,Nat.zero_le _,fun b o e=>?_,upd_same,[],rfl,.nil⟩,?_⟩
 ·rw [upd_ne (ne_of_none e hD)]
  exact e
 ·rintro i m ys H2 ⟨rfl,hi,hs,hd,bs,rfl,hb⟩
  by_cases hlt:i<vs.length
  ·have hx:vs[i]?=some vs[i]:=List.getElem?_eq_getElem hlt
   have hbl:bs.length<=i:=by have:=hb.len;have:=filter_take_len p vs i;omega
   refine .inr ⟨rd.go i H2 hs hlt,by rw [List.length_map];omega,fun v H'=>p vs[i]=true∧Same H2 H'∧∃ c,v = .ref c∧c≠D∧H c=none∧H' c=some (.lst (g vs[i])),fun v H' ⟨hp,hs',c,ev,hcD,hcn,hc⟩=>⟨hs' D _ hd,vs.length-(i+1),by omega,rfl,hlt,fun b o e=>?kp,upd_same,bs++[c],?app,?la⟩,
    fun H'=>p vs[i]=false∧Same H2 H',fun H' ⟨hp,hs'⟩=>⟨vs.length-(i+1),by omega,rfl,hlt,fun b o e=>hs' b o (hs b o e),hs' D _ hd,bs,rfl,?skp⟩,fun y H' hy=>?stp⟩
   case app =>
    rw [ev,List.map_append]
    rfl
   case kp =>
    rw [upd_ne (ne_of_none e hD)]
    exact hs' b o (hs b o e)
   case la =>
    rw [take_filter p vs i _ hx,hp]
    refine Dt.R2.snoc (hb.mono fun v b _ ⟨h1,h0,h2⟩=>⟨h1,h0,by rw [upd_ne h1];exact hs' b _ h2⟩) ⟨hcD,hcn,by rw [upd_ne hcD];exact hc⟩
   case skp =>
    rw [take_filter p vs i _ hx,hp]
    rw [show (if false=true then [vs[i]] else [])=[] from rfl,List.append_nil]
    exact hb.mono fun v b _ ⟨h1,h0,h2⟩=>⟨h1,h0,hs' b _ h2⟩
   case stp =>
    obtain ⟨rfl,e2⟩:=rd.yl i H2 y H' hs hy
    have e4:y=vs[i]:=by rw [hx] at e2;exact (Option.some.inj e2).symm
    subst e4
    refine ht _ _ (List.getElem_mem hlt) hs _ fun H'' h''=>?_
    by_cases hp:p vs[i]=true
    ·rw [if_pos hp]
     refine he _ _ (List.getElem_mem hlt) hp (hs.trans h'') _ fun c H3 h3 hc1 hc2=>⟨hp,h''.trans h3,c,rfl,fun z=>?_,?_,hc2⟩
     ·rw [z,h'' D _ hd] at hc1;cases hc1
     ·cases e:H c with
      | none=>rfl
      | some o=>rw [h'' c o (hs c o e)] at hc1;cases hc1
    ·rw [if_neg hp]
     exact ⟨by simpa using hp,h''⟩
  ·have e:i=vs.length:=by omega
   subst e
   rw [List.take_length] at hb
   exact .inl ⟨rd.st H2 hs,hq D bs H2 hD hs hd hb⟩
end L2
namespace L2
open PySem PyProof.Rows
section
variable {X:Cx}{tg:Expr}
end
end L2
namespace L2
open PySem PyProof.Rows
theorem compAtF.un {te:TE}{σ:St}{Q:VK}{J:It}{H:Hp}(hw:compAtF (fun _ H k=>k true H) te σ Q J H):compAt te σ Q J H:=fun D hD=>by
 obtain ⟨W,h0,hW⟩:=hw D hD
 refine ⟨W,h0,fun i m ys H2 hw2=>?_⟩
 rcases hW i m ys H2 hw2 with g | ⟨g1,g2,N,g3,Nn,g4,g5⟩
 ·exact .inl g
 ·refine .inr ⟨g1,g2,N,g3,fun y H' hy=>?_⟩
  have:=g5 y H' hy
  dsimp only at this
  rw [if_pos rfl] at this
  exact this
theorem compL {J:It}{vs:List V}{te:TE}{σ:St}{H:Hp}{Q:VK}(g:V->List V)(rd:Reads J H vs)(hn:vs.length<=sizeLine)
  (he:∀ x H',x∈vs->Same H H'->∀ N:V->Hp->Prop,(∀ c H'',Same H' H''->H' c=none->H'' c=some (.lst (g x))->N (.ref c) H'')->te (some x::σ) H' N)
  (hq:∀ D bs H',H D=none->Same H H'->H' D=some (.lst (bs.map V.ref))->Dt.R2 (fun v b=>b≠D∧H b=none∧H' b=some (.lst (g v))) vs bs->Q (.ref D) H'):compAt te σ Q J H:=by
 refine compAtF.un (compFL (fun _=>true) g rd hn (fun x H' _ s N hN=>hN H' (Same.refl _)) (fun x H' hx _ s N hN=>he x H' hx s N hN) fun D bs H' h1 h2 h3 h4=>?_)
 rw [List.filter_eq_self.mpr fun _ _=>rfl] at h4
 exact hq D bs H' h1 h2 h3 h4
def rdL (H:Hp)(v:V):List V:=match v with
 | .ref b=>match H b with
  | some (.lst xs)=>xs
  | _=>[]
 | _=>[]
theorem rdL_at {H:Hp}{b:Addr}{xs:List V}(h:H b=some (.lst xs)):rdL H (.ref b)=xs:=by
 unfold rdL
 dsimp only
 rw [h]
end L2
namespace L2
open PySem PyProof.Rows PySem.Spec
section
variable {X:Cx}
end
end L2
namespace L2
open PySem PyProof.Rows PySem.Spec
section
variable {X:Cx}
end
end L2
namespace L2
open PySem
end L2
namespace L2
open PySem PyProof.Rows
section
variable {X:Cx}
end
end L2
namespace L2
open PySem PyProof.Rows PySem.Spec
section
variable {X:Cx}
end
end L2
namespace L2
open PySem PyProof.Rows PySem.Spec
section
variable {X:Cx}
theorem call_allB (hc:X.calm=true):CallR X (.builtin "all") (fun xs H Q=>∃ (p:Addr) (bs:List Bool),xs=[.ref p]∧SqL X.K H p (bs.map V.bl)∧Q (.bl (bs.all id)) H):=by
 intro pins s σ H xs us Q I r h
 obtain ⟨p,bs,rfl,hq,q⟩:=h
 obtain ⟨u,rfl,ru⟩:=vals1 r
 cases ru
 obtain ⟨its,rv,pl,_⟩:=I.list hq
 have hlen:=rv.length
 rw [List.length_map] at hlen
 have hat:∀ (i:Nat) (v:Value),its.toArray[i]?=some v->v = .bool (bs.getD i false):=fun i v e=>by
  have hi:i<bs.length:=by
   have:=(Array.getElem?_eq_some_iff.mp e).1
   rw [List.size_toArray] at this
   omega
  obtain ⟨w',e1,q1⟩:=rv.get (i:=i) (x:=.bl bs[i]) (by rw [List.getElem?_map,List.getElem?_eq_getElem hi];rfl)
  rw [List.getElem?_toArray,e1] at e
  obtain rfl:=Option.some.inj e
  rw [List.getD_eq_getElem?_getD,List.getElem?_eq_getElem hi]
  exact q1
 have hall:(List.range its.toArray.size).all (fun i=>bs.getD i false)=bs.all id:=by
  rw [List.size_toArray,<- hlen,Bool.eq_iff_iff,List.all_eq_true,List.all_eq_true]
  constructor
  ·intro h b hb
   obtain ⟨i,hi⟩:=List.getElem?_of_mem hb
   have hil:=(List.getElem?_eq_some_iff.mp hi).1
   have:=h i (List.mem_range.mpr hil)
   rw [List.getD_eq_getElem?_getD,hi] at this
   exact this
  ·intro h i hi
   have hil:=List.mem_range.mp hi
   rw [List.getD_eq_getElem?_getD,List.getElem?_eq_getElem hil]
   exact h _ (List.getElem_mem hil)
 have hne:p≠s.heap.objs.size:=by
  obtain ⟨o,ho,_⟩:=id pl.isList
  exact Nat.ne_of_lt (Heap.lt_size ho)
 refine call_all_walk (wpAny_pyIter_list pl.isList ⟨s.heap.objs.size,[s.heap.objs.size,p],[s.heap.objs.size],its.toArray.size,_,_,fun i=>bs.getD i false,rfl,Walks.list (A:=X.A.in1) (show X.A.in1.handled=none from I.ok.hd hc) s.heap.objs.size p hne its.toArray,⟨⟨_,Heap.get?_push_size _ rfl,rfl,rfl⟩,pl.isList.at fun o e=>Heap.get?_push_of_some _ e⟩,?_,fun h' tk hk=>?_⟩)
 ·intro i v s' Q' E' hP hQ
  rw [hat i v hP]
  exact wpAny_truthy_bool hQ
 ·rw [hall]
  exact ⟨.bl _,H,I.kept (fun b o e=>hk b o (by simp;exact Nat.ne_of_lt (Heap.lt_size e)) (Heap.get?_push_of_some _ e)),rfl,q⟩
end
end L2
namespace L2
open PySem
section
variable {X:Cx}
theorem ps_wk {st:Stmt}{t t':TS}(h:PS X st t)(hw:∀ (D:Ends) (σ:St) (H:Hp),t' D σ H->t D σ H):PS X st t':=fun pins s σ H D I q=>h pins s σ H D I (hw D σ H q)
end
end L2
namespace L2
open PySem PyProof.Rows
section
variable {X:Cx}
end
end L2
namespace L2
open PySem PySem.Spec PyProof.Rows
section
variable {X:Cx}
end
end L2
namespace L2
open PySem PySem.Spec PyProof.Rows
theorem call_intB {X:Cx}:CallR X (.type "int") (fun xs H Q=>∃ b:Bool,xs=[.bl b]∧Q (.int (if b then 1 else 0)) H):=by
 intro pins s σ H xs us Q I r h
 obtain ⟨b,rfl,q⟩:=h
 obtain ⟨u,rfl,ru⟩:=vals1 r
 obtain rfl:u = .bool b:=ru
 exact call_int_bool ⟨.int (if b then 1 else 0),H,I.tok _,⟨_,rfl⟩,q⟩
end L2
namespace LT
open PySem PyProof.Rows L2
section
variable {prog:Program}{w:World}{A:Around}{R:Result->Shared->Prop}{s:Shared}{l b:Addr}{its jts:Array Value}
end
section
variable {X:Cx}
end
end LT
namespace L2
open PySem PyProof.Rows PySem.Spec
section
variable {X:Cx}{e:Expr}{ta:TE}{f:Str}{pos:Pos}
end
end L2
namespace L2
open PySem PyProof.Rows PySem.Spec
section
variable {X:Cx}
end
end L2
set_option autoImplicit false
namespace SR
open PySem PyProof.Rows PySem.Spec
section
variable {prog:Program}{w:World}{A:Around}{E:Value->Shared->Prop}{s:Shared}{z:Array Keyed}{κ:KeyKind}{kd:SortKind}
end
section
variable {prog:Program}{w:World}{A:Around}{E:Value->Shared->Prop}{s:Shared}
end
end SR
set_option autoImplicit false
namespace LT
open PySem PyProof.Rows L2 SR
section
variable {prog:Program}{w:World}{A:Around}{R:Result->Shared->Prop}{s:Shared}{l b:Addr}{its jts:Array Value}
end
def keyL (f:Addr->Option (List (List Nat))):Value->Option (List (List Nat))
 | .ref a=>f a
 | _=>none
@[reducible] noncomputable def kindL (f:Addr->Option (List (List Nat))):KeyKind where
 α:=List (List Nat)
 blt a b:=decide (a<b)
 irrefl a:=by simpa using List.lt_irrefl a
 trans a b c h1 h2:=by simp only [decide_eq_true_eq] at *;exact List.lt_trans h1 h2
 negTrans a b c h:=by
  simp only [decide_eq_true_eq] at *
  by_cases hab:a<b
  ·exact .inl hab
  ·exact .inr (List.lt_of_le_of_lt (List.not_lt.mp hab) h)
 total a b h1 h2:=by simp only [decide_eq_false_iff_not] at *;exact List.le_antisymm (List.not_lt.mp h2) (List.not_lt.mp h1)
 keyOf:=keyL f
 dflt:=[]
end LT
namespace L2
open PySem PyProof.Rows PySem.Spec SR
section
variable {X:Cx}
def LLs (K:PySem.W.Frag)(H:Hp)(us:List (List (List Nat)))(bs:List Addr):Prop:=Dt.R2 (fun u b=>SqL K H b (u.map T)) us bs
end
end L2
namespace L2
open PySem PySem.Spec PyProof.Rows
def spl (c:Nat):List Nat->List (List Nat)
 | []=>[[]]
 | a::t=>if a=c then []::spl c t else match spl c t with
  | h::r=>(a::h)::r
  | []=>[[a]]
theorem spl_ne (c:Nat):∀ t,∃ h r,spl c t=h::r
 | []=>⟨[],[],rfl⟩
 | a::t=>by
  obtain ⟨h,r,e⟩:=spl_ne c t
  by_cases g:a=c
  ·exact ⟨[],spl c t,if_pos g⟩
  ·refine ⟨a::h,r,?_⟩
   show (if a=c then _ else _)=_
   rw [if_neg g,e]
def jnS (g:List Nat):List (List Nat)->List Nat
 | []=>[]
 | [l]=>l
 | l::m::r=>l++g++jnS g (m::r)
section
open Builtin Builtin.Str StrLaws
theorem occ1_go {t:List Nat}{c:Nat}:∀ (k a:Nat) (st:Array Nat×Nat),a+k<=t.length+1->st.snd<=a->st.fst.size<=a ->
  (forIn (List.range' a k) st (occBody (tx t) (tx [c]) (tx t).length ((tx t).length+1))).run.fst.toList=st.fst.toList++(List.range' a k).filter fun i=>decide (t[i]?=some c)
 | 0,a,st,_,_,_=>by simp
 | k+1,a,st,h1,h2,h3=>by
  have hl:(tx t).length=t.length:=tx_len t
  rw [List.range'_succ,List.forIn_cons]
  have hs:=subAt_one (tx t) c a
  rw [tx_cps] at hs
  have hx:(⟨#[c]⟩:Str)=tx [c]:=rfl
  rw [hx] at hs
  unfold occBody
  by_cases e:t[a]?=some c
  ·obtain ⟨g1,g2⟩:=hs.mpr e
   rw [if_pos ⟨⟨⟨by omega,h2⟩,g1⟩,g2⟩]
   rw [List.filter_cons_of_pos (p:=fun i=>decide (t[i]?=some c)) (decide_eq_true e)]
   have ih:=occ1_go (t:=t) (c:=c) k (a+1) (st.fst.push a,a+(tx [c]).length) (by omega) (by show a+(tx [c]).length<=a+1;rw [tx_len];exact Nat.le_refl _) (by show (st.fst.push a).size<=a+1;rw [Array.size_push];omega)
   refine ih.trans ?_
   rw [Array.toList_push,List.append_assoc]
   rfl
  ·rw [if_neg (fun z=>e (hs.mp ⟨z.1.2,z.2⟩))]
   rw [List.filter_cons_of_neg (p:=fun i=>decide (t[i]?=some c)) (fun z=>e (of_decide_eq_true z))]
   exact occ1_go (t:=t) (c:=c) k (a+1) (st.fst,st.snd) (by omega) (by show st.snd<=a+1;omega) (by show st.fst.size<=a+1;omega)
theorem occ1 (t:List Nat)(c:Nat):occurrences (tx t) (tx [c]) 0 (tx t).length ((tx t).length+1)=(List.range' 0 (t.length+1)).filter fun i=>decide (t[i]?=some c):=by
 have hl:(tx t).length=t.length:=tx_len t
 rw [occ_eq,show (tx t).length+1-0=t.length+1 by omega]
 have:=occ1_go (t:=t) (c:=c) (t.length+1) 0 (#[],0) (by omega) (Nat.le_refl _) (Nat.le_refl _)
 simpa using this
theorem sub_tx (t:List Nat)(a b:Nat):strSub (tx t) a b=tx ((t.drop a).take (b-a)):=by
 apply Str.ext'
 apply Array.toList_inj.mp
 rw [strSub_toList,tx_cps,tx_cps]
theorem parts1 (t:List Nat)(c:Nat):∀ (k a:Nat),a+k=t.length->partsFrom (tx t) 1 a ((List.range' a (k+1)).filter fun i=>decide (t[i]?=some c))=(spl c (t.drop a)).map tx
 | 0,a,h=>by
  have hl:(tx t).length=t.length:=tx_len t
  have e:t.drop a=[]:=List.drop_eq_nil_of_le (by omega)
  rw [e,show List.range' a (0+1)=[a] from rfl,List.filter_cons_of_neg (p:=fun i=>decide (t[i]?=some c)) (fun z=>by have:=of_decide_eq_true z;rw [List.getElem?_eq_none (by omega)] at this;cases this),List.filter_nil]
  show [strSub (tx t) a (tx t).length]=[tx []]
  rw [sub_tx,e,List.take_nil]
 | k+1,a,h=>by
  have hl:(tx t).length=t.length:=tx_len t
  have ih:=parts1 t c k (a+1) (by omega)
  have hd:t.drop a=t[a]::t.drop (a+1):=List.drop_eq_getElem_cons (by omega)
  have ha:t[a]?=some t[a]:=List.getElem?_eq_getElem (by omega)
  rw [List.range'_succ,hd]
  by_cases e:t[a]=c
  ·rw [List.filter_cons_of_pos (p:=fun i=>decide (t[i]?=some c)) (decide_eq_true (by rw [ha,e]))]
   show strSub (tx t) a a::partsFrom (tx t) 1 (a+1) _=_
   rw [ih,sub_tx,Nat.sub_self,List.take_zero]
   show _=(if t[a]=c then []::spl c (t.drop (a+1)) else _).map tx
   rw [if_pos e]
   rfl
  ·rw [List.filter_cons_of_neg (p:=fun i=>decide (t[i]?=some c)) (fun z=>e (Option.some.inj (ha.symm.trans (of_decide_eq_true z))))]
   have hgt:∀ i∈(List.range' (a+1) (k+1)).filter fun i=>decide (t[i]?=some c),a+1<=i:=fun i hi=>by
    have:=(List.mem_range'_1.mp (List.mem_filter.mp hi).1).1
    exact this
   obtain ⟨q,r,e2⟩:=spl_ne c (t.drop (a+1))
   have e3:spl c (t[a]::t.drop (a+1))=(t[a]::q)::r:=by
    show (if t[a]=c then _ else _)=_
    rw [if_neg e,e2]
   rw [e3]
   rw [e2] at ih
   generalize (List.range' (a+1) (k+1)).filter (fun i=>decide (t[i]?=some c))=cu at ih hgt
   have hone:∀ b,a+1<=b->strSub (tx t) (a+1) b=tx q->strSub (tx t) a b=tx (t[a]::q):=fun b hb hq=>by
    rw [sub_tx] at hq ⊢
    rw [hd,show b-a=(b-(a+1))+1 by omega,List.take_succ_cons,tx_inj hq]
   cases cu with
   | nil =>
    have g:strSub (tx t) (a+1) (tx t).length=tx q∧([]:List Str)=r.map tx:=List.cons.inj ih
    show [strSub (tx t) a (tx t).length]=_
    rw [hone _ (by omega) g.1,List.map_cons,<- g.2]
   | cons b cu =>
    have g:strSub (tx t) (a+1) b=tx q∧partsFrom (tx t) 1 (b+1) cu=r.map tx:=List.cons.inj ih
    show strSub (tx t) a b::partsFrom (tx t) 1 (b+1) cu=_
    rw [hone _ (hgt b (List.mem_cons_self ..)) g.1,g.2,List.map_cons]
theorem split_tx (t:List Nat)(c:Nat)(hc:c<256):Txt.split (tx t) (tx [c])=(spl c t).map tx:=by
 have hl:(tx t).length=t.length:=tx_len t
 have key:=parts1 t c t.length 0 (by omega)
 rw [List.drop_zero] at key
 unfold Txt.split
 by_cases h0:t.length=0
 ·obtain rfl:=List.length_eq_zero_iff.mp h0
  rw [if_pos (by rw [Bool.or_eq_true,decide_eq_true_iff];exact .inl (by rw [tx_len,tx_len];exact Nat.lt_succ_self 0))]
  rfl
 ·have hk:Builtin.Str.strKind (tx [c])=1:=by
   unfold Builtin.Str.strKind
   rw [if_pos (by simp [tx,hc])]
  have hk2:1<=Builtin.Str.strKind (tx t):=by
   unfold Builtin.Str.strKind
   split
   ·exact Nat.le_refl _
   ·split <;> omega
  have hno:¬ (decide ((tx t).length<(tx [c]).length)||decide (Builtin.Str.strKind (tx t)<Builtin.Str.strKind (tx [c])))=true:=by
   rw [Bool.or_eq_true,decide_eq_true_iff,decide_eq_true_iff,hk,tx_len,tx_len]
   rintro (z | z)
   ·have:t.length<1:=z
    omega
   ·omega
  rw [if_neg hno,occ1,partsBetween_eq,show (tx [c]).length=1 from tx_len [c]]
  by_cases he:((List.range' 0 (t.length+1)).filter fun i=>decide (t[i]?=some c)).isEmpty=true
  ·rw [if_pos he]
   rw [List.isEmpty_iff.mp he] at key
   rw [<- key]
   show _=[strSub (tx t) 0 (tx t).length]
   rw [sub_tx,List.drop_zero,Nat.sub_zero,hl,List.take_length]
  ·rw [if_neg he]
   exact key
end
end L2
namespace L2
open PySem PySem.Spec PyProof.Rows
section
open Builtin Builtin.Str
theorem split_here {prog:Program}{w:World}{A:Around}{E:Value->Shared->Prop}{s:Shared}{x y:Str}{t u:Tok}{Q:Value->Shared->Prop}(hy:(y.length==0)=false)
  (hq:∀ (l:List (Str×Tok)) (k:Nat),l.map (·.1)=Txt.split x y->Q (.ref s.heap.objs.size) { s with toks:=k,heap:=s.heap.push { cls:=.type "list",data:=.seq (strValues l).toArray } })
  (hsz:x.length<=sizeLine) (hs2:(partsBetween x (occurrences x y 0 x.length (x.length+1)) y.length).length<=sizeLine) :
  wpAny (model prog w) A (call (.builtin "str.split") [.str x t,.str y u]) Q E s:=by
 have hd:∀ b:Bool,b=true∨b=false:=fun b=>by cases b <;> simp
 rcases hd (decide (x.length<y.length)||decide (Builtin.Str.strKind x<Builtin.Str.strKind y)) with h1 | h1
 ·refine call_meets F.slot_str_split (typeIs_str _ _ _) F.entry_str_split (F.args_str_split_2 _ _)
   (meets_str_split_cannot_occur x y t u h1) ?_
  exact hq [(x,t)] s.toks (if_pos h1).symm
 rcases hd (occurrences x y 0 x.length (x.length+1)).isEmpty with hf | hf
 ·refine call_meets F.slot_str_split (typeIs_str _ _ _) F.entry_str_split (F.args_str_split_2 _ _)
   (meets_str_split_not_found x y t u h1 hy hf) ?_
  exact hq [(x,t)] s.toks ((if_neg (ne_true_of_eq_false h1)).trans (if_pos hf)).symm
 ·refine call_meets F.slot_str_split (typeIs_str _ _ _) F.entry_str_split (F.args_str_split_2 _ _)
   (meets_str_split_sep x y t u h1 hy hf hsz hs2) ?_
  have e:=strsFrom_eq s.toks (partsBetween x (occurrences x y 0 x.length (x.length+1)) y.length)
  have z:=fun k=>hq (numbered s.toks (partsBetween x (occurrences x y 0 x.length (x.length+1)) y.length)) k ((numbered_texts _ _).trans ((if_neg (ne_true_of_eq_false h1)).trans (if_neg (ne_true_of_eq_false hf))).symm)
  simp only [<- e] at z
  exact z _
end
theorem jnS_app {g:List Nat}(a b:List Nat):∀ r:List (List Nat),jnS g ((a++b)::r)=a++jnS g (b::r)
 | []=>rfl
 | m::r=>by
  show a++b++g++jnS g (m::r)=a++(b++g++jnS g (m::r))
  simp
theorem joinS_tx (g:List Nat)(ls:List (List Nat)):Txt.join (tx g) (ls.map tx)=tx (jnS g ls):=by
 unfold Txt.join Builtin.Str.glued
 have key:∀ (r:List (List Nat)) (a:List Nat),(r.map tx).foldl (fun acc (p:Str)=>acc++(tx g).cps++p.cps) (tx a).cps=(tx (jnS g (a::r))).cps:=by
  intro r
  induction r with
  | nil=>intro a;rfl
  | cons m r ih =>
   intro a
   rw [List.map_cons,List.foldl_cons,show (tx a).cps++(tx g).cps++(tx m).cps=(tx (a++g++m)).cps by simp [tx],ih,jnS_app]
   show (tx (a++g++jnS g (m::r))).cps=_
   rfl
 cases ls with
 | nil=>rfl
 | cons l ls =>
  rw [List.map_cons,List.drop_succ_cons,List.drop_zero,List.headD_cons,key]
section
variable {X:Cx}
theorem mt_split:MtR X "str.split" (fun x xs H Q=>∃ (t:List Nat) (c:Nat),x=T t∧xs=[T [c]]∧c<256∧t.length+2<=sizeLine∧∀ D,H D=none->Q (.ref D) (upd H D (.lst ((spl c t).map T)))):=by
 intro pins s σ H x xs v us Q I rx rs h
 obtain ⟨t,c,rfl,rfl,hc,hz,q⟩:=h
 obtain ⟨tk,rfl⟩:=rx
 obtain ⟨u,rfl,ru⟩:=vals1 rs
 obtain ⟨tk2,rfl⟩:=ru
 have hlen:(Builtin.Str.partsBetween (tx t) (Builtin.Str.occurrences (tx t) (tx [c]) 0 (tx t).length ((tx t).length+1)) (tx [c]).length).length<=sizeLine:=by
  have h1:=StrLaws.occ_length_le_len (tx t) (tx [c]) 0 (tx t).length ((tx t).length+1)
  rw [length_partsBetween]
  rw [tx_len] at h1
  rw [tx_len]
  omega
 refine split_here (by rw [tx_len];rfl) (fun l k hl=>?_) (by rw [tx_len];omega) hlen
 rw [split_tx t c hc] at hl
 have hv:Vals ((spl c t).map T) (strValues l):=by
  have z:=strs_back (strsAre_of_values l)
  rw [hl,List.map_map,List.map_map] at z
  have e:(spl c t).map (T∘(fun x:Str=>x.cps.toList)∘tx)=(spl c t).map T:=List.map_congr_left fun y _=>by show T (tx y).cps.toList=T y;rw [tx_cps]
  rw [<- e]
  exact z
 have hsz:((spl c t).map T).length<=sizeLine:=by
  have h2:=congrArg List.length (split_tx t c hc)
  rw [List.length_map] at h2 ⊢
  have h3:(Txt.split (tx t) (tx [c])).length<=(Builtin.Str.partsBetween (tx t) (Builtin.Str.occurrences (tx t) (tx [c]) 0 (tx t).length ((tx t).length+1)) (tx [c]).length).length:=by
   unfold Txt.split
   have h4:=length_partsBetween (tx t) (Builtin.Str.occurrences (tx t) (tx [c]) 0 (tx t).length ((tx t).length+1)) (tx [c]).length
   split
   ·rw [h4];exact Nat.succ_le_succ (Nat.zero_le _)
   ·split
    ·rw [h4];exact Nat.succ_le_succ (Nat.zero_le _)
    ·exact Nat.le_refl _
  omega
 exact ⟨.ref s.heap.objs.size,_,I.lnew (t':=k) hv hsz,rfl,q _ I.fresh⟩
theorem mt_joinS:MtR X "str.join" (fun x xs H Q=>∃ (g:List Nat) (p:Addr) (ls:List (List Nat)),x=T g∧xs=[.ref p]∧SqL X.K H p (ls.map T)∧ls.flatten.length+ls.length*g.length<=sizeLine∧Q (T (jnS g ls)) H):=by
 intro pins s σ H x xs v us Q I rx rs h
 obtain ⟨g,p,ls,rfl,rfl,hq,hz,q⟩:=h
 obtain ⟨t,rfl⟩:=rx
 obtain ⟨u,rfl,ru⟩:=vals1 rs
 cases ru
 obtain ⟨its,r,pl,_⟩:=I.list hq
 have hs:sizeLine=16777216:=sizeLine_eq
 refine join_list pl.isList (ys:=ls.map tx) (by simpa using strsAre_T r) ?_ fun t' k=>⟨T (jnS g ls),H,I.tok _,⟨t',by rw [joinS_tx]⟩,q⟩
 rw [sum_len_tx,tx_len,List.length_map]
 omega
def dgI (a:Int):List Nat:=(Str.ofString (toString a)).cps.toList
theorem call_strI:CallR X (.type "str") (fun xs H Q=>∃ a:Int,xs=[.int a]∧a.natAbs.log2<1920∧Q (T (dgI a)) H):=by
 intro pins s σ H xs us Q I r h
 obtain ⟨a,rfl,ha,q⟩:=h
 obtain ⟨u,rfl,ru⟩:=vals1 r
 obtain ⟨t,rfl⟩:=ru
 refine P.str_of_int ha ⟨T (dgI a),H,I.tok _,⟨s.toks,?_⟩,q⟩
 show Value.str _ _=Value.str (tx (dgI a)) _
 rw [dgI,tx_eta]
theorem call_intT:CallR X (.type "int") (fun xs H Q=>∃ (t:List Nat) (n:Int),xs=[T t]∧t.length<=640∧PySem.intText? (tx t)=some n∧Q (.int n) H):=by
 intro pins s σ H xs us Q I r h
 obtain ⟨t,n,rfl,hl,hn,q⟩:=h
 obtain ⟨u,rfl,ru⟩:=vals1 r
 obtain ⟨tk,rfl⟩:=ru
 exact PySem.W.KIN.call_text hn (by rw [tx_len];exact hl) ⟨.int n,H,I.tok _,⟨_,rfl⟩,q⟩
end
end L2
namespace L2
open PySem PySem.Spec PyProof.Rows
def tupLook (K:PySem.W.Frag)(d:List (List Nat))(v:Value):Bool:=match v with
 | .ref b=>match K.lookup b with
  | some o=>match o.cls,o.data with
   | .type "tuple",.seq its _=>decide (its.size<=1000)&&(its.toList.map fun v=>match v with | .str x _=>some x | _=>none)==d.map fun z=>some (tx z)
   | _,_=>false
  | none=>false
 | _=>false
theorem vals_look:∀ (ns:List (List Nat)) (us:List Value),(us.map fun v=>match v with | .str x _=>some x | _=>none)=ns.map (fun z=>some (tx z))->Vals (ns.map T) us
 | [],[],_=>.nil
 | [],_::_,h=>by cases h
 | _::_,[],h=>by cases h
 | n::ns,u::us,h=>by
  rw [List.map_cons,List.map_cons,List.cons.injEq] at h
  refine .cons ?_ (vals_look ns us h.2)
  have h1:=h.1
  split at h1
  ·obtain rfl:=Option.some.inj h1
   exact ⟨_,rfl⟩
  ·cases h1
theorem tupLook_of {K:PySem.W.Frag}(H:Hp){d:List (List Nat)}{v:Value}(h:tupLook K d v=true):∃ b,v = .ref b∧SqT K H b (d.map T):=by
 unfold tupLook at h
 split at h
 ·rename_i b
  refine ⟨b,rfl,?_⟩
  split at h
  ·rename_i o hk
   split at h
   ·rename_i its n hc hd
    rw [Bool.and_eq_true,decide_eq_true_iff,beq_iff_eq] at h
    exact .inr ⟨o,its,n,hk,hc,hd,Nat.le_trans h.1 (by rw [sizeLine_eq];decide),vals_look d _ h.2⟩
   ·cases h
  ·cases h
 ·cases h
abbrev TabD:=List (List Nat×List (List Nat))
def tabS (D:TabD):List (Str×List (List Nat)):=D.map fun p=>(tx p.1,p.2)
def tabIs (K:PySem.W.Frag)(a:Addr)(D:TabD):Bool:=KTD.tabLook (tupLook K) (fun b=>K.lookup b) a (tabS D)
def tabAt (t:List Nat):TabD->Option (List (List Nat))
 | []=>none
 | (x,d)::D=>if t=x then some d else tabAt t D
theorem datum_tab (t:List Nat):∀ D:TabD,KTD.datumAt (tx t) (tabS D)=tabAt t D
 | []=>rfl
 | (x,d)::D=>by
  show (if decide (tx t=tx x)=true then some d else KTD.datumAt (tx t) (tabS D))=if t=x then some d else tabAt t D
  rw [datum_tab t D]
  by_cases h:t=x
  ·rw [if_pos h,if_pos (decide_eq_true (by rw [h]))]
  ·rw [if_neg h,if_neg fun z=>h (tx_inj (of_decide_eq_true z))]
section
variable {X:Cx}{pins:List (Addr×Obj)}{σ:St}{H:Hp}{s:Shared}{a:Addr}{D:TabD}
abbrev TabR (K:PySem.W.Frag)(H:Hp):List (List Nat)->Value->Prop:=fun d v=>∃ b,v = .ref b∧SqT K H b (d.map T)
theorem tab_inv (I:Inv X pins σ H s)(h:tabIs X.K a D=true):KTD.TabOf (TabR X.K H) s.heap a (tabS D) :=
 KTD.tab_of_look (fun _ _ z=>tupLook_of H z) (fun b o z=>I.kIn b o z) h
theorem tab_typeIs (I:Inv X pins σ H s)(h:tabIs X.K a D=true):s.TypeIs (.ref a) "dict" ∧ ∀ b,Value.ref a = .ref b->∃ ob,s.heap.get? b=some ob∧ob.dict=none:=by
 obtain ⟨_,o,_,_,ho,hc,_⟩:=tab_inv I h
 exact ⟨⟨o,ho,hc.1⟩,fun b e=>by cases e;exact ⟨o,ho,hc.2.1⟩⟩
def TabV (K:PySem.W.Frag)(H:Hp)(o:Option (List (List Nat)))(v:Option Value):Prop:=match o,v with
 | some d,some v=>TabR K H d v
 | none,none=>True
 | _,_=>False
theorem tab_get (I:Inv X pins σ H s)(h:tabIs X.K a D=true)(t:List Nat):∃ v,TabV X.K H (tabAt t D) v∧∀ (A:Around) (tk:Tok) (Q:Option Value->Shared->Prop) (E:Value->Shared->Prop),Q v { s with toks:=s.toks+1 }->wpAny (model X.prog X.w) A (dictGet a (.str (tx t) tk)) Q E s:=by
 obtain ⟨_,o,es,ep,ho,_,hd,hr⟩:=tab_inv I h
 have hall:(es.all fun e=>isExactStrKey e.key)=true:=by
  rw [<- Array.all_toList]
  exact hr.exact
 have hf:findBy (fun k v=>v.isStr k) es (tx t)=(es.toList.find? fun e=>e.key.isStr (tx t)).map (·.val):=by
  cases es
  simp [findBy]
 refine ⟨findBy (fun k v=>v.isStr k) es (tx t),?_,fun A tk Q E q=>?_⟩
 ·rw [hf,<- datum_tab]
  cases hat:KTD.datumAt (tx t) (tabS D) with
  | none=>rw [hr.find_none hat];trivial
  | some d =>
   obtain ⟨v,hv,hR⟩:=hr.find_some hat
   rw [hv]
   exact hR
 ·unfold dictGet
  try with_reducible refine wpAny_holding ?_
  refine wpAny_bind (wpAny_pyHash_str (wpAny_bind ?_))
  refine KTD.kt_dictFind_strs (o:=o) (es:=es) (ep:=ep) ho hd hall ?_
  rw [findBy_of_findIdx?] at q
  cases hi:es.findIdx? fun e=>e.key.isStr (tx t) with
  | none=>rw [hi] at q;exact wpAny_pure q
  | some i=>rw [hi] at q;exact wpAny_bind (wpAny_dictEntries (s:={ s with toks:=s.toks+1 }) ho hd (wpAny_pure q))
theorem tab_contains (I:Inv X pins σ H s)(h:tabIs X.K a D=true)(t:List Nat)(A:Around)(tk:Tok)(Q:Bool->Shared->Prop)(E:Value->Shared->Prop)(q:Q (tabAt t D).isSome { s with toks:=s.toks+1 }):wpAny (model X.prog X.w) A (contains (.ref a) (.str (tx t) tk)) Q E s:=by
 obtain ⟨ti,_⟩:=tab_typeIs I h
 have hm:=(tab_inv I h).1
 obtain ⟨v,hv,hg⟩:=tab_get I h t
 unfold contains
 try with_reducible refine wpAny_holding ?_
 refine wpAny_bind (wpAny_specialOf ti slot_dict_contains.lookup ?_)
 show wpAny _ _ (if (some (Value.builtin "dict.__contains__")==some Value.none)=true then _ else _) _ E s
 rw [if_neg (by rw [beq_builtin_none];exact Bool.false_ne_true)]
 refine wpAny_bind (wpAny_callSpecialUnlessNone?_slot (name:=Str.ofString "__contains__") ti slot_dict_contains (wpAny_call_entry slot_dict_contains ti entry_dict_contains ?_ (args_dict_contains _ _)))
 show wpAny _ _ (dictGet a (.str (tx t) tk) >>= _) _ _ s
 refine wpAny_bind (hg _ _ _ _ ?_)
 cases hta:tabAt t D with
 | none =>
  rw [hta] at hv q
  cases v with
  | some v=>exact absurd hv id
  | none=>exact wpAny_bind (wpAny_pendingKey_other hm (wpAny_pure ⟨_,rfl,wpAny_truthy_bool q⟩))
 | some d =>
  rw [hta] at hv q
  cases v with
  | none=>exact absurd hv id
  | some v=>exact wpAny_pure ⟨_,rfl,wpAny_truthy_bool q⟩
end
section
variable {X:Cx}
theorem op_in_tab:OpR X (compareOp .In) (fun x y H Q=>∃ (t:List Nat) (a:Addr) (D:TabD),x=T t∧y = .ref a∧tabIs X.K a D=true∧Q (.bl (tabAt t D).isSome) H):=by
 intro pins s σ H x y v u Q I rx ry h
 obtain ⟨t,a,D,rfl,rfl,hD,q⟩:=h
 obtain ⟨tk,rfl⟩:=rx
 cases ry
 show wpAny _ _ (do return Value.bool (<- contains (.ref a) (.str (tx t) tk))) _ _ s
 exact wpAny_bind (tab_contains I hD t _ _ _ _ (wpAny_pure ⟨.bl _,H,I.tok _,rfl,q⟩))
theorem ix_tab:IxR X (fun x y H Q=>∃ (t:List Nat) (a:Addr) (D:TabD) (d:List (List Nat)),x = .ref a∧y=T t∧tabIs X.K a D=true∧tabAt t D=some d∧∀ b,SqT X.K H b (d.map T)->Q (.ref b) H):=by
 intro value slice pins s σ H x y v u Q I rx ry h hs
 obtain ⟨t,a,D,d,rfl,rfl,hD,hd,q⟩:=h
 cases rx
 obtain ⟨tk,rfl⟩:=ry
 obtain ⟨ti,_⟩:=tab_typeIs I hD
 obtain ⟨v,hv,hg⟩:=tab_get I hD t
 rw [hd] at hv
 cases v with
 | none=>exact absurd hv id
 | some v =>
  obtain ⟨b,rfl,hb⟩:=hv
  refine subscriptTail_builtinR (x:=.ref b) ti slot_dict_getitem.lookup ?_ hs
  unfold getItem
  try with_reducible refine wpAny_holding ?_
  refine wpAny_bind (wpAny_sequenceKey ti (by decide) ?_)
  refine wpAny_bind (wpAny_callSpecial?_slot (name:=Str.ofString "__getitem__") ti slot_dict_getitem (wpAny_call_entry slot_dict_getitem ti entry_dict_getitem ?_ (args_dict_getitem _ _)))
  show wpAny _ _ (dictGet a (.str (tx t) tk) >>= _) _ _ s
  exact wpAny_bind (hg _ _ _ _ (wpAny_pure ⟨_,rfl,wpAny_pure ⟨rfl,.ref b,H,I.tok _,rfl,q b hb⟩⟩))
variable {o e f:Expr}{td ty tz:TE}{apos cpos:Pos}
end
end L2
namespace PySem
open Sem (wp)
theorem enum_new1 (l:Addr)(items:Array Value)(n:Nat)(dct:Option Addr)(sl:Array (Option Value))(t:Tok) :
  Meets (Builtin.«enumerate.__new__» ⟨[.type "enumerate",.ref l],[(Str.ofString "start",.int 1 t)]⟩) (fun _ R s=>s.heap.get? l=some { cls:=.type "list",dict:=dct,data:=.seq items n,slots:=sl } ∧
   R (.ok (.ret (.ref (s.heap.push { cls:=.type "list_iterator",data:=.fields #[.ref l,.int 0 0] }).objs.size)))
    { s with heap:=(s.heap.push { cls:=.type "list_iterator",data:=.fields #[.ref l,.int 0 0] }).push { cls:=.type "enumerate",data:=.fields #[.none,.bool false,.ref s.heap.objs.size,rawInt 1,.none,.none] } }) :=
 .of_wp fun prog w A R s h=>by
  obtain ⟨hp,g,d,tk,os⟩:=s
  obtain ⟨hl,h⟩:=h
  have hsub:=sub_enumerate
  have hL:Heap.IsList (Shared.heap ⟨hp,g,d,tk,os⟩) l items:=⟨_,hl,rfl,n,rfl⟩
  wp_walk using AutoSeq1.wpAny_loadPart' hl
  refine wpAny_stack_any fun st=>wpAny_pure ?_
  split
  ·rename_i c _ _ _ _ _
   cases (c==Value.type "enumerate") <;> (wp_walk using AutoSeq1.wpAny_loadPart' hl,wpAny_pyIter_list hL)
   ·exact ⟨_,rfl,h⟩
   ·exact ⟨_,rfl,h⟩
  ·wp_walk using AutoSeq1.wpAny_loadPart' hl,wpAny_pyIter_list hL
   exact ⟨_,rfl,h⟩
theorem ctx_kw {prog:Program}{w:World}{A:Around}{E:Value->Shared->Prop}{s:Shared}{T newId initId:String}{Bn Bi:Builtin}{args:List Value}{kw:List (Str×Value)}{S:Spec}{Q Q₁:Value->Shared->Prop}(ft:TypeCalled T newId initId)
  (hct:checkTypeCall T ⟨args,kw⟩=pure ()) (hcn:checkBuiltinCall newId ⟨.type T::args,kw⟩=pure ()) (eN:entryFor table newId=some Bn) (eI:entryFor table initId=some Bi) (g:Meets (Bn ⟨.type T::args,kw⟩) S) (h:S A.in1 (wants Q₁ E) s)
  (hn:∀ obj s₁,Q₁ obj s₁->s₁.TypeIs obj T∧argsOk initId ⟨obj::args,kw⟩∧∃ Si,Meets (Bi ⟨obj::args,kw⟩) Si∧Si A.in1 (wants (fun r s₂=>r = .none∧Q obj s₂) E) s₁):wpAny (model prog w) A (call (.type T) args kw) Q E s:=by
 obtain ⟨⟨c,tl,hmro⟩,hmade,hsub⟩:(∃ c tl,mroOf (.type T)=pure (c::tl))∧Bind.madeBy (.type T)=pure (some newId)∧isSubtype (.type T) (.type T)=pure true:=⟨ft.mro,ft.made,ft.sub⟩
 refine wpAny_call (codeAny_of_tree (show wpAny _ _ (callAny (.type T) _) _ _ _ from wpAny_pure ⟨Code.quiet_builtin _ (by decide +kernel),codeAny_builtin F.entry_type_call ?_⟩))
 rw [Around.under_plain (weight_type_call_type T args kw) (units_type_call_type T args kw)]
 have h1:=ft.notType
 have h2:=ft.canCreate
 repeat any_goals first | assumption | wp_step
 refine codeAny_mono (codeAny_call_builtin ft.plain eN (wpAny_of_eq hcn (g prog w A.in1 _ s h))) fun r s₁ hr=>?_
 match r,hr with
 | .error e,hr=>exact hr
 | .ok (.ret obj),hr =>
  obtain ⟨hT,hok,Si,gi,hsi⟩:=hn _ _ hr
  have hli:=ft.init.lookup
  have hbi:=ft.init.bind obj
  repeat any_goals first | assumption | wp_step
  refine codeAny_mono (codeAny_call_builtin ft.init.plain eI (ft.init.check _ _ _ _ _ _ _ _ hT hok (gi prog w A.in1 _ s₁ hsi))) fun r₂ s₂ hr₂=>?_
  match r₂,hr₂ with
  | .error e,hr₂=>exact hr₂
  | .ok (.ret r),hr₂ =>
   obtain ⟨rfl,hq⟩:=hr₂
   repeat any_goals first | assumption | wp_step
theorem init_kw {T newId:String}{self:Value}{rest:List Value}{kw:List (Str×Value)}(hl:typeLookup (.type T) "__init__" = pure (some (.builtin "object.__init__")))(hm:Bind.madeBy (.type T)=pure (some newId))(hne:(some newId != some "object.__new__")=true)(a:Value) :
  Meets (Builtin.«object.__init__» ⟨self::a::rest,kw⟩) (fun _ R s=>s.TypeIs self T∧R (.ok (.ret .none)) s):=by
 refine Meets.of_wp fun prog w A R s hs=>?_
 obtain ⟨hT,hq⟩:=hs
 repeat any_goals first | assumption | wp_step
 exact ⟨_,rfl,hq⟩
theorem call_enum1 {prog:Program}{w:World}{A:Around}{E:Value->Shared->Prop}{s:Shared}{l:Addr}{items:Array Value}{t:Tok}{Q:Value->Shared->Prop}(hL:s.heap.IsList l items)
  (h:∀ h',IsEnum h' (s.heap.objs.size+1) s.heap.objs.size 1 .none->h'.IsListIter s.heap.objs.size l 0->(∀ b o,s.heap.get? b=some o->h'.get? b=some o)->Q (.ref (s.heap.objs.size+1)) { s with heap:=h' }) :
  wpAny (model prog w) A (call (.type "enumerate") [.ref l] [(Str.ofString "start",.int 1 t)]) Q E s:=by
 obtain ⟨⟨c,dct,dt,sl⟩,hl,hc,n,hd⟩:=hL
 obtain rfl:c = .type "list" := hc
 obtain rfl:dt = .seq items n:=hd
 refine ctx_kw F.called_enumerate (by kernel_rfl) (by kernel_rfl) F.entry_enumerate_new F.entry_object_init (enum_new1 l items n dct sl t) (Q₁:=fun obj s₁=>s₁.TypeIs obj "enumerate" ∧ Q obj s₁) ⟨hl,?_⟩ fun obj _ hq=>⟨hq.1,?_,_,init_kw F.called_enumerate.init.lookup F.called_enumerate.made (by decide) _,hq.1,rfl,hq.2⟩
 ·have hz:(s.heap.push { cls:=.type "list_iterator",data:=.fields #[.ref l,.int 0 0] }).objs.size=s.heap.objs.size+1:=Heap.size_push ..
  have he:=Heap.get?_push_size (s.heap.push { cls:=.type "list_iterator",data:=.fields #[.ref l,.int 0 0] }) (o:={ cls:=.type "enumerate",data:=.fields #[.none,.bool false,.ref s.heap.objs.size,rawInt 1,.none,.none] }) rfl
  show _∧_
  rw [hz] at he ⊢
  exact ⟨⟨_,he,rfl⟩,h _ he ⟨_,Heap.get?_push_of_some _ (Heap.get?_push_size _ rfl),rfl,rfl⟩ fun b o x=>Heap.get?_push_of_some _ (Heap.get?_push_of_some _ x)⟩
 ·first | (show argsOk _ _;unfold argsOk;kernel_rfl) | kernel_rfl
end PySem
namespace L2
open PySem PyProof.Rows PySem.Spec
theorem cw_typeKw {M:Model}{A:Around}{E:Value->Shared->Prop}{s:Shared}{pos:Pos}{T:String}{args:List (Bool×Sem Value)}{keywords:List (Option Str×Sem Value)}{Q:Value->Shared->Prop}(hp:args.any (·.1)=false)(hk:keywords.any (·.1.isNone)=false)
  (h:wpAny M A (evalArgs (.type T) true args keywords) (fun a s₁=>wpAny M A (call (.type T) ([]++a.pos) a.kw) Q E s₁) E s):wpAny M A (callWith pos (.type T) [] args keywords) Q E s:=by
 unfold callWith
 refine wpAny_bind (wpAny_holding (thn h fun a s₁ h₁=>wpAny_bind (wpAny_standAt ?_)))
 simp only [hp,hk,Bool.or_false]
 exact wpAny_bind (wpAny_pure (wpAny_bind (thn h₁ fun r s₂ hr=>wpAny_bind (wpAny_holding (wpAny_point (wpAny_pure hr))))))
theorem draws_up {prog:Program}{w:World}{A:Around}{it:Addr}{fp:List Addr}{n:Nat}{P:Nat->Value->Prop}{St:Nat->Heap->Prop}(D:Draws prog w A it fp n P St):Draws prog w A it fp (n+1) (fun i x=>∃ j,i=j+1∧P j x) (fun i h=>∃ j,i=j+1∧St j h) where
 live:=fun _ h ⟨j,_,st⟩=>D.live j h st
 frame:=fun _ h h' ⟨j,e,st⟩ k=>⟨j,e,D.frame j h h' st k⟩
 item:=fun i s Q E hi ⟨j,e,st⟩ hQ=>by
  subst e
  exact D.item j s Q E (Nat.lt_of_succ_lt_succ hi) st fun x h' tk p q r=>hQ x h' tk ⟨j,rfl,p⟩ ⟨j+1,rfl,q⟩ r
 done:=fun s Q E ⟨j,e,st⟩ hE=>by
  obtain rfl:n=j:=Nat.succ.inj e
  exact D.done s Q E st hE
def Ite1 (K:PySem.W.Frag)(a:Addr):It :=
 ⟨fun i H=>∃ xs x,SqL K H a xs∧xs[i]?=some x,
  fun i H x H'=>∃ (T:Addr) (u:V),x = .ref T∧H T=none∧H'=upd H T (.tup [.int ((i+1:Nat):Int),u])∧∀ xs,SqL K H a xs->xs[i]?=some u,
  fun i H=>∃ xs,SqL K H a xs∧xs.length<=i⟩
theorem turn_enum1 {P:Program}{w:World}{K:PySem.W.Frag}{elts:List Expr}{x1}{pos:Pos}{a e it:Addr}(hne:e≠it)(hea:e≠a)(hai:a≠it) :
  Turn P w K (.Tuple elts x1 pos) (Ite1 K a) [e,it] e (fun i h=>(∃ old,IsEnum h e it ((i+1:Nat):Int) old)∧h.IsListIter it a i) where
 mem:=by simp
 obj:=fun i h st c hc=>by
  obtain ⟨⟨old,h1⟩,⟨o4,e4,c4,d4⟩⟩:=st
  simp only [List.mem_cons,List.not_mem_nil,or_false] at hc
  rcases hc with rfl | rfl
  ·exact ⟨_,h1,fun v z=>by cases z⟩
  ·exact ⟨_,e4,fun v z=>by rw [d4] at z;cases z⟩
 keep:=fun i h h' st k=>by
  obtain ⟨⟨old,h1⟩,h4⟩:=st
  exact ⟨⟨old,k e (by simp) _ h1⟩,h4.at fun o e=>k it (by simp) o e⟩
 item:=by
  intro X hP hw hK hc i pins s σ H E I hf st hg
  subst hP hw hK
  obtain ⟨xs,x,hq1,hx⟩:=hg
  obtain ⟨its,rv,p,hz⟩:=I.list hq1
  obtain ⟨u,hu,ru⟩:=rv.get hx
  obtain ⟨⟨old,h1⟩,h4⟩:=st
  have hi:i<its.toArray.size:=by
   have:=(List.getElem?_eq_some_iff.mp hu).1
   simpa using this
  refine wpAny_pyNext_enum_itemD (draws_up (Draws.list (A:=X.A.in1) (I.ok.hd hc) it a hai its.toArray)) h1 ⟨i,rfl,h4,p.isList⟩ (Nat.succ_lt_succ hi) hne (by simp [hne,hea]) fun v h' tk ⟨j,ej,hv⟩ z1 ⟨j2,ej2,z2,_⟩ z3 z4 z5=>?_
  obtain rfl:i=j:=Nat.succ.inj ej
  obtain rfl:i+1=j2:=Nat.succ.inj ej2
  obtain rfl:u=v:=by
   have:its.toArray[i]?=some u:=by simpa using hu
   exact Option.some.inj (this.symm.trans hv)
  refine ⟨_,rfl,wpAny_letOwnedTupleGo_enum (s:={ s with heap:=h',toks:=tk+1 }) z1 fun h'' y1 y2=>?_⟩
  have hT:H s.heap.objs.size=none:=I.hok.fresh (Nat.le_refl _)
  have I1:Inv X pins σ (upd H s.heap.objs.size (.tup [.int ((i+1:Nat):Int),x])) { s with heap:=s.heap.push { cls:=.type "tuple",data:=.seq #[.int ((i+1:Nat):Int) tk,u] },toks:=tk+1 } :=
   I.laid (t':=tk+1) (fun b u e=>Heap.get?_push_of_some _ e) (Nat.le_refl _) ⟨(by show 2<=sizeLine;rw [sizeLine_eq];decide),[.int ((i+1:Nat):Int) tk,u],.cons ⟨_,rfl⟩ (.cons ru .nil),⟨_,Heap.get?_push_size _ rfl,rfl,_,rfl⟩⟩
  have nf:∀ c∈[e,it],c≠s.heap.objs.size:=fun c hc e=>by
   have lt:∃ o,s.heap.get? c=some o:=by
    obtain ⟨o4,e4,_⟩:=id h4
    simp only [List.mem_cons,List.not_mem_nil,or_false] at hc
    rcases hc with rfl | rfl
    ·exact ⟨_,h1⟩
    ·exact ⟨_,e4⟩
   obtain ⟨o,ho⟩:=lt
   have:=Heap.lt_size ho
   rw [e] at this
   exact Nat.lt_irrefl _ this
  have hf1:∀ c∈[e,it],FpOk X pins (upd H s.heap.objs.size (.tup [.int ((i+1:Nat):Int),x])) c:=fun c hc=>by
   obtain ⟨f0,f⟩:=hf c hc
   exact ⟨by rw [upd_ne (nf c hc)];exact f0,f⟩
  have I2:Inv X pins σ (upd H s.heap.objs.size (.tup [.int ((i+1:Nat):Int),x])) { s with heap:=h'',toks:=tk+1 } :=
   Inv.turnedL (s:={ s with heap:=s.heap.push { cls:=.type "tuple",data:=.seq #[.int ((i+1:Nat):Int) tk,u] },toks:=tk+1 }) (t':=tk+1) (ch:=[e,it]) I1 (fun b o hb e=>by
    simp only [List.mem_cons,List.not_mem_nil,or_false,not_or] at hb
    obtain ⟨b1,b2⟩:=hb
    refine (y2.2 b b1).trans ?_
    rcases Heap.get?_push_cases e with ⟨rfl,rfl⟩ | e
    ·exact z3
    ·exact z5 b o b1 b2 e) hf1
  refine ⟨.ref s.heap.objs.size,_,I2,rfl,⟨s.heap.objs.size,x,rfl,hT,rfl,fun zs hzs=>by rw [I.list_inj hzs hq1];exact hx⟩,⟨⟨_,by exact_mod_cast y1⟩,?_⟩,fun c hc=>(hf1 c hc).1⟩
  exact z2.at fun o e=>(y2.2 it (Ne.symm hne)).trans e
 done:=by
  intro X hP hw hK hc i pins s σ H E I hf st hg
  subst hP hw hK
  obtain ⟨xs,hq1,hl⟩:=hg
  obtain ⟨its,rv,p,hz⟩:=I.list hq1
  obtain ⟨⟨old,h1⟩,h4⟩:=st
  have l1:=rv.length
  have D:Draws X.prog X.w X.A.in1 it [it,a] i (fun _ _=>True) (fun j h=>j=i∧h.IsListIter it a i∧h.IsList a its.toArray) :=
   { live:=fun _ _ ⟨_,⟨o,ho,_⟩,_⟩=>⟨o,ho⟩,frame:=fun _ _ _ ⟨e,s1,s2⟩ k=>⟨e,s1.at fun o e=>k it (by simp) o e,s2.at fun o e=>k a (by simp) o e⟩,item:=fun j _ _ _ hj ⟨e,_⟩ _=>absurd hj (by omega),done:=fun s Q E ⟨_,s1,s2⟩ hE=>wpAny_nextOf_list_end (I.ok.hd hc) s1 s2 (by simp;omega) hE }
  refine wpAny_pyNext_enum_endD D h1 ⟨rfl,h4,p.isList⟩ fun h' kk=>⟨rfl,?_⟩
  exact I.turnedL (t':=s.toks) (ch:=[e,it]) (fun b o hb e=>by
   simp only [List.mem_cons,List.not_mem_nil,or_false,not_or] at hb
   exact kk b o hb.2 e) hf
 self:=fun A i s Q E st h=>wpAny_pyIter_enum st.1.choose_spec h
section
variable {X:Cx}
def iEnum1 (K:PySem.W.Frag)(ta:TA):TI:=fun σ H R=>ta σ H fun xs H1=>∃ a:Addr,xs=[.ref a]∧(∃ us,SqL K H1 a us)∧R (Ite1 K a) H1
theorem pi_enum1 {a:Expr}{ta:TA}{p pos pos' pk pc:Pos}{elts:List Expr}{x1 x2}(hg:Gl X "enumerate")(hm:X.mg "enumerate" = none)(ha:PA X [a] ta)(hs:starEach [a] X.env=[(false,eval a X.env)]:=by rfl) :
  PI X (.Tuple elts x1 pos') (.Call (.Name "enumerate" p) [a] [⟨some (Str.ofString "start"),.Constant (.int 1) x2 pc,pk⟩] pos) (iEnum1 X.K ta):=by
 intro pins s σ H R I h
 show wpAny _ _ (do callWith pos (<- eval (.Name "enumerate" p) X.env) [] (backTo pos (starEach [a] X.env)) (backToKw pos (keywordEach [⟨some (Str.ofString "start"),.Constant (.int 1) x2 pc,pk⟩] X.env))) _ _ _
 refine wpAny_bind (ld_blt I hg hm boot_enumerate (cw_typeKw (by rw [hs];rfl) (by rfl) ?_))
 have ha':=ha pos pins s σ H _ I h
 rw [hs] at ha' ⊢
 refine evalArgs_kwB (by rfl) (thn ha' fun us s1 ⟨vs,H1,I1,r1,l1,e,⟨us1,hq1⟩,q⟩=>kws_cons (wpAny_Constant_int (kws_nil ?_)))
 subst e
 obtain ⟨u,rfl,ru⟩:=vals1 r1
 cases ru
 have I2:=I1.tok (s1.toks+1)
 obtain ⟨its,rv,p,hz⟩:=I2.list hq1
 refine call_enum1 (t:=s1.toks) p.isList fun h' z1 z2 z4=>?_
 refine wpAny_pyIter_enum (s:={ s1 with heap:=h',toks:=s1.toks+1 }) z1 ?_
 have fr:∀ c,s1.heap.objs.size<=c->FpOk X pins H1 c:=fun c hc=>I1.fpOk hc (I1.hok.fresh hc)
 obtain ⟨o,ho,_⟩:=p.isList
 have hla:=Heap.lt_size ho
 refine ⟨s1.heap.objs.size+1,[s1.heap.objs.size+1,s1.heap.objs.size],_,_,H1,rfl,I2.kept (t':=s1.toks+1) z4,turn_enum1 (Nat.succ_ne_self _) (fun z=>?_) (Nat.ne_of_lt hla),⟨⟨_,z1⟩,z2⟩,fun c hc=>fr c ?_,q⟩
 ·rw [<- z] at hla
  exact absurd (Nat.lt_of_succ_lt hla) (Nat.lt_irrefl _)
 ·simp only [List.mem_cons,List.not_mem_nil,or_false] at hc
  rcases hc with rfl | rfl
  ·exact Nat.le_add_right _ _
  ·exact Nat.le_refl _
theorem for_enum1 {K:PySem.W.Frag}{a:Addr}{xs:List V}{g:TG}{tb:TS}{D:Ends}{σ:St}{H:Hp}(Pv:Nat->St->Hp->Prop)(h0:Pv 0 σ H)(hl:∀ i σ H,i<=xs.length->Pv i σ H->SqL K H a xs)
  (hs:∀ i x T σ H,xs[i]?=some x->H T=none->Pv i σ H->g (.ref T) σ (upd H T (.tup [.int ((i+1:Nat):Int),x])) fun σ2 H2=>tb { D with nx:=Pv (i+1),ct:=Pv (i+1),bk:=D.nx } σ2 H2) (hd:∀ σ H,Pv xs.length σ H->D.nx σ H) :
  ∃ W:Nat->Nat->St->Hp->Prop,(∃ m,W 0 m σ H)∧∀ i m σ H,W i m σ H ->
   ((Ite1 K a).stop i H∧D.nx σ H)∨((Ite1 K a).go i H∧∃ N:St->Hp->Prop,(∀ σ' H',N σ' H'->∃ m',m'<m∧W (i+1) m' σ' H')∧∀ x H',(Ite1 K a).yld i H x H'->g x σ H' fun σ2 H2=>tb { D with nx:=N,ct:=N,bk:=D.nx } σ2 H2):=by
 refine ⟨fun i m σ H=>m=xs.length-i∧i<=xs.length∧Pv i σ H,⟨xs.length,by simp,Nat.zero_le _,h0⟩,?_⟩
 rintro i m σ H ⟨rfl,hi,p⟩
 have q1:=hl i σ H hi p
 by_cases hlt:i<xs.length
 ·refine .inr ⟨⟨xs,xs[i],q1,by simp [hlt]⟩,Pv (i+1),fun σ' H' p'=>⟨xs.length-(i+1),by omega,rfl,hlt,p'⟩,fun x H' y=>?_⟩
  obtain ⟨T,u,rfl,hT,rfl,y1⟩:=y
  exact hs i u T σ _ (y1 xs q1) hT p
 ·have e:i=xs.length:=by omega
  subst e
  exact .inl ⟨⟨xs,q1,Nat.le_refl _⟩,hd σ H p⟩
end
end L2
namespace L2
open PySem PyProof.Rows PySem.Spec
section
variable {X:Cx}
theorem call_anyB (hc:X.calm=true):CallR X (.builtin "any") (fun xs H Q=>∃ (p:Addr) (bs:List Bool),xs=[.ref p]∧SqL X.K H p (bs.map V.bl)∧Q (.bl (bs.any id)) H):=by
 intro pins s σ H xs us Q I r h
 obtain ⟨p,bs,rfl,hq,q⟩:=h
 obtain ⟨u,rfl,ru⟩:=vals1 r
 cases ru
 obtain ⟨its,rv,pl,_⟩:=I.list hq
 have hlen:=rv.length
 rw [List.length_map] at hlen
 have hat:∀ (i:Nat) (v:Value),its.toArray[i]?=some v->v = .bool (bs.getD i false):=fun i v e=>by
  have hi:i<bs.length:=by
   have:=(Array.getElem?_eq_some_iff.mp e).1
   rw [List.size_toArray] at this
   omega
  obtain ⟨w',e1,q1⟩:=rv.get (i:=i) (x:=.bl bs[i]) (by rw [List.getElem?_map,List.getElem?_eq_getElem hi];rfl)
  rw [List.getElem?_toArray,e1] at e
  obtain rfl:=Option.some.inj e
  rw [List.getD_eq_getElem?_getD,List.getElem?_eq_getElem hi]
  exact q1
 have hall:(List.range its.toArray.size).any (fun i=>bs.getD i false)=bs.any id:=by
  rw [List.size_toArray,<- hlen,Bool.eq_iff_iff,List.any_eq_true,List.any_eq_true]
  constructor
  ·rintro ⟨i,hi,h⟩
   have hil:=List.mem_range.mp hi
   rw [List.getD_eq_getElem?_getD,List.getElem?_eq_getElem hil] at h
   exact ⟨_,List.getElem_mem hil,h⟩
  ·rintro ⟨b,hb,h⟩
   obtain ⟨i,hi⟩:=List.getElem?_of_mem hb
   refine ⟨i,List.mem_range.mpr (List.getElem?_eq_some_iff.mp hi).1,?_⟩
   rw [List.getD_eq_getElem?_getD,hi]
   exact h
 have hne:p≠s.heap.objs.size:=by
  obtain ⟨o,ho,_⟩:=id pl.isList
  exact Nat.ne_of_lt (Heap.lt_size ho)
 refine call_any_walk (wpAny_pyIter_list pl.isList ⟨s.heap.objs.size,[s.heap.objs.size,p],[s.heap.objs.size],its.toArray.size,_,_,fun i=>bs.getD i false,rfl,Walks.list (A:=X.A.in1) (show X.A.in1.handled=none from I.ok.hd hc) s.heap.objs.size p hne its.toArray,⟨⟨_,Heap.get?_push_size _ rfl,rfl,rfl⟩,pl.isList.at fun o e=>Heap.get?_push_of_some _ e⟩,?_,fun h' tk hk=>?_⟩)
 ·intro i v s' Q' E' hP hQ
  rw [hat i v hP]
  exact wpAny_truthy_bool hQ
 ·rw [hall]
  exact ⟨.bl _,H,I.kept (fun b o e=>hk b o (by simp;exact Nat.ne_of_lt (Heap.lt_size e)) (Heap.get?_push_of_some _ e)),rfl,q⟩
end
end L2
namespace L2
open PySem PyProof.Rows PySem.Spec
theorem compFR {J:It}{vs:List V}{tc:TT}{te:TE}{σ:St}{H:Hp}{Q:VK}(p:V->Bool)(S:V->HO->Prop)(rd:Reads J H vs)(hn:vs.length<=sizeLine)
  (ht:∀ x H',x∈vs->Same H H'->∀ N:Bool->Hp->Prop,(∀ H'',Same H' H''->N (p x) H'')->tc (some x::σ) H' N)
  (he:∀ x H',x∈vs->p x=true->Same H H'->∀ N:V->Hp->Prop,(∀ c o H'',Same H' H''->H' c=none->H'' c=some o->S x o->N (.ref c) H'')->te (some x::σ) H' N)
  (hq:∀ D bs H',H D=none->Same H H'->H' D=some (.lst (bs.map V.ref))->Dt.R2 (fun v b=>b≠D∧H b=none∧∃ o,H' b=some o∧S v o) (vs.filter p) bs->Q (.ref D) H'):compAtF tc te σ Q J H:=by
 intro D hD
 refine ⟨fun i m ys H2=>m=vs.length-i∧i<=vs.length∧Same H H2∧H2 D=some (.lst ys)∧∃ bs:List Addr,ys=bs.map V.ref∧Dt.R2 (fun v b=>b≠D∧H b=none∧∃ o,H2 b=some o∧S v o) ((vs.take i).filter p) bs,⟨vs.length,rfl,Nat.zero_le _,fun b o e=>?_,upd_same,[],rfl,.nil⟩,?_⟩
 ·rw [upd_ne (ne_of_none e hD)]
  exact e
 ·rintro i m ys H2 ⟨rfl,hi,hs,hd,bs,rfl,hb⟩
  by_cases hlt:i<vs.length
  ·have hx:vs[i]?=some vs[i]:=List.getElem?_eq_getElem hlt
   have hbl:bs.length<=i:=by have:=hb.len;have:=filter_take_len p vs i;omega
   refine .inr ⟨rd.go i H2 hs hlt,by rw [List.length_map];omega,fun v H'=>p vs[i]=true∧Same H2 H'∧∃ c o,v = .ref c∧c≠D∧H c=none∧H' c=some o∧S vs[i] o,fun v H' ⟨hp,hs',c,o,ev,hcD,hcn,hc,ho⟩=>⟨hs' D _ hd,vs.length-(i+1),by omega,rfl,hlt,fun b o e=>?kp,upd_same,bs++[c],?app,?la⟩,
    fun H'=>p vs[i]=false∧Same H2 H',fun H' ⟨hp,hs'⟩=>⟨vs.length-(i+1),by omega,rfl,hlt,fun b o e=>hs' b o (hs b o e),hs' D _ hd,bs,rfl,?skp⟩,fun y H' hy=>?stp⟩
   case app =>
    rw [ev,List.map_append]
    rfl
   case kp =>
    rw [upd_ne (ne_of_none e hD)]
    exact hs' b o (hs b o e)
   case la =>
    rw [take_filter p vs i _ hx,hp]
    refine Dt.R2.snoc (hb.mono fun v b _ ⟨h1,h0,o2,h2,h3⟩=>⟨h1,h0,o2,by rw [upd_ne h1];exact hs' b _ h2,h3⟩) ⟨hcD,hcn,o,by rw [upd_ne hcD];exact hc,ho⟩
   case skp =>
    rw [take_filter p vs i _ hx,hp]
    rw [show (if false=true then [vs[i]] else [])=[] from rfl,List.append_nil]
    exact hb.mono fun v b _ ⟨h1,h0,o2,h2,h3⟩=>⟨h1,h0,o2,hs' b _ h2,h3⟩
   case stp =>
    obtain ⟨rfl,e2⟩:=rd.yl i H2 y H' hs hy
    have e4:y=vs[i]:=by rw [hx] at e2;exact (Option.some.inj e2).symm
    subst e4
    refine ht _ _ (List.getElem_mem hlt) hs _ fun H'' h''=>?_
    by_cases hp:p vs[i]=true
    ·rw [if_pos hp]
     refine he _ _ (List.getElem_mem hlt) hp (hs.trans h'') _ fun c o H3 h3 hc1 hc2 ho=>⟨hp,h''.trans h3,c,o,rfl,fun z=>?_,?_,hc2,ho⟩
     ·rw [z,h'' D _ hd] at hc1;cases hc1
     ·cases e:H c with
      | none=>rfl
      | some o=>rw [h'' c o (hs c o e)] at hc1;cases hc1
    ·rw [if_neg hp]
     exact ⟨by simpa using hp,h''⟩
  ·have e:i=vs.length:=by omega
   subst e
   rw [List.take_length] at hb
   exact .inl ⟨rd.st H2 hs,hq D bs H2 hD hs hd hb⟩
theorem compFO {J:It}{vs:List V}{tc:TT}{te:TE}{σ:St}{H:Hp}{Q:VK}(p:V->Bool)(ob:V->HO)(rd:Reads J H vs)(hn:vs.length<=sizeLine)
  (ht:∀ x H',x∈vs->Same H H'->∀ N:Bool->Hp->Prop,(∀ H'',Same H' H''->N (p x) H'')->tc (some x::σ) H' N)
  (he:∀ x H',x∈vs->p x=true->Same H H'->∀ N:V->Hp->Prop,(∀ c H'',Same H' H''->H' c=none->H'' c=some (ob x)->N (.ref c) H'')->te (some x::σ) H' N)
  (hq:∀ D bs H',H D=none->Same H H'->H' D=some (.lst (bs.map V.ref))->Dt.R2 (fun v b=>b≠D∧H b=none∧H' b=some (ob v)) (vs.filter p) bs->Q (.ref D) H'):compAtF tc te σ Q J H :=
 compFR p (fun v o=>o=ob v) rd hn ht (fun x H' hx hp s N hN=>he x H' hx hp s N fun c H2 s2 h1 h2=>hN c _ H2 s2 h1 h2 rfl) fun D bs H' h1 h2 h3 h4=>hq D bs H' h1 h2 h3 (h4.mono fun v b _ ⟨a,b,o,c,d⟩=>⟨a,b,d▸c⟩)
section
variable {X:Cx}(K:PySem.W.Frag)(hK:X.K=K)
include hK
theorem op_in_tabK:OpR X (compareOp .In) (fun x y H Q=>∃ (t:List Nat) (a:Addr) (D:TabD),x=T t∧y = .ref a∧tabIs K a D=true∧Q (.bl (tabAt t D).isSome) H):=by
 subst hK
 exact op_in_tab
theorem call_anyK (hc:X.calm=true):CallR X (.builtin "any") (fun xs H Q=>∃ (p:Addr) (bs:List Bool),xs=[.ref p]∧SqL K H p (bs.map V.bl)∧Q (.bl (bs.any id)) H):=by
 subst hK
 exact call_anyB hc
theorem call_tupleK:CallR X (.type "tuple") (fun xs H Q=>∃ (p:Addr) (ys:List V),xs=[.ref p]∧SqL K H p ys∧∀ l,H l=none->Q (.ref l) (upd H l (.tup ys))):=by
 subst hK
 intro pins s σ H xs us Q I r h
 obtain ⟨p,ys,e,hq,q⟩:=h
 exact call_tuple_of pins s σ H xs us Q I r ⟨p,ys,e,.inl ⟨hq,q⟩⟩
end
end L2
namespace L2
open PySem PyProof.Rows PySem.Spec
section
variable {X:Cx}(K:PySem.W.Frag)(hK:X.K=K)
include hK
end
end L2
namespace L2
open PySem PyProof.Rows PySem.Spec
theorem dg_nat (m:Nat):dgI (m:Nat)=(Nat.toDigits 10 m).map Char.toNat:=PySem.W.KIN.signs_num m
theorem dg_step {m:Nat}(h:¬ m<10):Nat.toDigits 10 m=Nat.toDigits 10 (m/10)++[Nat.digitChar (m % 10)]:=by
 have hm:m % 10<10:=Nat.mod_lt m (by decide)
 have t:=Nat.toDigits_append_toDigits (b:=10) (n:=m/10) (d:=m % 10) (by decide) (by omega) hm
 rw [Nat.div_add_mod,Nat.toDigits_of_lt_base hm] at t
 exact t.symm
theorem dg_len {k:Nat}:∀ {m:Nat},m<10 ^ (k+1)->(dgI (m:Nat)).length<=k+1:=by
 induction k with
 | zero =>
  intro m h
  rw [dg_nat,Nat.toDigits_of_lt_base (by simpa using h)]
  exact Nat.le_refl 1
 | succ k ih =>
  intro m h
  by_cases h1:m<10
  ·rw [dg_nat,Nat.toDigits_of_lt_base h1]
   exact Nat.succ_le_succ (Nat.zero_le _)
  ·rw [dg_nat,dg_step h1,List.map_append,List.length_append,<- dg_nat]
   have:m/10<10 ^ (k+1):=by
    rw [Nat.pow_succ] at h
    exact Nat.div_lt_of_lt_mul (by rw [Nat.mul_comm];exact h)
   exact Nat.succ_le_succ (ih this)
theorem dgc:∀ d:Nat,d<10->(Nat.digitChar d).toNat=48+d:=by decide
theorem dg_all (m:Nat):∀ c∈dgI (m:Nat),48<=c∧c<=57:=by
 induction m using Nat.strongRecOn with
 | _ m ih =>
  intro c hc
  by_cases h:m<10
  ·rw [dg_nat,Nat.toDigits_of_lt_base h] at hc
   obtain rfl:=List.mem_singleton.mp hc
   rw [dgc m h]
   omega
  ·rw [dg_nat,dg_step h,List.map_append,<- dg_nat] at hc
   rcases List.mem_append.mp hc with hc | hc
   ·exact ih (m/10) (by omega) c hc
   ·obtain rfl:=List.mem_singleton.mp hc
    rw [dgc _ (Nat.mod_lt m (by decide))]
    omega
theorem dg_ne (m:Nat):dgI (m:Nat)≠[]:=by
 rw [dg_nat]
 by_cases h:m<10
 ·rw [Nat.toDigits_of_lt_base h]
  exact fun z=>by cases z
 ·rw [dg_step h,List.map_append]
  exact fun z=>by cases (List.append_eq_nil_iff.mp z).2
theorem dg_head (m:Nat):1<=m->(dgI (m:Nat)).take 1≠[48]:=by
 induction m using Nat.strongRecOn with
 | _ m ih =>
  intro h1
  by_cases h:m<10
  ·rw [dg_nat,Nat.toDigits_of_lt_base h]
   show [(Nat.digitChar m).toNat]≠[48]
   rw [dgc m h]
   exact fun z=>by have:=(List.cons.inj z).1;omega
  ·rw [dg_nat,dg_step h,List.map_append,<- dg_nat,List.take_append_of_le_length (List.length_pos_iff.mpr (dg_ne _))]
   exact ih (m/10) (by omega) (by omega)
theorem spl_no {c:Nat}:∀ {a:List Nat},c∉a->spl c a=[a]
 | [],_=>rfl
 | x::a,h=>by
  have h1:¬ x=c:=fun z=>h (by rw [z];exact List.mem_cons_self ..)
  show (if x=c then []::spl c a else match spl c a with | h::r=>(x::h)::r | []=>[[x]])=_
  rw [if_neg h1,spl_no fun z=>h (List.mem_cons_of_mem _ z)]
theorem spl_app {c:Nat}(t:List Nat):∀ {a:List Nat},c∉a->spl c (a++c::t)=a::spl c t
 | [],_=>by
  show (if c=c then []::spl c t else _)=_
  rw [if_pos rfl]
 | x::a,h=>by
  have h1:¬ x=c:=fun z=>h (by rw [z];exact List.mem_cons_self ..)
  show (if x=c then []::spl c (a++c::t) else match spl c (a++c::t) with | h::r=>(x::h)::r | []=>[[x]])=_
  rw [if_neg h1,spl_app t fun z=>h (List.mem_cons_of_mem _ z)]
theorem spl_jn {c:Nat}:∀ {ls:List (List Nat)},ls≠[]->(∀ l∈ls,c∉l)->spl c (jnS [c] ls)=ls
 | [],h,_=>absurd rfl h
 | [l],_,h=>spl_no (h l (List.mem_cons_self ..))
 | l::m::r,_,h=>by
  show spl c (l++[c]++jnS [c] (m::r))=_
  rw [List.append_assoc]
  show spl c (l++c::jnS [c] (m::r))=_
  rw [spl_app _ (h l (List.mem_cons_self ..)),spl_jn (fun z=>by cases z) fun x hx=>h x (List.mem_cons_of_mem _ hx)]
theorem jn_mem {g:List Nat}{c:Nat}:∀ {ls:List (List Nat)},c∈jnS g ls->c∈g∨∃ l∈ls,c∈l
 | [],h=>by cases h
 | [l],h=>.inr ⟨l,List.mem_cons_self ..,h⟩
 | l::m::r,h=>by
  rcases List.mem_append.mp (show c∈l++g++jnS g (m::r) from h) with h | h
  ·rcases List.mem_append.mp h with h | h
   ·exact .inr ⟨l,List.mem_cons_self ..,h⟩
   ·exact .inl h
  ·rcases jn_mem h with h | ⟨x,hx,h⟩
   ·exact .inl h
   ·exact .inr ⟨x,List.mem_cons_of_mem _ hx,h⟩
theorem rows_jn {rs:List (List (List Nat))}(h0:rs≠[])(h1:∀ r∈rs,r≠[]∧∀ x∈r,10∉x∧32∉x):(spl 10 (jnS [10] (rs.map (jnS [32])))).map (spl 32)=rs:=by
 rw [spl_jn (fun z=>h0 (List.map_eq_nil_iff.mp z)) fun l hl=>?_,List.map_map]
 ·refine (List.map_congr_left fun r hr=>?_).trans (List.map_id _)
  exact spl_jn (h1 r hr).1 fun x hx=>((h1 r hr).2 x hx).2
 ·obtain ⟨r,hr,rfl⟩:=List.mem_map.mp hl
  intro z
  rcases jn_mem z with z | ⟨x,hx,z⟩
  ·simp at z
  ·exact ((h1 r hr).2 x hx).1 z
end L2
namespace L2
open PySem PyProof.Rows PySem.Spec
section
variable {X:Cx}
end
end L2
namespace L2
open PySem PyProof.Rows PySem.Spec
namespace SE
open PySem
section
variable {prog:Program}{w:World}{A:Around}{E:Value->Shared->Prop}{s:Shared}
end
end SE
section
variable {X:Cx}
end
end L2
namespace L2
open PySem PyProof.Rows PySem.Spec
section
variable {X:Cx}
end
end L2
namespace L2
open PySem PyProof.Rows PySem.Spec
section
variable {X:Cx}
def XPs2 (X:Cx)(pins:List (Addr×Obj))(σ:St)(R:Value->Option Addr->Hp->Prop)(e:Value)(s':Shared):Prop :=
 ∃ a cls od H s1 H',e = .ref a∧Inv X pins σ H s1∧Fly X.prog X.w X.stack H s1 a cls H' s'∧DictIs s'.heap a od∧R cls od H'
abbrev TEx2:=St->Hp->VK->(Value->Option Addr->Hp->Prop)->Prop
def PEx2 (X:Cx)(e:Expr)(t:TEx2):Prop :=
 ∀ (pins:List (Addr×Obj)) (s:Shared) (σ:St) (H:Hp) (Q:VK) (R:Value->Option Addr->Hp->Prop),Inv X pins σ H s->t σ H Q R->wpAny (model X.prog X.w) X.A (eval e X.env) (EP X pins σ Q) (XPs2 X pins σ R) s
end
end L2
namespace L2
open PySem PySem.Spec PyProof.Rows
section
variable {X:Cx}{pins:List (Addr×Obj)}{σ:St}{H:Hp}{s:Shared}{a:Addr}{D:TabD}
theorem walk_none {prog:Program}{w:World}{A:Around}{E:Value->Shared->Prop}{d:Addr}{o:Obj}{es:Array DictEntry}{ep:Nat}{h:Int}{Q:Option Nat->Shared->Prop}(ho:s.heap.get? d=some o)(hd:o.data = .dict es ep)(hall:(es.all fun e=>isExactStrKey e.key)=true)(q:Q none s)(pl:List Nat):wpAny (model prog w) A (dictWalkPlain d .none h es pl) Q E s:=by
 unfold dictWalkPlain
 refine wpAny_bind ?_
 refine wpAny_forIn_list _ (fun _ b s'=>s'=s∧b=(none,())) _ ?_ ?_ _ _ ⟨rfl,rfl⟩
 ·rintro x rest b s' ⟨rfl,rfl⟩
  dsimp only
  cases he:es[x]? with
  | none=>exact wpAny_pure ⟨rfl,rfl⟩
  | some e =>
   dsimp only
   by_cases hh:(e.hash==h)=true
   ·rw [if_pos hh]
    have hk:isExactStrKey e.key=true:=by
     rw [Array.all_eq_true] at hall
     obtain ⟨hx,rfl⟩:=Array.getElem?_eq_some_iff.mp he
     exact hall x hx
    obtain ⟨y,t,ek⟩:∃ y t,e.key = .str y t:=by
     unfold isExactStrKey at hk
     split at hk
     ·exact ⟨_,_,by assumption⟩
     ·cases hk
    refine wpAny_bind (wpAny_dictEpoch ho hd ?_)
    rw [ek]
    refine wpAny_bind (SeqAt.EqAt.str_none y t _ _ _ _ ?_)
    refine wpAny_bind (wpAny_dictEpoch ho hd ?_)
    rw [if_neg (by simp)]
    exact wpAny_bind (wpAny_rule (wpAny_pure ⟨rfl,rfl⟩))
   ·rw [if_neg hh]
    exact wpAny_pure ⟨rfl,rfl⟩
 ·rintro b s' ⟨rfl,rfl⟩
  exact wpAny_pure q
theorem tab_getN (I:Inv X pins σ H s)(h:tabIs X.K a D=true)(A:Around)(Q:Option Value->Shared->Prop)(E:Value->Shared->Prop)(q:Q none { s with toks:=s.toks+1 }):wpAny (model X.prog X.w) A (dictGet a .none) Q E s:=by
 obtain ⟨_,o,es,ep,ho,_,hd,hr⟩:=tab_inv I h
 have hall:(es.all fun e=>isExactStrKey e.key)=true:=by
  rw [<- Array.all_toList]
  exact hr.exact
 have hcb:∀ pl:List Nat,((Value.none::pl.filterMap fun i=>es[i]?.map (·.key)).all carriedByValue)=true:=fun pl=>by
  rw [List.all_cons,List.all_eq_true.mpr,Bool.and_true]
  ·rfl
  ·intro v hv
   obtain ⟨i,_,hi⟩:=List.mem_filterMap.mp hv
   cases he:es[i]? with
   | none=>rw [he] at hi;cases hi
   | some e =>
    rw [he] at hi
    obtain rfl:e.key=v:=by simpa using hi
    rw [Array.all_eq_true] at hall
    obtain ⟨hx,rfl⟩:=Array.getElem?_eq_some_iff.mp he
    have:=hall i hx
    unfold isExactStrKey at this
    split at this
    ·rename_i h
     rw [h]
     rfl
    ·cases this
 unfold dictGet
 try with_reducible refine wpAny_holding ?_
 refine wpAny_bind (show wpAny _ _ (pyHashByItsType .none) _ _ _ from PySem.W.pyHash_slot (T := "NoneType") rfl F.slot_NoneType_hash F.entry_NoneType_hash (F.args_NoneType_hash_1 _) (beq_builtin_none _) (.inl rfl) (wpAny_bind (wpAny_pure (wpAny_bind (wpAny_mkInt (wpAny_pure ⟨_,_,rfl,?_⟩))))))
 refine wpAny_bind ?_
 unfold dictFind
 try with_reducible refine wpAny_holding ?_
 refine wpAny_bind (wpAny_dictEntries (s:={ s with toks:=s.toks+1 }) ho hd ?_)
 dsimp only
 rw [if_pos (hcb _)]
 exact walk_none (s:={ s with toks:=s.toks+1 }) ho hd hall (wpAny_pure q) _
def tTGetO (K:PySem.W.Frag)(td ty tz:TE):TE:=fun σ H Q=>td σ H fun x H1=>∃ (a:Addr) (D:TabD),x = .ref a∧tabIs K a D=true∧ty σ H1 fun y H2=>tz σ H2 fun z H3=>∃ o:Option (List Nat),(y=match o with | some t=>T t | none=>.non)∧match o.bind fun t=>tabAt t D with
 | some d=>∀ b,SqT K H3 b (d.map T)->Q (.ref b) H3
 | none=>Q z H3
variable {o e f:Expr}{td ty tz:TE}{apos cpos:Pos}
theorem pe_tgetO (ho:PE X o td)(he:PE X e ty)(hf:PE X f tz)(m:M2 X o "get" apos e f cpos):PE X (.Call (.Attribute o "get" apos) [e,f] [] cpos) (tTGetO X.K td ty tz):=by
 intro pins s σ H Q I h
 refine wpAny_Call_method m.base m.few m.line PySem.F.plainAttrs_dict PySem.F.slot_dict_get PySem.F.type_dict_get (thn (ho pins s σ H _ I h) fun u s1 ⟨x,H1,I1,rx,a,D,ex,hD,q1⟩=>?_)
 subst ex
 obtain rfl:u=Value.ref a:=rx
 obtain ⟨t1,t2⟩:=tab_typeIs I1 hD
 refine ⟨t1,t2,?_⟩
 rw [m.trees]
 refine Calls.callWith_builtin rfl (Calls.evalArgs_plain (Calls.spliced_cons (thn (he pins s1 σ H1 _ I1 q1) fun iv s2 ⟨y,H2,I2,ry,q2⟩ =>
  Calls.spliced_cons (thn (hf pins s2 σ H2 _ I2 q2) fun fv s3 ⟨z,H3,I3,rz,t,ey,q3⟩=>Calls.spliced_nil ?_))))
 subst ey
 have hm:=(tab_inv I3 hD).1
 obtain ⟨t3,_⟩:=tab_typeIs I3 hD
 cases t with
 | none =>
  obtain rfl:iv=Value.none:=ry
  refine wpAny_call_entry PySem.F.slot_dict_get t3 PySem.F.entry_dict_get ?_ (PySem.F.args_dict_get_3 _ _ _)
  show wpAny _ _ (dictGet a .none >>= _) _ _ s3
  exact wpAny_bind (tab_getN I3 hD _ _ _ (wpAny_bind (wpAny_missed_other hm (wpAny_pure ⟨_,rfl,z,H3,I3.tok _,rz,q3⟩))))
 | some t =>
 obtain ⟨tk,rfl⟩:=ry
 obtain ⟨v,hv,hg⟩:=tab_get I3 hD t
 refine wpAny_call_entry PySem.F.slot_dict_get t3 PySem.F.entry_dict_get ?_ (PySem.F.args_dict_get_3 _ _ _)
 show wpAny _ _ (dictGet a (.str (tx t) tk) >>= _) _ _ s3
 refine wpAny_bind (hg _ _ _ _ ?_)
 have q3:match tabAt t D with | some d=>∀ b,SqT X.K H3 b (d.map T)->Q (.ref b) H3 | none=>Q z H3:=q3
 cases hta:tabAt t D with
 | none =>
  rw [hta] at hv q3
  cases v with
  | some v=>exact absurd hv id
  | none=>exact wpAny_bind (wpAny_missed_other hm (wpAny_pure ⟨_,rfl,z,H3,I3.tok _,rz,q3⟩))
 | some d =>
  rw [hta] at hv q3
  cases v with
  | none=>exact absurd hv id
  | some v =>
   obtain ⟨b,rfl,hb⟩:=hv
   exact wpAny_pure ⟨_,rfl,.ref b,H3,I3.tok _,rfl,q3 b hb⟩
end
end L2
namespace L2
open PySem PyProof.Rows PySem.Spec
section
variable {X:Cx}
end
end L2
namespace L2
open PySem PyProof.Rows PySem.Spec
section
variable {X:Cx}
def txCal2 (sp:Sp)(t:TA):TEx2:=fun σ H Q R=>t σ H fun vs H1=>sp vs H1 Q fun cls od H2=>R cls od H2
theorem pex_cal2 {x:Str}{j k:Nat}{ps:List Str}{sp:Sp}{e:Expr}{es:List Expr}{t:TA}{p pos:Pos}(c:Cal X.prog X.w X.K X.mg X.base (CX2 X.prog X.w) x j ps sp)(hr:Room k X.A)(ha:PA X.nox (e::es) t)
  (hjk:j<=k:=by decide) (hg:Gl X x:=by rfl) (b1:(x==("__debug__" : Str))=false:=by decide) (b2:starEach (e::es) X.env=(false,eval e X.env)::starEach es X.env:=by rfl) (b3:(backTo pos (starEach es X.env)).any (·.1)=false:=by rfl) :
  PEx2 X (.Call (.Name x p) (e::es) [] pos) (txCal2 sp t):=by
 intro pins s σ H Q R I q
 obtain ⟨f,fd,F,hm,hk,hb⟩:=c.ex
 refine wpAny_Call_Name_kw (ld_glob I hg hm ?_ b1)
 refine PySem.W.callWith_K (h₀:=X.base) I.ok.mod.kin hk (wpAny_mono (ha pos pins s σ H _ (I.wish _) q) (fun us s1 z=>?_) fun _ _ z=>False.elim z) b2 b3
 obtain ⟨vs,H1,I0,r,q1⟩:=z
 have I1:Inv X pins σ H1 s1:=I0.unwish
 refine ⟨I1.kIn,?_⟩
 have hl:us.length=ps.length:=by rw [<- r.length];exact F.len _ _ _ _ q1
 have hbt:=hb s1 us I1.kIn (by rw [List.append_nil];exact hl)
 rw [List.append_nil] at hbt
 refine wpAny_call (codeAny_mono (F.run X.A X.stack s1 H1 ⟨us,[]⟩ us vs _ _ (hr.mono hjk) I1.env0 hbt r q1) fun r' s' hq=>?_)
 cases r' with
 | error x' =>
  obtain ⟨a,cls,od,H',rfl,Y,d,q2⟩:=hq
  exact ⟨a,cls,od,H1,s1,H',rfl,I1,Y,d,q2⟩
 | ok fl =>
  cases fl with
  | ret u=>exact I1.after hq
  | next=>exact False.elim hq
  | brk=>exact False.elim hq
  | cont=>exact False.elim hq
def txIx2 (r:R2)(t:TEx2)(tb:TE):TEx2:=fun σ H Q R=>t σ H (fun x H1=>tb σ H1 fun y H2=>r x y H2 Q) R
theorem pex_ix2 {a b:Expr}{r:R2}{t:TEx2}{tb:TE}{pos:Pos}(hr:IxR X.nox r)(ha:PEx2 X a t)(hb:PE X.nox b tb)(hs:PlainIx b):PEx2 X (.Subscript a b pos) (txIx2 r t tb):=by
 intro pins s σ H Q R I h
 refine Subscript_ (thn (ha pins s σ H _ R I h) fun v s1 ⟨x,H1,I1,r1,q1⟩=>?_)
 refine wpAny_mono (hb pins s1 σ H1 _ (I1.wish _) q1) (fun u s2 ⟨y,H2,I2,r2,q2⟩=>?_) fun _ _ z=>False.elim z
 exact wpAny_mono (hr a b pins s2 σ H2 x y v u Q I2 r1 r2 q2 (hs _ _)) (fun w s3 ⟨z,H3,I3,r3,q3⟩=>⟨z,H3,I3.unwish,r3,q3⟩) fun _ _ z=>False.elim z
def txFld2 (K:PySem.W.Frag)(t:TEx2)(f:Str):TEx2:=fun σ H Q R=>t σ H (fun x H1=>∃ (a C dx:Addr) (fs:List (Str×V)) (v:V),x = .ref a∧H1 a=some (.ins C dx fs)∧Cls K C∧NoAttr K C f∧fs.lookup f=some v∧Q v H1) R
theorem pex_fld2 {e:Expr}{f:Str}{pos:Pos}{t:TEx2}(he:PEx2 X e t)(hb:attributeBase e f X.env (eval e X.env)=eval e X.env):PEx2 X (.Attribute e f pos) (txFld2 X.K t f):=by
 intro pins s σ H Q R I h
 refine attr_of hb (thn (he pins s σ H _ R I h) fun u s1 ⟨x,H1,I1,rx,a,C,dx,fs,v,ex,ea,c,n,l,q⟩=>?_)
 subst ex
 obtain rfl:u=Value.ref a:=rx
 exact getattr_ok I1 ea c n l fun u' s2 I2 ru=>⟨v,H1,I2,ru,q⟩
def txB2 (r:List V->Hp->VK->Prop)(t:TEx2):TEx2:=fun σ H Q R=>t σ H (fun x H1=>r [x] H1 Q) R
theorem pex_callB2 {id:String}{x:Str}{r:List V->Hp->VK->Prop}{e:Expr}{t:TEx2}{p pos:Pos}(hc:CallR X.nox (.builtin id) r)(hg:Gl X x)(hm:X.mg x=none)(hv:bootBuiltins x=some (.builtin id))(ha:PEx2 X e t)(hn:x ≠ "__name__" := by decide)(hdb:(x==("__debug__" : Str))=false:=by decide)
  (he:starEach [e] X.env=(false,eval e X.env)::starEach [] X.env:=by rfl) (hpl:(backTo pos (starEach [] X.env)).any (·.1)=false:=by rfl):PEx2 X (.Call (.Name x p) [e] [] pos) (txB2 r t):=by
 intro pins s σ H Q R I h
 refine wpAny_Call_Name_kw (ld_blt I hg hm hv ?_ hn hdb)
 refine PyProof.Rows.callWith_builtin1 ?_ he hpl
 rw [he]
 show wpAny _ _ (spliced ((false,eval e X.env)::backTo pos (starEach [] X.env))) _ _ s
 refine Calls.spliced_cons (thn (ha pins s σ H _ R I h) fun u s1 ⟨y,H1,I1,r1,q1⟩=>Calls.spliced_nil ?_)
 exact wpAny_mono (hc pins s1 σ H1 [y] [u] Q (I1.wish _) (.cons r1 .nil) q1) (fun w s3 ⟨z,H3,I3,r3,q3⟩=>⟨z,H3,I3.unwish,r3,q3⟩) fun _ _ z=>False.elim z
def txPair2 (tc:TE)(t:TEx2):TEx2:=fun σ H Q R=>tc σ H fun y H0=>t σ H0 (fun v H1=>∀ p,H1 p=none->Q (.ref p) (upd H1 p (.tup [y,v]))) R
theorem pex_pair2 {c e:Expr}{tc:TE}{t:TEx2}{x1}{pos:Pos}(hc:PE X.nox c tc)(he:PEx2 X e t)(hs:starEach [c,e] X.env=(false,eval c X.env)::starEach [e] X.env:=by rfl)(hs2:starEach [e] X.env=(false,eval e X.env)::starEach [] X.env:=by rfl):PEx2 X (.Tuple [c,e] x1 pos) (txPair2 tc t):=by
 intro pins s σ H Q R I hq
 refine wpAny_Tuple_spliced ?_
 rw [hs,hs2]
 show wpAny _ _ (spliced ((false,eval c X.env)::(false,eval e X.env)::backTo pos (starEach [] X.env))) _ _ s
 refine Calls.spliced_cons (wpAny_mono (hc pins s σ H _ (I.wish _) hq) (fun w s0 ⟨y,H0,I0',r0,q0⟩=>?_) fun _ _ z=>False.elim z)
 have I0:Inv X pins σ H0 s0:=I0'.unwish
 refine Calls.spliced_cons (thn (he pins s0 σ H0 _ R I0 q0) fun u s2 ⟨v,H2,I2,r2,q2⟩=>Calls.spliced_nil ?_)
 have r:Vals [y,v] [w,u]:=.cons r0 (.cons r2 .nil)
 refine ⟨by show 2<=sizeLine;rw [sizeLine_eq];decide,?_⟩
 have hf:H2 s2.heap.objs.size=none:=I2.hok.fresh (Nat.le_refl _)
 refine ⟨.ref s2.heap.objs.size,upd H2 s2.heap.objs.size (.tup [y,v]),I2.laid (t':=s2.toks) (fun b o e'=>Heap.get?_push_of_some _ e') (Nat.le_refl _) ?_,rfl,q2 _ hf⟩
 exact ⟨by show 2<=sizeLine;rw [sizeLine_eq];decide,[w,u],r,⟨_,Heap.get?_push_size _ rfl,rfl,_,rfl⟩⟩
def tySet2 (i:Nat)(t:TEx2):TTy2:=fun D R σ H=>t σ H (fun v H1=>D.nx (σ.set i (some v)) H1) fun cls od H1=>R σ cls od H1
theorem py_set2 {i:Nat}{x:Str}{e:Expr}{t:TEx2}{pos pos':Pos}(hN:X.N.Nodup)(hi:X.N[i]?=some x)(hx:Loc X.env.scope x)(he:PEx2 X e t)(hs:swapsWith e (some (.Name x pos')) pos.line X.env=pure false:=by rfl)(hf:X.fn x=true∨X.env.scope.names.lookup x=some .local:=by first | exact .inl rfl | exact .inr rfl | assumption) :
  PTy2 X [.Assign [.Name x pos'] e pos] (tySet2 i t):=by
 intro pins s σ H D R I q
 refine wpAny_execs_cons (wpAny_Assign_Name (wpAny_mono (he pins s σ H _ _ I q) (fun v s1 ⟨y,H1,I1,r1,q1⟩=>?_) fun e' s1 z=>?_) hs)
 ·exact store_ok I1 hN hi hx r1 (fun s2 I2=>wpAny_execs_nil ⟨_,H1,I2,q1⟩) hf
 ·obtain ⟨a,cls,od,H1,s2,H',rfl,I2,Y,d,q2⟩:=z
  exact ⟨a,cls,od,σ,H1,s2,H',rfl,I2,Y,d,q2⟩
theorem op_eq_SI (hu:X.A.units<cLine):OpR X (compareOp .Eq) (fun x y H Q=>∃ (p b:Addr) (t:List Nat) (i:Int),x = .ref p∧y = .ref b∧SqT X.K H p [T t,.int i]∧SqT X.K H b [T t,.int i]∧Q (.bl true) H):=by
 intro pins s σ H x y v u Q I rx ry h
 obtain ⟨p,b,t,i,rfl,rfl,h1,h2,q⟩:=h
 cases rx
 cases ry
 obtain ⟨its,r,pl,_⟩:=I.tuple h1
 obtain ⟨its2,r2,pl2,_⟩:=I.tuple h2
 have l1:=r.length
 have l2:=r2.length
 refine SeqAt.eq_tupleAt (e:=fun _=>true) pl pl2 hu (fun m g1 g2=>?_) ?_
 ·have hm:m<2:=by rw [List.size_toArray] at g1;simp at l1;omega
  have key:∀ (z:V),[T t,V.int i][m]?=some z->eqV z z=true∧flatV z=true->SeqAt.EqAt X.A.in1 s its.toArray[m] its2.toArray[m] true:=fun z hz hf=>by
   obtain ⟨u',e1,q1⟩:=r.get hz
   obtain ⟨w',e2,q2⟩:=r2.get hz
   have e:=eqAt_V (A:=X.A.in1) (s:=s) q1 q2 hf.2 hf.2
   rw [hf.1] at e
   have a1:its.toArray[m]=u':=by rw [List.getElem_toArray];exact (List.getElem?_eq_some_iff.mp e1).2
   have a2:its2.toArray[m]=w':=by rw [List.getElem_toArray];exact (List.getElem?_eq_some_iff.mp e2).2
   rw [a1,a2]
   exact e
  rcases (show m=0∨m=1 by omega) with rfl | rfl
  ·exact key (T t) rfl ⟨by show (tx t==tx t)=true;rw [beq_iff_eq],rfl⟩
  ·exact key (.int i) rfl ⟨by show (i==i)=true;simp,rfl⟩
 ·rw [show ((List.range (min its.toArray.size its2.toArray.size)).all (fun _=>true)&&its.toArray.size==its2.toArray.size)=true by rw [show its.toArray.size=its2.toArray.size by rw [List.size_toArray,List.size_toArray];omega];simp]
  exact ⟨.bl true,H,I,rfl,q⟩
end
end L2
namespace L2
open PySem PySem.Spec PyProof.Rows
theorem entry_unchain:entryFor table "proto.unchain" = some Builtin.«proto.unchain» := entryFor_of_fast (by kernel_rfl)
theorem list_endH {prog:Program}{w:World}{A:Around}{E:Value->Shared->Prop}{s:Shared}{it l a:Addr}{i:Nat}{items:Array Value}{oh:Obj}{vs:Array Value}{Q:Option Value->Shared->Prop}(hh:A.handled=some (.ref a))(hoh:s.heap.get? a=some oh)(hdh:oh.data = .fields vs)(h2:vs[2]?=some .none)(hai:a≠it)
  (hit:s.heap.IsListIter it l i) (hl:s.heap.IsList l items) (hx:items[i]?=none)
  (hQ:∀ h',Heap.ExtBut it s.heap h'->Q none { s with heap:=h' }):wpAny (model prog w) A (pyNext (.ref it)) Q E s:=by
 obtain ⟨o,ho,hc,hd⟩:=id hit
 obtain ⟨ol,hol,_,nl,hdl⟩:=hl
 unfold pyNext
 refine wpAny_bind (wpAny_attempt (wpAny_callSpecial?_slot (name:=Str.ofString "__next__") hit.typeIs slot_listiter_next
  (wpAny_call_entry slot_listiter_next hit.typeIs entry_listiter_next ?_ (args_listiter_next _))))
 show wpAny _ _ (field (.ref it) 0 >>= _) _ _ s
 refine wpAny_bind (wpAny_field ho hd (x:=.ref l) rfl ?_)
 show wpAny _ _ (if (Value.ref l==Value.none)=true then _ else _) _ _ s
 rw [if_neg (show ¬ ((Value.ref l==Value.none)=true) from Bool.false_ne_true)]
 show wpAny _ _ (field (.ref it) 1 >>= _) _ _ s
 refine wpAny_bind (wpAny_field ho hd (x:=.int i 0) rfl ?_)
 show wpAny _ _ (seqItems? (.ref l) >>= _) _ _ s
 refine wpAny_bind (wpAny_seqItems hol hdl ?_)
 simp only [Int.toNat_natCast,hx]
 refine wpAny_bind (wpAny_rule (wpAny_bind (wpAny_setField ho hd (by simp) ?_)))
 show wpAny _ _ (newExc (.type "StopIteration") [] >>= _) _ _ _
 refine wpAny_bind ?_
 simp only [newExc,newTuple]
 refine wpAny_bind (wpAny_newObj_type ?_ (by size_fits))
 refine wpAny_bind (m:=firstArgMember _ _) (wpAny_of_eq (a:=Value.none) (by first | rfl | (simp only [firstArgMember];rfl)) ?_)
 refine wpAny_newObj_type ?_ (by size_fits)
 simp only [raiseNew]
 refine wpAny_bind (wpAny_handled ?_)
 rw [show A.in1.handled=some (.ref a) from hh]
 dsimp only
 have sb:=Heap.SameBut.update s.heap it (Obj.mapFields fun x=>x.setIfInBounds 0 Value.none)
 have hoh1:(s.heap.update it (Obj.mapFields fun x=>x.setIfInBounds 0 Value.none)).get? a=some oh:=(sb.2 a hai).trans hoh
 have eb:=sb.extBut
 generalize s.heap.update it (Obj.mapFields fun x=>x.setIfInBounds 0 Value.none)=h1 at hoh1 eb ⊢
 have eb2:=eb.push { cls:=Value.type "tuple",data:=Data.seq #[] }
 have hoh2:=Heap.get?_push_of_some { cls:=Value.type "tuple",data:=Data.seq #[] } hoh1
 generalize h1.push { cls:=Value.type "tuple",data:=Data.seq #[] }=h2' at eb2 hoh2 ⊢
 have han:a<h2'.objs.size:=Heap.lt_size hoh2
 have eb3:=eb2.push { cls:=Value.type "StopIteration",data:=Data.fields (#[.ref h1.objs.size,.none,.none,.none,.bool false,.none]++ownMembersOf (.type "StopIteration") []) }
 have hoh3:=Heap.get?_push_of_some { cls:=Value.type "StopIteration",data:=Data.fields (#[.ref h1.objs.size,.none,.none,.none,.bool false,.none]++ownMembersOf (.type "StopIteration") []) } hoh2
 have hen:(h2'.push { cls:=Value.type "StopIteration",data:=Data.fields (#[.ref h1.objs.size,.none,.none,.none,.bool false,.none]++ownMembersOf (.type "StopIteration") []) }).get? h2'.objs.size=some { cls:=Value.type "StopIteration",data:=Data.fields (#[.ref h1.objs.size,.none,.none,.none,.bool false,.none]++ownMembersOf (.type "StopIteration") []) }:=Heap.get?_push_size _ rfl
 have hlt:∀ b o,b≠it->s.heap.get? b=some o->b≠h2'.objs.size:=fun b o hb e=>Nat.ne_of_lt (Heap.lt_size (eb2 b o hb e))
 generalize h2'.push { cls:=Value.type "StopIteration",data:=Data.fields (#[.ref h1.objs.size,.none,.none,.none,.bool false,.none]++ownMembersOf (.type "StopIteration") []) }=h3 at eb3 hoh3 hen ⊢
 generalize h2'.objs.size=n at han hen hlt ⊢
 rw [if_pos (show (Value.ref a != Value.ref n)=true by simp;exact Nat.ne_of_lt han)]
 refine wpAny_bind (wpAny_holding (wpAny_runValue (codeAny_builtin entry_unchain ?_)))
 show wpAny _ _ (field (.ref a) 2 >>= _) _ _ _
 refine wpAny_bind (wpAny_field hoh3 hdh h2 ?_)
 dsimp only
 rw [if_pos (show (Value.none==Value.none)=true from rfl)]
 refine wpAny_pure ?_
 show wpAny _ _ (setField (.ref n) 2 (.ref a) >>= _) _ _ _
 refine wpAny_bind (wpAny_setField hen rfl (by simp [ownMembersOf]) ?_)
 refine wpAny_throw ?_
 have sb2:=Heap.SameBut.update h3 n (Obj.mapFields fun x=>x.setIfInBounds 2 (Value.ref a))
 refine wpAny_bind (wpAny_isInstance (T := "StopIteration") (b:=true) ⟨_,Heap.get?_update_self _ hen rfl,rfl⟩ isSubtype_stop ?_)
 exact wpAny_pure (hQ _ fun b o' hb e=>(sb2.2 b (hlt b o' hb e)).trans (eb3 b o' hb e))
set_option genInjectivity false in
structure TurnW (ok:Cx->Prop)(P:Program)(w:World)(K:PySem.W.Frag)(tg:Expr)(J:It)(fp:List Addr)(it:Addr)(tn:Nat->Heap->Prop):Prop where
 mem:it∈fp
 obj:∀ i h,tn i h->∀ b∈fp,∃ o,h.get? b=some o∧∀ v,o.data≠.cell v
 keep:∀ i h h',tn i h->(∀ b∈fp,∀ o,h.get? b=some o->h'.get? b=some o)->tn i h'
 item:∀ (X:Cx),X.prog=P->X.w=w->X.K=K->ok X->∀ (i:Nat) (pins:List (Addr×Obj)) (s:Shared) (σ:St) (H:Hp) (E:Value->Shared->Prop),Inv X pins σ H s->(∀ b∈fp,FpOk X pins H b)->tn i s.heap->J.go i H ->
  wpAny (model P w) X.A (pyNext (.ref it)) (fun r s1=>∃ u,r=some u ∧
   wpAny (model P w) X.A (letOwnedTupleGo tg (.ref it) u) (fun _ s2=>∃ x H',Inv X pins σ H' s2∧RelV x u∧J.yld i H x H'∧tn (i+1) s2.heap∧∀ b∈fp,H' b=none) E s1) E s
 done:∀ (X:Cx),X.prog=P->X.w=w->X.K=K->ok X->∀ (i:Nat) (pins:List (Addr×Obj)) (s:Shared) (σ:St) (H:Hp) (E:Value->Shared->Prop),Inv X pins σ H s->(∀ b∈fp,FpOk X pins H b)->tn i s.heap->J.stop i H ->
  wpAny (model P w) X.A (pyNext (.ref it)) (fun r s1=>r=none∧Inv X pins σ H s1) E s
 self:∀ (A:Around) (i:Nat) (s:Shared) (Q:Value->Shared->Prop) (E:Value->Shared->Prop),tn i s.heap->Q (.ref it) s->wpAny (model P w) A (pyIter (.ref it)) Q E s
def PIEW (ok:Cx->Prop)(X:Cx)(pins:List (Addr×Obj))(σ:St)(tg:Expr)(R:It->Hp->Prop)(itv:Value)(s2:Shared):Prop :=
 ∃ (it:Addr) (fp:List Addr) (tn:Nat->Heap->Prop) (J:It) (H':Hp),itv = .ref it∧Inv X pins σ H' s2∧TurnW ok X.prog X.w X.K tg J fp it tn∧tn 0 s2.heap∧(∀ b∈fp,FpOk X pins H' b)∧R J H'
def PIW (ok:Cx->Prop)(X:Cx)(tg iter:Expr)(wi:TI):Prop :=
 ∀ (pins:List (Addr×Obj)) (s:Shared) (σ:St) (H:Hp) (R:It->Hp->Prop),Inv X pins σ H s->wi σ H R ->
  wpAny (model X.prog X.w) X.A (eval iter X.env) (fun v s1=>wpAny (model X.prog X.w) X.A (pyIter v) (PIEW ok X pins σ tg R) X.xe s1) X.xe s
def Itlh (K:PySem.W.Frag)(a e:Addr):It:={ Itl K a with stop:=fun i H=>(Itl K a).stop i H∧∃ cls od,H e=some (ExD e cls od) }
theorem turn_listH {P:Program}{w:World}{K:PySem.W.Frag}{tg:Expr}(a it e:Addr):TurnW (fun X=>X.A.handled=some (.ref e)) P w K tg (Itlh K a e) [it] it (fun i h=>h.IsListIter it a i) where
 mem:=by simp
 obj:=(turn_list (P:=P) (w:=w) (K:=K) (tg:=tg) a it).obj
 keep:=(turn_list (P:=P) (w:=w) (K:=K) (tg:=tg) a it).keep
 item:=by
  intro X hP hw hK hc i pins s σ H E I hf st hg
  subst hP hw hK
  obtain ⟨xs,x,hq,hx⟩:=hg
  obtain ⟨its,rv,p,hz⟩:=I.list hq
  obtain ⟨u,hu,ru⟩:=rv.get hx
  obtain ⟨f0,f1,f2,f3,f4,f5⟩:=hf it (by simp)
  refine wpAny_pyNext_list_item st p.isList (x:=u) (by simpa using hu) fun h' st' sb=>?_
  have I1:Inv X pins σ H { s with heap:=h' }:=I.turned (t':=s.toks) (fun b o hb e=>(sb.2 b hb).trans e) f0 f1 f3 f4 f5
  obtain ⟨o,e,c,d⟩:=id st'
  exact ⟨u,rfl,go_of (s:={ s with heap:=h' }) e c d (by decide) ⟨x,H,I1,ru,⟨rfl,fun ys hy=>by rw [I.list_inj hy hq];exact hx⟩,st',fun b hb=>(hf b hb).1⟩⟩
 done:=by
  intro X hP hw hK hc i pins s σ H E I hf st hg
  subst hP hw hK
  obtain ⟨⟨xs,hq,hx⟩,cls,od,he⟩:=hg
  obtain ⟨its,rv,p,hz⟩:=I.list hq
  obtain ⟨f0,f1,f2,f3,f4,f5⟩:=hf it (by simp)
  have hl:=rv.length
  obtain ⟨⟨_,oh,e1,_,e3⟩,_⟩:=(show ObjOk X.prog X.w H s.heap e (ExD e cls od) from I.hok e _ he)
  obtain ⟨vs,hv,h2⟩:∃ vs,oh.data = .fields vs∧vs[2]?=some .none:=by
   unfold c2 at e3
   split at e3
   ·rename_i vs hv
    exact ⟨vs,hv,e3⟩
   ·cases e3
  refine list_endH hc e1 hv h2 (fun z=>?_) st p.isList (by simp;omega) fun h' eb=>⟨rfl,I.turned (t':=s.toks) (fun b o hb e=>eb b o hb e) f0 f1 f3 f4 f5⟩
  rw [z,f0] at he
  cases he
 self:=(turn_list (P:=P) (w:=w) (K:=K) (tg:=tg) a it).self
def iListH (K:PySem.W.Frag)(e:Addr)(tl:TE):TI:=fun σ H R=>tl σ H fun x H1=>∃ a,x = .ref a∧(∃ xs,SqL K H1 a xs)∧R (Itlh K a e) H1
theorem pi_listH {X:Cx}{tg l:Expr}{tl:TE}{e:Addr}(K:PySem.W.Frag)(hK:X.K=K)(hl:PE X l tl):PIW (fun X=>X.A.handled=some (.ref e)) X tg l (iListH K e tl):=by
 subst hK
 intro pins s σ H R I h
 refine thn (hl pins s σ H _ I h) fun v s1 ⟨x,H1,I1,r1,q1⟩=>?_
 obtain ⟨a,e',⟨xs,hq⟩,q⟩:=q1
 subst e'
 cases r1
 obtain ⟨its,rv,p,hz⟩:=I1.list hq
 refine wpAny_pyIter_list p.isList ?_
 refine ⟨s1.heap.objs.size,[s1.heap.objs.size],_,_,H1,rfl,I1.kept (t':=s1.toks) fun b o e=>Heap.get?_push_of_some _ e,turn_listH a _ e,⟨_,Heap.get?_push_size _ rfl,rfl,rfl⟩,fun b hb=>?_,q⟩
 have e':b=s1.heap.objs.size:=by simpa using hb
 subst e'
 exact I1.fpOk (Nat.le_refl _) (I1.hok.fresh (Nat.le_refl _))
section
variable {X:Cx}{N':List Str}{scope:Scope}{x:Str}{px:Pos}{elt iter:Expr}{cds:List Expr}{pos:Pos}{te:TE}{tc:TT}{wi:TI}
theorem compx_coreW {ok:Cx->Prop}(S:CompSc X.N N' X.env.scope scope x)(hc:∀ cl C s H fp,ok (cxComp X N' scope cl C s H fp))(ht:∀ cl C s H fp,PTL (cxComp X N' scope cl C s H fp) cds tc)(he:∀ cl C s H fp,PE (cxComp X N' scope cl C s H fp) elt te)
  {pins:List (Addr×Obj)} {σ:St} {H:Hp} {s:Shared} {Q:VK} {E:Value->Shared->Prop} {RR:Value->Addr->Result->Shared->Prop} {it:Addr} {fp:List Addr} {tn:Nat->Heap->Prop} {J:It}
  (I:Inv X pins σ H s) (T:TurnW ok X.prog X.w X.K (.Name x px) J fp it tn) (st:tn 0 s.heap) (f2:∀ b∈fp,FpOk X pins H b)
  (hw:compAtF tc te σ Q J H)
  (hRR:∀ D C s' H',Inv X pins σ H' s'->(∃ m,s'.heap.Ns C m)->C≠X.env.locals->(∀ y c,X.env.cells.lookup y=some c->c≠C)->H' C=none->X.s₀.heap.objs.size<=C->(∀ p∈X.pn++pins,p.1≠C)->Q (.ref D) H'->RR (.ref D) C (.ok .next) s') :
  ∃ cl,closureFor scope X.env=pure cl∧wpAny (model X.prog X.w) X.A (newList []) (fun acc s₃=>wpAny (model X.prog X.w) X.A (newFunctionEnv scope X.env.globals cl [] X.env.qual none .none (some X.env)) (fun cenv s₄ =>
   codeAny (model X.prog X.w) X.A (.compStart (.ListComp elt [⟨.Name x px,iter,cds,0⟩] scope pos) 0 (.ref it) acc { cenv with scope:=relabel scope X.env }) (RR acc cenv.locals) s₄) E s₃) E s:=by
 have hfree:∀ z∈scope.names,z.2 = .free->∃ c,X.env.cells.lookup z.1=some c:=fun z hz hk=>by
  rcases S.ok z hz hk with q | q
  ·exact I.ok.has z.1 (.inl q)
  ·exact I.ok.has z.1 (.inr q)
 refine ⟨_,clos_eq hfree,?_⟩
 have clS:∀ y c,(closOf X.env.cells scope.names []).lookup y=some c->X.env.cells.lookup y=some c:=fun y c=>clos_sound scope.names [] hfree fun q=>by cases q
 generalize hcl:closOf X.env.cells scope.names []=cl at clS
 have clH:∀ y,scope.names.lookup y=some .free->∃ c,cl.lookup y=some c:=fun y hy=>by
  rw [<- hcl]
  exact clos_has scope.names [] (lookup_mem hy)
 refine wpAny_newObj_type (wpAny_newFunctionEnv S.cell (by intro y hy;simp at hy) (fun h₁ hns₁ hsb₁=>?_) S.kind)
 have I3:Inv X pins σ (upd H s.heap.objs.size (.lst [])) { s with heap:=s.heap.push { cls:=.type "list",data:=.seq ([]:List Value).toArray } }:=I.lnew (t':=s.toks) .nil (Nat.zero_le _)
 obtain ⟨W,⟨m0,w0⟩,turn⟩:=hw s.heap.objs.size I.fresh
 dsimp only at hns₁ hsb₁ ⊢
 generalize hs3:({ s with heap:=s.heap.push { cls:=.type "list",data:=.seq ([]:List Value).toArray } }:Shared)=s3 at I3
 have hh3:s3.heap=s.heap.push { cls:=.type "list",data:=.seq ([]:List Value).toArray }:=by rw [<- hs3]
 have hsz3:s3.heap.objs.size=s.heap.objs.size+1:=by rw [hh3,Heap.size_push]
 rw [<- hh3] at hns₁ hsb₁ ⊢
 have old:∀ b o,s3.heap.get? b=some o->h₁.get? b=some o:=fun b o e=>hsb₁.extBut b o (by have:=Heap.lt_size e;exact Nat.ne_of_lt this) (Heap.get?_push_of_some _ e)
 have old0:∀ b o,s.heap.get? b=some o->h₁.get? b=some o:=fun b o e=>old b o (by rw [hh3];exact Heap.get?_push_of_some _ e)
 have CneL:s3.heap.objs.size≠X.env.locals:=Nat.ne_of_gt I3.lt
 have CneC:∀ y c,X.env.cells.lookup y=some c->c≠s3.heap.objs.size:=fun y c e z=>by
  obtain ⟨v,q⟩:=I3.cell y c e
  have:=q.lt
  rw [z] at this
  exact absurd this (Nat.lt_irrefl _)
 have CneP:∀ p∈X.pn++pins,p.1≠s3.heap.objs.size:=fun p hp z=>by
  have:=Heap.lt_size (I3.pin p hp).1
  rw [z] at this
  exact absurd this (Nat.lt_irrefl _)
 have CfreeH:∀ b o,s3.heap.get? b=some o->b<s3.heap.objs.size:=fun b o e=>by have:=Heap.lt_size e;exact this
 have fpLt:∀ b∈fp,b<s3.heap.objs.size:=fun b hb=>by
  obtain ⟨o,e,_⟩:=T.obj 0 s.heap st b hb
  rw [hsz3]
  exact Nat.lt_succ_of_lt (Heap.lt_size e)
 have fpD:∀ b∈fp,b≠s.heap.objs.size:=fun b hb=>by
  obtain ⟨o,e,_⟩:=T.obj 0 s.heap st b hb
  exact Nat.ne_of_lt (Heap.lt_size e)
 have ok':(cxComp X N' scope cl s3.heap.objs.size s3 (upd H s.heap.objs.size (.lst [])) fp).Ok:=by
  refine ⟨I3.ok.mod,?_,I3.ok.glob,I3.ok.blt,Nat.le_refl _,fun y z c h1 h2=>I3.ok.inj y z c (clS y c h1) (clS z c h2),fun y hy=>?_,fun y c hf=>(by cases hf),I3.ok.hd,I3.ok.frames,.inl rfl,fun b hb=>⟨Nat.ne_of_lt (fpLt b hb),fun y c e=>(f2 b hb).2.2.2.2.1 y c (clS y c e)⟩,
   fun b o e=>I3.bs b o e,Nat.le_trans I3.ok.bsz I3.sz,fun b o e hb=>?_,fun b hb z=>?_,I3.stack,I3.stkFree⟩
  ·show (relabel scope X.env).kind = .function
   exact S.kind
  ·have hy':(relabel scope X.env).names.lookup y=some .cell∨(relabel scope X.env).names.lookup y=some .free:=hy
   rw [relabel_lookup] at hy'
   cases q:scope.names.lookup y with
   | none=>rw [q] at hy';rcases hy' with z | z <;> cases z
   | some k =>
    have hm:=lookup_mem q
    cases k with
    | free=>exact clH y q
    | cell=>exact absurd rfl (S.cell _ hm)
    | «local» => rw [q] at hy';rcases hy' with z | z <;> simp at z
    | globalExplicit=>rw [q] at hy';rcases hy' with z | z <;> simp at z
    | globalImplicit=>rw [q] at hy';rcases hy' with z | z <;> simp at z
  ·rcases (f2 b hb).2.2.2.1 with z | z
   ·exact I.ok.noex b o e z
   ·exact absurd (Nat.lt_of_lt_of_le (Heap.lt_size e) (Nat.le_trans I.ok.bsz z)) (Nat.lt_irrefl _)
  ·rcases List.mem_cons.mp (I3.stkSub b z) with q | q
   ·exact (f2 b hb).2.1 q
   ·exact (f2 b hb).2.2.1 q
 have fpOk':∀ {H':Hp},(∀ b∈fp,H' b=none)->∀ b∈fp,FpOk (cxComp X N' scope cl s3.heap.objs.size s3 (upd H s.heap.objs.size (.lst [])) fp) pins H' b:=fun hn b hb =>
  ⟨hn b hb,Nat.ne_of_lt (fpLt b hb),fun z=>by
   rcases List.mem_cons.mp (I3.stkSub b z) with q | q
   ·exact (f2 b hb).2.1 q
   ·exact (f2 b hb).2.2.1 q,.inl hb,fun y c e=>(f2 b hb).2.2.2.2.1 y c (clS y c e),(f2 b hb).2.2.2.2.2⟩
 have I4:Inv (cxComp X N' scope cl s3.heap.objs.size s3 (upd H s.heap.objs.size (.lst [])) fp) pins (none::σ) (upd H s.heap.objs.size (.lst [])) { s3 with heap:=h₁,toks:=s3.toks+([]:List (Str×Value)).length }:=by
  refine ⟨ok',rfl,I3.bare,Un.kept old,⟨_,hns₁,fun i y v e1 e2 vis=>?_⟩,fun y c e=>?_,?_,fun y c e=>I3.freeC y c (clS y c e),fun p hp=>?_,I3.hok.kept old,?_⟩
  ·cases i with
   | zero=>cases e2
   | succ i =>
    have e2':σ[i]?=some (some v):=by simpa using e2
    have hi:i<X.N.length:=by rw [<- I3.len];exact (List.getElem?_eq_some_iff.mp e2').1
    have vis':(relabel scope X.env).names.lookup y=some .local∨(relabel scope X.env).names.lookup y=some .cell∨(relabel scope X.env).names.lookup y=some .free:=vis
    have e1':N'[i+1]?=some y:=e1
    rcases S.sub i hi with q | q
    ·rw [e1'] at q
     have hy:X.N[i]?=some y:=q.symm
     have hmem:y∈N'.tail:=by
      rw [List.mem_iff_getElem?]
      exact ⟨i,by rw [List.getElem?_tail];exact e1'⟩
     have hfr:scope.names.lookup y=some .free:=by
      rw [relabel_lookup] at vis'
      cases q2:scope.names.lookup y with
      | none=>rw [q2] at vis';rcases vis' with z | z | z <;> cases z
      | some k =>
       cases k with
       | free=>rfl
       | cell=>exact absurd rfl (S.cell _ (lookup_mem q2))
       | «local» => exact absurd q2 (S.nol y hmem)
       | globalExplicit=>rw [q2] at vis';rcases vis' with z | z | z <;> simp at z
       | globalImplicit=>rw [q2] at vis';rcases vis' with z | z | z <;> simp at z
     have hok:=S.ok (y,.free) (lookup_mem hfr) rfl
     obtain ⟨m,hn,hl⟩:=I3.loc
     have visX:Vis X.env.scope y:=by
      rcases hok with z | z
      ·exact .inr (.inl z)
      ·exact .inr (.inr z)
     obtain ⟨u,r,l⟩:=hl i y v hy e2' visX
     refine ⟨u,r,.inr ⟨?_,?_⟩⟩
     ·show (relabel scope X.env).names.lookup y=some .cell∨(relabel scope X.env).names.lookup y=some .free
      rw [relabel_lookup,hfr,Option.map_some]
      by_cases hcnd:(NameKind.free==NameKind.free&&X.env.scope.kind == .function&&X.env.kindOf y==some .cell)=true
      ·left
       rw [if_pos hcnd]
      ·right
       rw [if_neg hcnd]
     ·rcases l with ⟨k,_⟩ | ⟨k,c,e,z⟩
      ·have k':X.env.scope.names.lookup y=some .local:=k
       have hok':X.env.scope.names.lookup y=some .cell∨X.env.scope.names.lookup y=some .free:=hok
       rw [k'] at hok'
       rcases hok' with z | z <;> cases z
      ·obtain ⟨c',e'⟩:=clH y hfr
       have e3:=clS y c' e'
       rw [e] at e3
       cases e3
       obtain ⟨o,ho,hd⟩:=z
       exact ⟨c,e',o,old c o ho,hd⟩
    ·rw [e1'] at q
     have q:scope.names.lookup y=none:=Option.some.inj q
     rw [relabel_lookup,q] at vis'
     rcases vis' with z | z | z <;> cases z
  ·obtain ⟨v,o,ho,hd⟩:=I3.cell y c (clS y c e)
   exact ⟨v,o,old c o ho,hd⟩
  ·show upd H s.heap.objs.size (.lst []) s3.heap.objs.size=none
   exact I3.hok.fresh (Nat.le_refl _)
  ·obtain ⟨e,n,ne,nf,d⟩:=I3.pin p hp
   refine ⟨old _ _ e,n,CneP p hp,fun z=>?_,d⟩
   rcases List.mem_cons.mp (I3.stkSub p.1 z) with q | q
   ·exact ne q
   ·exact nf q
  ·show (none::σ).length=N'.length
   rw [S.len,List.length_cons,I3.len]
 have st4:tn 0 h₁:=T.keep 0 s.heap h₁ st fun b _ o e=>old0 b o e
 have loop:∀ s₄:Shared,s₄ = { s3 with heap:=h₁,toks:=s3.toks+([]:List (Str×Value)).length } ->
   codeAny (model X.prog X.w) X.A (.compLoop (.ListComp elt [⟨.Name x px,iter,cds,0⟩] scope pos) 0 (.ref it) (.ref s.heap.objs.size) (compEnvC scope cl s3.heap.objs.size X.env)) (RR (.ref s.heap.objs.size) s3.heap.objs.size) s₄:=by
  rintro s₄ rfl
  refine codeAny_compLoop_ts (fun n s'=>∃ i v0 ys H',Inv (cxComp X N' scope cl s3.heap.objs.size s3 (upd H s.heap.objs.size (.lst [])) fp) pins (v0::σ) H' s'∧tn i s'.heap∧(∀ b∈fp,H' b=none)∧W i n ys H') ?_ m0
   ⟨0,none,[],_,I4,st4,fun b hb=>by rw [upd_ne (fpD b hb)];exact (f2 b hb).1,w0⟩
  rintro n s5 ⟨i,v0,ys,H5,I5,st5,fr5,w5⟩
  rcases turn i n ys H5 w5 with ⟨stop,qn⟩ | ⟨go,hz,N,hN,Nn,hNn,step⟩
  ·refine thn (T.done (cxComp X N' scope cl s3.heap.objs.size s3 (upd H s.heap.objs.size (.lst [])) fp) rfl rfl rfl (hc _ _ _ _ _) i pins s5 (v0::σ) H5 (fun _ _=>False) I5 (fpOk' fr5) st5 stop) fun r s6 ⟨hr,I6⟩=>?_
   subst hr
   have hch:∀ b∈fp,(b∈X.ex∨X.s₀.heap.objs.size<=b)∧b≠X.env.locals∧(∀ x c,X.env.cells.lookup x=some c->c≠b)∧∀ p∈X.pn++pins,p.1≠b:=fun b hb =>
    ⟨(f2 b hb).2.2.2.1,(f2 b hb).2.1,(f2 b hb).2.2.2.2.1,(f2 b hb).2.2.2.2.2⟩
   have I7:Inv X pins σ H5 s6:=I3.call' (ch:=fp) I6.os I6.base I6.hok I6.bare hch
   obtain ⟨m,hm,_⟩:=I6.loc
   exact hRR s.heap.objs.size s3.heap.objs.size s6 H5 I7 ⟨m,hm⟩ CneL CneC I6.free (Nat.le_trans I3.sz (Nat.le_refl _)) CneP qn
  ·refine thn (T.item (cxComp X N' scope cl s3.heap.objs.size s3 (upd H s.heap.objs.size (.lst [])) fp) rfl rfl rfl (hc _ _ _ _ _) i pins s5 (v0::σ) H5 (fun _ _=>False) I5 (fpOk' fr5) st5 go) fun r s6 ⟨u,hr,h6⟩=>?_
   subst hr
   refine thn h6 fun _ s7 ⟨y,H7,I7,r7,y7,st7,fr7⟩=>?_
   have I7':=I7.pinned (fpOk' fr7) (T.obj _ _ st7)
   refine wpAny_assign_Name (store_ok (i:=0) (v:=y) I7' S.nd S.hd (.inl (lookup_relabel_local S.var)) r7 (fun s8 I8=>?_) (.inr (lookup_relabel_local S.var)))
   have I8':Inv (cxComp X N' scope cl s3.heap.objs.size s3 (upd H s.heap.objs.size (.lst [])) fp) (pins++pinsAt fp s7.heap) (some y::σ) H7 s8:=I8
   refine thn (ht cl s3.heap.objs.size s3 (upd H s.heap.objs.size (.lst [])) fp _ s8 (some y::σ) H7 (fun b H''=>if b=true then te (some y::σ) H'' N else Nn H'') I8' (step y H7 y7)) fun okb s8 ⟨H8,I8,q8⟩=>?_
   cases okb with
   | false =>
    have q8':Nn H8:=by simpa using q8
    obtain ⟨m',hm,w9⟩:=hNn H8 q8'
    refine ⟨m',hm,i+1,some y,ys,_,I8.unpinned,T.keep _ _ _ st7 fun b hb o e=>(I8.pin (b,o) (List.mem_append_right _ (List.mem_append_right _ (mem_pinsAt hb e)))).1,fun b hb=>?_,w9⟩
    obtain ⟨o,e,d⟩:=T.obj _ _ st7 b hb
    exact (I8.pin (b,o) (List.mem_append_right _ (List.mem_append_right _ (mem_pinsAt hb e)))).2.1
   | true =>
    refine thn (he cl s3.heap.objs.size s3 (upd H s.heap.objs.size (.lst [])) fp _ s8 (some y::σ) H8 N I8 (by simpa using q8)) fun w s9 ⟨v,H9,I9,r9,q9⟩=>?_
    obtain ⟨hD9,m',hm,w9⟩:=hN v H9 q9
    refine thn (mt_append _ s9 (some y::σ) H9 (.ref s.heap.objs.size) [v] (.ref s.heap.objs.size) [w] (fun z H10=>z = .non∧H10=upd H9 s.heap.objs.size (.lst (ys++[v]))) I9 rfl (.cons r9 .nil) ⟨s.heap.objs.size,ys,v,rfl,rfl,hD9,hz,rfl,rfl⟩) fun _ s10 ⟨z,H10,I10,_,ez,e10⟩=>?_
    subst e10
    refine ⟨m',hm,i+1,some y,ys++[v],_,I10.unpinned,T.keep _ _ _ st7 fun b hb o e=>(I10.pin (b,o) (List.mem_append_right _ (List.mem_append_right _ (mem_pinsAt hb e)))).1,fun b hb=>?_,w9⟩
    obtain ⟨o,e,d⟩:=T.obj _ _ st7 b hb
    exact (I10.pin (b,o) (List.mem_append_right _ (List.mem_append_right _ (mem_pinsAt hb e)))).2.1
 exact codeAny_compStart_list (loop _ (by rw [<- hs3])) (T.self X.A 0 _ _ _ st4 (loop _ (by rw [<- hs3])))
theorem pe_compxW {ok:Cx->Prop}{at':St->VK->It->Hp->Prop}(S:CompSc X.N N' X.env.scope scope x)(hc:∀ cl C s H fp,ok (cxComp X N' scope cl C s H fp))(hi:PIW ok X (.Name x px) iter wi)(ht:∀ cl C s H fp,PTL (cxComp X N' scope cl C s H fp) cds tc)(he:∀ cl C s H fp,PE (cxComp X N' scope cl C s H fp) elt te)(cv:∀ σ Q J H,at' σ Q J H->compAtF tc te σ Q J H)
  (hs:∀ x,foldedSetIterable iter X.env x=pure x:=by intro _;rfl):PE X (.ListComp elt [⟨.Name x px,iter,cds,0⟩] scope pos) (fun σ H Q=>wi σ H (at' σ Q)):=by
 intro pins s σ H Q I h
 rw [eval_ListComp]
 have hfree:∀ z∈scope.names,z.2 = .free->∃ c,X.env.cells.lookup z.1=some c:=fun z hz hk=>by
  rcases S.ok z hz hk with q | q
  ·exact I.ok.has z.1 (.inl q)
  ·exact I.ok.has z.1 (.inr q)
 refine wpAny_comprehension_free (use:=none) rfl hs (clos_eq hfree) S.kind S.names (thn (hi pins s σ H _ I h) fun xv s1 h1=>thn h1 fun itv s2 h2=>?_)
 obtain ⟨it,fp,tn,J,H2,e,I2,T,st2,f2,hw⟩:=h2
 subst e
 obtain ⟨cl,hcl,hrun⟩:=compx_coreW (tc:=tc) (cds:=cds) (elt:=elt) (iter:=iter) (pos:=pos) (px:=px) (E:=X.xe) (RR:=fun acc C=>compPost (model X.prog X.w) X.A X.xe none (EP X pins σ Q) acc C) S hc ht he I2 T st2 f2 (cv _ _ _ _ hw) (fun D C s' H' I' ⟨m,hm⟩ n1 n2 n3 n4 n5 q =>
  ⟨m,hm,fun h' hsb=>⟨.ref D,H',I'.turned (it:=C) (t':=s'.toks) (fun b o hb e=>(hsb.2 b hb).trans e) n3 n1 (.inr n4) n2 n5,rfl,q⟩⟩)
 have ecl:(pure (closOf X.env.cells scope.names []):Sem (List (Str×Addr)))=pure cl:=(clos_eq hfree).symm.trans hcl
 have ecl':closOf X.env.cells scope.names []=cl:=by
  injection ecl
 rw [ecl']
 exact hrun
theorem pe_compfH {e:Addr}{cd:Expr}(S:CompSc X.N N' X.env.scope scope x)(hh:X.A.handled=some (.ref e))(hi:PIW (fun X=>X.A.handled=some (.ref e)) X (.Name x px) iter wi)(ht:∀ cl C s H fp,PT (cxComp X N' scope cl C s H fp) cd tc)(he:∀ cl C s H fp,PE (cxComp X N' scope cl C s H fp) elt te)
  (hs:∀ x,foldedSetIterable iter X.env x=pure x:=by intro _;rfl):PE X (.ListComp elt [⟨.Name x px,iter,[cd],0⟩] scope pos) (tCompF wi tc te) :=
 pe_compxW (at':=fun σ Q=>compAtF tc te σ Q) S (fun _ _ _ _ _=>hh) hi (fun _ _ _ _ _=>ptl_one (ht _ _ _ _ _)) he (fun _ _ _ _ h=>h) hs
end
theorem reads_listH {K:PySem.W.Frag}{a e:Addr}{H:Hp}{vs:List V}{cls:Value}{od:Option Addr}(h:SqL K H a vs)(he:H e=some (ExD e cls od)):Reads (Itlh K a e) H vs :=
 ⟨(reads_list h).1,(reads_list h).2,fun H' s=>⟨(reads_list h).3 H' s,cls,od,s e _ he⟩⟩
def thAs2H (K:PySem.W.Frag)(c:Value)(i:Nat)(ts:Addr->TS)(tr:TH2):TH2:=fun D σ cls od H' =>
 (PySem.W.exmOne K cls c=some true∧∀ a,H' a=none->ts a { nx:=fun σ2 H2=>D.nx (σ2.set i none) H2,rt:=D.rt } (σ.set i (some (.ref a))) (upd H' a (ExD a cls od)))∨(PySem.W.exmOne K cls c=some false∧tr D σ cls od H')
theorem ph_as2H {X:Cx}{x n:Str}{c:Value}{np pos:Pos}{b₀:Stmt}{suite:List Stmt}{rest:List ExceptHandler}{ts:Addr->TS}{tr:TH2}{i:Nat}(hm:X.mg x=some c)(hN:X.N.Nodup)(hi:X.N[i]?=some n)(hlo:X.env.scope.names.lookup n=some .local)
  (hsu:∀ a,PSs (cxMark X a) (b₀::suite) (ts a)) (hr:PH2 X rest tr) (hg:Gl X x:=by rfl) (hd:(x==("__debug__" : Str))=false:=by decide) :
  PH2 X (.ExceptHandler (some (.Name x np)) (some n) (b₀::suite) pos::rest) (thAs2H X.K c i ts tr):=by
 intro pins σ H s a cls od H' s' D I Y d h
 have I1:=Y.inv I
 have hcls:(X.env.scope.kind == .class||(X.env.scope.kind == .module&&X.env.locals != X.env.globals))=false:=by rw [I.ok.kind];rfl
 refine wpAny_handleBy_cons (codeAny_handlers_test (ld_glob (X:=cxMark X a) (I1.mark a) hg hm ?_ hd)) (by intro q;cases q)
 rcases h with ⟨e,h⟩ | ⟨e,h⟩
 ·refine (PySem.W.exm_one I1.kIn Y.looks e).here ?_
  refine codeAny_handlers_suite_as (Y.again2 I d fun h6 Y6 d6=>?_)
  obtain ⟨na,I7⟩:=Y6.track2 I d6
  refine store_ok (X:=cxMark X a) (i:=i) (v:=.ref a) (I7.mark a) hN hi (.inl hlo) rfl (fun s8 I8=>?_) (.inr hlo)
  have gone:∀ (σ2:St) (H2:Hp) (s2:Shared) (Q:Shared->Prop),Inv X pins σ2 H2 s2->(∀ s3,Inv X pins (σ2.set i none) H2 s3->Q s3) ->
    wpAny (model X.prog X.w) X.A (do bindName X.env n .none;unbindBehindTheSuite X.env n pos) (fun _ s3=>Q s3) X.xe s2:=fun σ2 H2 s2 Q I2 hQ=>by
   refine wpAny_bind (wpAny_bindName (store_ok (v:=.non) I2 hN hi (.inl hlo) rfl (fun s3 I3=>?_) (.inr hlo)))
   have hi2:i<(σ2.set i (some V.non)).length:=by rw [I3.len];exact (List.getElem?_eq_some_iff.mp hi).1
   obtain ⟨m,hn,hl⟩:=id I3.loc
   obtain ⟨u,r,l⟩:=hl i n .non hi (by rw [List.getElem?_set_self (by rw [List.length_set] at hi2;exact hi2)]) (.inl hlo)
   have hv:m n=some u:=by
    rcases l with ⟨_,z⟩ | ⟨k,_⟩
    ·exact z
    ·have k':X.env.scope.names.lookup n=some .cell∨X.env.scope.names.lookup n=some .free:=k
     rw [hlo] at k'
     rcases k' with z | z <;> cases z
   unfold unbindBehindTheSuite
   refine wpAny_onRaise (wpAny_unbindName_local hlo hn hv hcls fun h' u' hns hsb=>?_)
   refine hQ { s3 with heap:=h' } ?_
   have J:=I3.turnFrame (σ':=σ2.set i none) hns hsb (by rw [List.length_set,List.length_set]) (fun j y v e1 e2=>?_)
   ·exact J
   ·by_cases hj:j=i
    ·subst hj
     rw [List.getElem?_set_self (by rw [List.length_set] at hi2;exact hi2)] at e2
     cases e2
    ·rw [List.getElem?_set_ne (Ne.symm hj)] at e2
     refine ⟨by rw [List.getElem?_set_ne (Ne.symm hj)];exact e2,fun m2 hn2=>?_⟩
     have:y≠n:=fun z=>hj (nodup_ix hN e1 (z▸hi))
     show (if y=n then u' else m y)=m2 y
     rw [if_neg this]
     exact nsInj hn hn2 y
  have hq:=h a na
  refine wpAny_mono (hsu a pins s8 _ _ _ I8 hq) (fun f s9 z=>?_) fun _ _ z=>False.elim z
  cases f with
  | next =>
   obtain ⟨σ9,H9,I9,q9⟩:=z
   exact gone σ9 H9 s9 _ (I9.unmark I.ok) fun s3 I3=>⟨_,H9,I3,q9⟩
  | ret u =>
   obtain ⟨v,σ9,H9,I9,r9,q9⟩:=z
   exact gone σ9 H9 s9 _ (I9.unmark I.ok) fun s3 I3=>⟨v,_,H9,I3,r9,q9⟩
  | brk =>
   obtain ⟨_,_,_,q9⟩:=z
   exact False.elim q9
  | cont =>
   obtain ⟨_,_,_,q9⟩:=z
   exact False.elim q9
 ·refine (PySem.W.exm_one I1.kIn Y.looks e).here ?_
  exact hr pins σ H s a cls od H' s' D I Y d h
end L2
namespace L2
open PySem PyProof.Rows PySem.Spec
section
variable {X:Cx}
end
end L2
namespace SN
open PySem PyProof.Rows SS
def keyV:Value->Int
 | .int x _=>x
 | _=>0
def El (w:World)(e:Int×Value):Prop:=e.1=hashInt (keyV e.2)∧∃ t,e.2 = .int (keyV e.2) t
def Els (w:World)(es:List (Int×Value))(ms:List Int):Prop:=(∀ e∈es,El w e)∧(es.map fun e=>keyV e.2).Perm ms
theorem Els.perm {w:World}{es es':List (Int×Value)}{ms:List Int}(h:Els w es ms)(p:es'.Perm es):Els w es' ms:=⟨fun e he=>h.1 e (p.mem_iff.mp he),(p.map _).trans h.2⟩
theorem Els.of {w:World}{prog:Program}{es:List (Int×Value)}{ms:List Int}(h:Els w es ms):ElemsOf (PySem.intKind prog w) es:=fun e he=>by
 obtain ⟨h1,t,h2⟩:=h.1 e he
 refine ⟨⟨keyV e.2,?_,h1⟩,?_⟩
 ·rw [h2]
  exact intKind_is prog w _ t
 ·rw [h2]
  rfl
theorem Els.len {w:World}{es:List (Int×Value)}{ms:List Int}(h:Els w es ms):es.length=ms.length:=by
 have:=h.2.length_eq
 rwa [List.length_map] at this
theorem Els.has {w:World}{prog:Program}{es:List (Int×Value)}{ms:List Int}(h:Els w es ms)(k:Int):k∈ms↔∃ e∈es,(PySem.intKind prog w).is k e.2=true:=by
 rw [<- h.2.mem_iff,List.mem_map]
 constructor
 ·rintro ⟨e,he,rfl⟩
  obtain ⟨_,t,h2⟩:=h.1 e he
  refine ⟨e,he,?_⟩
  conv=>lhs;arg 3;rw [h2]
  exact intKind_is prog w _ t
 ·rintro ⟨e,he,hk⟩
  obtain ⟨t,ht⟩:=Value.isInt_shape hk
  exact ⟨e,he,by rw [ht];rfl⟩
def Rs (t:SetTable):Prop:=(∀ i j,i<j->j<t.place.size->t.place.getD i 0<t.place.getD j 0)∧t.dummies = #[]
theorem below_go {xs:Array Nat}{j:Nat}(hr:∀ i k,i<k->k<xs.size->xs.getD i 0<xs.getD k 0):∀ (fuel lo hi:Nat),lo<=hi->hi<=xs.size->hi-lo<=fuel->(∀ i,i<lo->xs.getD i 0<j)->(∀ i,hi<=i->i<xs.size->j<=xs.getD i 0) ->
  SetTable.below.go xs j fuel lo hi<=xs.size∧(∀ i,i<SetTable.below.go xs j fuel lo hi->xs.getD i 0<j)∧(∀ i,SetTable.below.go xs j fuel lo hi<=i->i<xs.size->j<=xs.getD i 0)
 | 0,lo,hi,h1,h2,h3,h4,h5=>by
  have e:lo=hi:=by omega
  subst e
  exact ⟨h2,h4,h5⟩
 | fuel+1,lo,hi,h1,h2,h3,h4,h5=>by
  unfold SetTable.below.go
  by_cases hlt:lo<hi
  ·rw [if_pos hlt]
   dsimp only
   have hm:(lo+hi)/2<xs.size:=by omega
   have e:xs.getD ((lo+hi)/2) j=xs.getD ((lo+hi)/2) 0:=by
    rw [Array.getD_eq_getD_getElem?,Array.getD_eq_getD_getElem?,Array.getElem?_eq_getElem hm]
    rfl
   rw [e]
   by_cases hc:xs.getD ((lo+hi)/2) 0<j
   ·rw [if_pos hc]
    refine below_go hr fuel _ hi (by omega) h2 (by omega) (fun i hi'=>?_) h5
    rcases Nat.lt_or_ge i ((lo+hi)/2) with z | z
    ·exact Nat.lt_trans (hr i _ z hm) hc
    ·rw [show i=(lo+hi)/2 by omega];exact hc
   ·rw [if_neg hc]
    refine below_go hr fuel lo _ (by omega) (by omega) (by omega) h4 (fun i hi' hs=>?_)
    rcases Nat.lt_or_ge ((lo+hi)/2) i with z | z
    ·have:=hr _ i z hs
     omega
    ·rw [show i=(lo+hi)/2 by omega];omega
  ·rw [if_neg hlt]
   have e:lo=hi:=by omega
   subst e
   exact ⟨h2,h4,h5⟩
theorem below_ok {xs:Array Nat}(j:Nat)(hr:∀ i k,i<k->k<xs.size->xs.getD i 0<xs.getD k 0):SetTable.below xs j<=xs.size∧(∀ i,i<SetTable.below xs j->xs.getD i 0<j)∧(∀ i,SetTable.below xs j<=i->i<xs.size->j<=xs.getD i 0) :=
 below_go hr xs.size 0 xs.size (Nat.zero_le _) (Nat.le_refl _) (by omega) (fun i h=>by omega) fun i h1 h2=>by omega
theorem below_is {xs:Array Nat}{j p:Nat}(hr:∀ i k,i<k->k<xs.size->xs.getD i 0<xs.getD k 0)(h1:p<=xs.size)(h2:∀ i,i<p->xs.getD i 0<j)(h3:∀ i,p<=i->i<xs.size->j<=xs.getD i 0):SetTable.below xs j=p:=by
 obtain ⟨g1,g2,g3⟩:=below_ok j hr
 rcases Nat.lt_trichotomy (SetTable.below xs j) p with z | z | z
 ·have:=h2 _ z
  have:=g3 _ (Nat.le_refl _) (by omega)
  omega
 ·exact z
 ·have:=g2 _ z
  have:=h3 _ (Nat.le_refl _) (by omega)
  omega
theorem getD_get {xs:Array Nat}{i:Nat}(h:i<xs.size):xs[i]?=some (xs.getD i 0):=by
 rw [Array.getD_eq_getD_getElem?,Array.getElem?_eq_getElem h]
 rfl
theorem Rs.next {t:SetTable}(h:Rs t){i:Nat}(hi:i<=t.place.size):SetTable.below t.place (if i=0 then 0 else t.place.getD (i-1) 0+1)=i:=by
 refine below_is h.1 hi (fun k hk=>?_) (fun k hk hs=>?_)
 ·rw [if_neg (by omega)]
  rcases Nat.lt_or_ge k (i-1) with z | z
  ·have:=h.1 k (i-1) z (by omega)
   omega
  ·rw [show k=i-1 by omega];omega
 ·by_cases h0:i=0
  ·rw [if_pos h0];exact Nat.zero_le _
  ·rw [if_neg h0]
   have:=h.1 (i-1) k (by omega) hs
   omega
theorem probe_empty {t:SetTable}{f:Nat->Int}{h:Int}(hd:t.dummies = #[]):∀ (fuel:Nat) (p:SetTable.Probe) (j:Nat) (d:Option Nat),p.dummy=none->SetTable.probe.go t f h fuel p=some (.empty j d)->t.slot j = .empty∧d=none
 | 0,p,j,d,_,e=>by unfold SetTable.probe.go at e;cases e
 | fuel+1,p,j,d,hp,e=>by
  unfold SetTable.probe.go at e
  have hnd:t.slot p.j≠.dummy:=by
   unfold SetTable.slot
   dsimp only
   split
   ·intro z;cases z
   ·rw [hd]
    rw [show SetTable.has #[] p.j=false by unfold SetTable.has;simp]
    intro z;cases z
  have hadv:∀ q:SetTable.Probe,q.dummy=none->(t.advance q).dummy=none:=fun q hq=>by
   unfold SetTable.advance
   split
   ·exact hq
   ·exact hq
  split at e
  ·rename_i hs
   injection e with e
   injection e with e1 e2
   subst e1
   exact ⟨hs,by rw [<- e2];exact hp⟩
  ·rename_i hs
   exact absurd hs hnd
  ·split at e
   ·cases e
   ·exact probe_empty hd fuel _ j d (hadv p hp) e
theorem insert_rs {xs:Array Nat}{j:Nat}(hr:∀ i k,i<k->k<xs.size->xs.getD i 0<xs.getD k 0)(hj:∀ i,i<xs.size->xs.getD i 0≠j):∀ i k,i<k->k<(SetTable.insertAt xs (SetTable.below xs j) j).size->(SetTable.insertAt xs (SetTable.below xs j) j).getD i 0<(SetTable.insertAt xs (SetTable.below xs j) j).getD k 0:=by
 obtain ⟨g1,g2,g3⟩:=below_ok j hr
 generalize SetTable.below xs j=p at g1 g2 g3
 have hsz:(SetTable.insertAt xs p j).size=xs.size+1:=by
  unfold SetTable.insertAt
  simp
  omega
 have hat:∀ i,i<xs.size+1->(SetTable.insertAt xs p j).getD i 0=if i<p then xs.getD i 0 else if i=p then j else xs.getD (i-1) 0:=fun i hi=>by
  unfold SetTable.insertAt
  rw [Array.getD_eq_getD_getElem?,Array.getD_eq_getD_getElem?,Array.getD_eq_getD_getElem?]
  by_cases h1:i<p
  ·rw [if_pos h1,Array.getElem?_append_left (by simp;omega),Array.getElem?_push_lt (by simp;omega)]
   simp
   rw [Array.getElem?_eq_getElem (by omega)]
   rfl
  ·rw [if_neg h1]
   by_cases h2:i=p
   ·rw [if_pos h2,Array.getElem?_append_left (by simp;omega)]
    rw [show i=(xs.extract 0 p).size by simp;omega,Array.getElem?_push_size]
    rfl
   ·rw [if_neg h2,Array.getElem?_append_right (by simp;omega)]
    rw [Array.getElem?_extract]
    simp
    rw [show min p xs.size=p by omega]
    by_cases h3:i-(p+1)<xs.size-p
    ·rw [if_pos h3,show p+(i-(p+1))=i-1 by omega]
    ·omega
 intro i k hik hk
 rw [hsz] at hk
 rw [hat i (by omega),hat k hk]
 by_cases a1:i<p
 ·rw [if_pos a1]
  by_cases b1:k<p
  ·rw [if_pos b1];exact hr i k hik (by omega)
  ·rw [if_neg b1]
   have ha:=g2 i a1
   by_cases b2:k=p
   ·rw [if_pos b2];exact ha
   ·rw [if_neg b2]
    have:=g3 (k-1) (by omega) (by omega)
    omega
 ·rw [if_neg a1,if_neg (show ¬ k<p by omega),if_neg (show ¬ k=p by omega)]
  by_cases a2:i=p
  ·rw [if_pos a2]
   have h1:=g3 (k-1) (by omega) (by omega)
   have h2:=hj (k-1) (by omega)
   omega
  ·rw [if_neg a2]
   exact hr (i-1) (k-1) (by omega) (by omega)
theorem standIn_rs (t:SetTable)(n:Nat):Rs (t.standIn n):=by
 refine ⟨fun i j hij hj=>?_,rfl⟩
 have hj:j<n:=by simpa [SetTable.standIn] using hj
 show (Array.range n).getD i 0<(Array.range n).getD j 0
 rw [Array.getD_eq_getD_getElem?,Array.getD_eq_getD_getElem?,Array.getElem?_range,Array.getElem?_range]
 simp [hj,show i<n by omega]
 exact hij
theorem layNew_rs (t:SetTable)(es:Array (Int×Value))(h:Int)(x:Value)(hr:Rs t):Rs (layNew t es h x).2.1:=by
 unfold layNew
 split
 ·rename_i slot wd hf
  show Rs ((t.put slot).1.orStandIn _)
  unfold SetTable.orStandIn
  split
  ·unfold SetTable.freeSlot at hf
   split at hf
   ·rename_i j d hp
    have hp:SetTable.probe.go t (fun _=>h+1) h (10*SetTable.turns t.mask) (t.probeStart h)=some (.empty j d):=hp
    obtain ⟨h1,h2⟩:=probe_empty hr.2 _ _ j d rfl hp
    subst h2
    injection hf with hf
    injection hf with hf _
    have hf:j=slot:=hf
    subst hf
    refine ⟨insert_rs hr.1 fun i hi e=>?_,?_⟩
    ·have hb:SetTable.below t.place j=i:=below_is hr.1 (by omega) (fun k hk=>by rw [<- e];exact hr.1 k i hk hi) (fun k hk hs=>by
      rcases Nat.lt_or_ge i k with z | z
      ·have:=hr.1 i k z hs;omega
      ·rw [show k=i by omega,e];exact Nat.le_refl _)
     unfold SetTable.slot at h1
     dsimp only at h1
     rw [hb,getD_get hi,e] at h1
     simp at h1
    ·show (if SetTable.has t.dummies j then _ else t.dummies) = #[]
     rw [hr.2,show SetTable.has #[] j=false by unfold SetTable.has;simp]
     rfl
   ·cases hf
  ·exact standIn_rs _ _
 ·exact standIn_rs _ _
theorem live_rs {owner:Array (Option Nat)}:∀ n:Nat,(((List.range n).filterMap fun j=>(owner.getD j none).map (j,·)).map (·.1)).Pairwise (· < ·):=fun n=>by
 refine List.pairwise_map.mpr (List.Pairwise.filterMap (R:=fun a b:Nat=>a<b) (S:=fun a b:Nat×Nat=>a.1<b.1) _ (fun a a' haa b hb b' hb'=>?_) List.pairwise_lt_range)
 obtain ⟨x,_,rfl⟩:=Option.map_eq_some_iff.mp hb
 obtain ⟨y,_,rfl⟩:=Option.map_eq_some_iff.mp hb'
 exact haa
theorem relayAll_rs (t:SetTable)(es:Array (Int×Value))(n:Nat)(hr:Rs t):(relayAll t es n).2.1.led=t.led∧Rs (relayAll t es n).2.1:=by
 unfold relayAll
 split
 ·rename_i t' order hl
  dsimp only
  split
  ·unfold SetTable.relaid at hl
   refine ⟨(laid_marks hl).1,?_⟩
   unfold SetTable.laid at hl
   cases ho:SetTable.layClean (SetTable.sizeAbove n-1) (es.map (·.1)) with
   | none=>rw [ho] at hl;cases hl
   | some owner =>
    rw [ho] at hl
    injection hl with hl
    injection hl with hl _
    subst hl
    refine ⟨fun i j hij hj=>?_,rfl⟩
    have hp:=live_rs (owner:=owner) (SetTable.sizeAbove n-1+1)
    have hj':j<(((List.range (SetTable.sizeAbove n-1+1)).filterMap fun j=>(owner.getD j none).map (j,·)).map (·.1)).length:=by simpa using hj
    have:=List.pairwise_iff_getElem.mp hp i j (by omega) hj' hij
    show (List.toArray _).getD i 0<(List.toArray _).getD j 0
    rw [Array.getD_eq_getD_getElem?,Array.getD_eq_getD_getElem?,List.getElem?_toArray,List.getElem?_toArray,List.getElem?_eq_getElem (by omega),List.getElem?_eq_getElem hj']
    exact this
  ·exact ⟨rfl,standIn_rs _ _⟩
 ·exact ⟨rfl,standIn_rs _ _⟩
def Is (w:World)(h:Heap)(a:Addr)(ms:List Int):Prop :=
 ∃ o es ep t,h.get? a=some o∧o.ExactSet∧o.data = .set es ep t∧Els w es.toList ms∧ms.Nodup∧es.size<scanBound∧t.fits es.size=true∧(byT w=true∨t.led=true)∧Rs t
theorem Is.at {w:World}{h h':Heap}{a:Addr}{ms:List Int}(x:Is w h a ms)(e:∀ o,h.get? a=some o->h'.get? a=some o):Is w h' a ms:=let ⟨o,es,ep,t,ho,r⟩:=x;⟨o,es,ep,t,e o ho,r⟩
theorem Is.there {w:World}{h:Heap}{a:Addr}{ms:List Int}(x:Is w h a ms):∃ o,h.get? a=some o:=let ⟨o,_,_,_,ho,_⟩:=x;⟨o,ho⟩
section
variable {prog:Program}{w:World}{A:Around}{E:Value->Shared->Prop}{s:Shared}
theorem Is.store (prog:Program){a:Addr}{o:Obj}{es es':Array (Int×Value)}{ep:Nat}{t t':SetTable}{h:Heap}{ms:List Int}(ho:h.get? a=some o)(hex:o.ExactSet)(hd:o.data = .set es ep t)(hel:Els w es'.toList ms)(hnd:ms.Nodup)(hb:es'.size<scanBound)(hf:t'.fits es'.size=true)
  (hl:byT w=true∨t'.led=true) (hp:Rs t'):(h.update a (Obj.putSet es' t')).get? a=some { o with data:=.set es' (ep+1) t' }∧Is w (h.update a (Obj.putSet es' t')) a ms:=by
 have hg:=(SetOf_store (knd:=PySem.intKind prog w) (S':=fun k=>decide (k∈ms)) ho hex hd hel.of (fun k=>by rw [decide_eq_true_iff];exact hel.has k) hb hf).1
 exact ⟨hg,_,es',ep+1,t',hg,hex,rfl,hel,hnd,hb,hf,hl,hp⟩
theorem add_ok {a : Addr} {ms : List Int} {k : Int} {tk : Tok} {Q : Bool → Shared → Prop} (hS : Is w s.heap a ms) (hroom : ms.length + 1 < scanBound)
    (h : ∀ h' ms', Heap.SameBut a s.heap h' → Is w h' a ms' → (∀ x, x ∈ ms' ↔ x ∈ ms ∨ x = k) → ms'.length ≤ ms.length + 1 → Q (!decide (k ∈ ms)) { s with heap := h' }) :
    wpAny (model prog w) A (setAddHashed a (.int k tk) (hashInt k)) Q E s := by
  obtain ⟨o, es, ep, t, ho, hex, hd, hel, hnd, hb, hf, hl, hp⟩ := hS
  have hn : es.size = ms.length := by rw [← hel.len, Array.length_toList]
  have hkey : (PySem.intKind prog w).is k (.int k tk) = true := intKind_is prog w k tk
  unfold setAddHashed setAddHashedIn
  refine wpAny_holding (wpAny_bind (wpAny_setState_of ho hd hf ?_))
  dsimp only
  rw [byScan_of (knd := PySem.intKind prog w) (x := .int k tk) rfl hb hel.of]
  simp only [↓reduceIte]
  unfold setAddByScan
  refine wpAny_bind (wpAny_bind (wpAny_rule (wpAny_bind (wpAny_setScan_of (knd := PySem.intKind prog w) hkey ho hd hf hel.of ?_))))
  cases hr : List.findIdx? (fun e => (PySem.intKind prog w).is k e.2) es.toList with
  | some j =>
    dsimp only
    obtain ⟨hj, hpj, _⟩ := List.findIdx?_eq_some_iff_getElem.mp hr
    have hm : k ∈ ms := (hel.has (prog := prog) k).mpr ⟨es.toList[j], List.getElem_mem hj, hpj⟩
    refine wpAny_pure (wpAny_pure ?_)
    have z := h s.heap ms (Heap.SameBut.refl a s.heap) ⟨o, es, ep, t, ho, hex, hd, hel, hnd, hb, hf, hl, hp⟩ (fun x => ⟨.inl, fun q => q.elim id fun e => e ▸ hm⟩) (by omega)
    rw [decide_eq_true hm] at z
    exact z
  | none =>
    dsimp only
    have hm : ¬ k ∈ ms := fun z => by
      obtain ⟨e, he, q⟩ := (hel.has (prog := prog) k).mp z
      have := List.findIdx?_eq_none_iff.mp hr e he
      rw [q] at this
      cases this
    have gw : ∀ (b : Bool) {s₁ : Shared} {Q' : Unit → Shared → Prop}, Q' () s₁ → wpAny (model prog w) A (match b with | true => rule "set.scan.the-table-gave-way" | false => pure ()) Q' E s₁ := fun b s₁ Q' hq => by
      cases b
      · exact wpAny_pure hq
      · exact wpAny_rule hq
    have hperm := layNew_perm t es (hashInt k) (.int k tk)
    have hfits := layNew_fits t es (hashInt k) (.int k tk)
    have hled := layNew_led t es (hashInt k) (.int k tk)
    have hrs := layNew_rs t es (hashInt k) (.int k tk) hp
    generalize hL : layNew t es (hashInt k) (.int k tk) = L at hperm hfits hled hrs ⊢
    obtain ⟨es1, t1, wasDummy, gave⟩ := L
    dsimp only at hperm hfits hled hrs ⊢
    rw [Array.toList_push] at hperm
    have hel1 : Els w es1.toList (ms ++ [k]) := by
      refine Els.perm ⟨fun e he => ?_, ?_⟩ hperm
      · rcases List.mem_append.mp he with z | z
        · exact hel.1 e z
        · have e' : e = (hashInt k, .int k tk) := by simpa using z
          rw [e']
          exact ⟨rfl, tk, rfl⟩
      · rw [List.map_append]
        exact hel.2.append_right _
    have hnd1 : (ms ++ [k]).Nodup := List.nodup_append.mpr ⟨hnd, by simp, fun x hx y hy e => hm (by have : y = k := (by simpa using hy); rw [← this, ← e]; exact hx)⟩
    have hsz1 : es1.size = ms.length + 1 := by rw [← Array.length_toList, hel1.len, List.length_append, List.length_singleton]
    have hb1 : es1.size < scanBound := by omega
    have fin : ∀ h', Heap.SameBut a s.heap h' → Is w h' a (ms ++ [k]) → Q true { s with heap := h' } := fun h' sb x => by
      have z := h h' (ms ++ [k]) sb x (fun y => by rw [List.mem_append, List.mem_singleton]) (by rw [List.length_append, List.length_singleton]; omega)
      rw [decide_eq_false hm] at z
      exact z
    have tail : ∀ t2 : SetTable, t2.fits es1.size = true → (byT w = true ∨ t2.led = true) → Rs t2 → wpAny (model prog w) A (do
        storeSet a es1 t2
        if (!wasDummy && t2.tooFull) = true then do
            (match (relayAll t2 es1 (SetTable.grown es1.size)).2.2 with | true => rule "set.scan.the-table-gave-way" | false => pure ())
            storeSet a (relayAll t2 es1 (SetTable.grown es1.size)).1 (relayAll t2 es1 (SetTable.grown es1.size)).2.1
            pure (some true)
          else pure (some true)) (fun r s' => wpAny (model prog w) A (match r with | some added => pure added | none => setAddHashedIn a (.int k tk) (hashInt k) 99999) Q E s') E s := fun t2 hf2 hl2 hp2 => by
      refine wpAny_bind (wpAny_storeSet_of ho hd ?_ (fits_of_scanBound hb1))
      obtain ⟨ho1, hS1⟩ := Is.store prog ho hex hd hel1 hnd1 hb1 hf2 hl2 hp2
      have sb1 := Heap.SameBut.update s.heap a (Obj.putSet es1 t2)
      split
      · have q1 := relayAll_perm t2 es1 (SetTable.grown es1.size)
        have q2 := relayAll_fits t2 es1 (SetTable.grown es1.size)
        have q3 := relayAll_rs t2 es1 (SetTable.grown es1.size) hp2
        generalize relayAll t2 es1 (SetTable.grown es1.size) = Rl at q1 q2 q3 ⊢
        obtain ⟨es2, t3, g2⟩ := Rl
        dsimp only at q1 q2 q3 ⊢
        have hel2 := hel1.perm q1
        have hsz : es2.size = es1.size := by rw [← Array.length_toList, q1.length_eq, Array.length_toList]
        have hb2 : es2.size < scanBound := by omega
        refine wpAny_bind (gw _ (wpAny_bind (wpAny_storeSet_of ho1 rfl ?_ (fits_of_scanBound hb2))))
        obtain ⟨_, hS2⟩ := Is.store prog ho1 hex rfl hel2 hnd1 hb2 q2 (hl2.imp id fun z => q3.1.trans z) q3.2
        exact wpAny_pure (wpAny_pure (fin _ (sb1.trans (Heap.SameBut.update _ a _)) hS2))
      · exact wpAny_pure (wpAny_pure (fin _ sb1 hS1))
    refine wpAny_bind (gw _ ?_)
    have hl1 : byT w = true ∨ t1.led = true := hl.imp id fun z => hled.trans z
    split
    · refine wpAny_bind (wpAny_pure ?_)
      simp only [↓reduceIte]
      exact tail t1 hfits hl1 hrs
    · refine wpAny_bind (wpAny_pure ?_)
      simp only [↓reduceIte]
      exact tail t1 hfits hl1 hrs
end
section
variable {prog:Program}{w:World}{A:Around}{E:Value->Shared->Prop}{s:Shared}
theorem Is.fresh (h:Heap):Is w (h.push (freshO w)) h.objs.size []:=by
 refine ⟨freshO w,#[],0,.fresh 0 0 (!byT w),Heap.get?_push_size _ rfl,⟨rfl,rfl,rfl⟩,rfl,⟨fun e he=>by simp at he,by simp⟩,List.nodup_nil,by decide,rfl,?_,⟨fun i j _ h=>absurd h (by show ¬ j<0;omega),rfl⟩⟩
 cases byT w
 ·exact .inr rfl
 ·exact .inl rfl
theorem Is.ty {a:Addr}{ms:List Int}(x:Is w s.heap a ms):s.TypeIs (.ref a) "set" := by
 obtain ⟨o,_,_,_,ho,hex,_⟩:=x
 exact ⟨o,ho,hex.1⟩
end
theorem ints_els {w:World}:∀ L:List (Int×Value),(∀ e∈L,El w e)->IntsAre (L.map (·.2)) (L.map fun e=>keyV e.2)
 | [],_=>.nil
 | e::L,h=>by
  obtain ⟨_,tk,q⟩:=h e (List.mem_cons_self ..)
  rw [List.map_cons,List.map_cons]
  have r:=ints_els L fun x hx=>h x (List.mem_cons_of_mem _ hx)
  have z:IntsAre (Value.int (keyV e.2) tk::L.map (·.2)) (keyV e.2::L.map fun e=>keyV e.2):=.cons _ _ r
  rw [<- q] at z
  exact z
section
variable {prog:Program}{w:World}{A:Around}{E:Value->Shared->Prop}{s:Shared}
theorem iter_ok {a:Addr}{ms:List Int}{Q:Value->Shared->Prop}(hS:Is w s.heap a ms)
  (h:∀ (h':Heap) (d:Drawn) (I:Addr) (fp:List Addr) (xs:List Value) (ss:List Int) (St:Nat->Heap->Prop),(∀ A':Around,A'.handled=none->Walks prog w A' I fp [I] xs.length (fun i v=>xs[i]?=some v) St)->St 0 h' ->
   (∀ b o,s.heap.get? b=some o->h'.get? b=some o)->s.heap.objs.size<=I->(∀ b∈fp,b=a∨s.heap.objs.size<=b)->IntsAre xs ss->ss.Perm ms->Q (.ref I) { s with heap:=h',drawn:=d }) :
  wpAny (model prog w) A (pyIter (.ref a)) Q E s:=by
 obtain ⟨o,es,ep,t,ho,hex,hd,hel,hnd,hb,hf,hl,hp⟩:=id hS
 have hlt:=Heap.lt_size ho
 have hps:t.place.size=es.size:=by
  simp only [SetTable.fits,Bool.and_eq_true,beq_iff_eq] at hf
  exact hf.1
 refine wpAny_pyIter_slot hS.ty F.slot_set_iter (wpAny_call_entry F.slot_set_iter hS.ty entry_iter ?_ (F.args_set_iter_1 _))
 unfold Builtin.«frozenset.__iter__»
 refine wpAny_bind (m:=Builtin.Frozenset.slot0 "__iter__" ⟨[.ref a],[]⟩) (wpAny_of_eq (a:=a) rfl ?_)
 unfold Builtin.Frozenset.sizeOf
 refine wpAny_bind (wpAny_bind (wpAny_setEntries_of ho hd hf (wpAny_pure ?_)))
 have hlist:∀ L:List (Int×Value),L.Perm es.toList->IntsAre (L.map (·.2)) (L.map fun e=>keyV e.2)∧(L.map fun e=>keyV e.2).Perm ms:=fun L hp=>⟨ints_els L (hel.perm hp).1,(hel.perm hp).2⟩
 have fin:∀ (L:List (Int×Value)) (slots:Nat->Nat),slots 0=0->L.Perm es.toList->(∀ (i:Nat) (s:Shared) (A':Around) (E':Value->Shared->Prop) (Q':Option (Value×Nat)->Shared->Prop),s.heap.get? a=some o->i<=L.length->Q' ((L[i]?).map fun e=>(e.2,slots (i+1))) s->wpAny (model prog w) A' (setNext a (slots i) i ep) Q' E' s) ->
   wpAny (model prog w) A.in1 (setEpoch a >>= fun e=>newFields "set_iterator" [rawInt 0,rawInt 0,.ref a,rawInt (es.size:Int),rawInt (e:Int)] >>= ret) (fun fin s'=>∃ v,fin = .done (.ret v)∧∃ (T:String) (r:Value),s'.TypeIs v T∧typeLookup (.type T) "__next__" = pure (some r)∧Q v s') E s:=fun L slots h0 hL hN=>by
  refine wpAny_bind (wpAny_setEpoch_of ho hd hf ?_)
  have hI:It (s.heap.push { cls:=.type "set_iterator",data:=.fields #[rawInt 0,rawInt 0,.ref a,rawInt (es.size:Int),rawInt (ep:Int)] }) s.heap.objs.size a (rawInt (slots 0:Int)) 0 es.size ep:=⟨_,Heap.get?_push_size _ rfl,rfl,by rw [h0];rfl⟩
  obtain ⟨q1,q2⟩:=hlist L hL
  refine wpAny_bind (wpAny_newObj_type (wpAny_pure ⟨_,rfl, "set_iterator",_,⟨_,Heap.get?_push_size _ rfl,rfl⟩,slot_next.lookup,?_⟩))
  have z:=h (s.heap.push { cls:=.type "set_iterator",data:=.fields #[rawInt 0,rawInt 0,.ref a,rawInt (es.size:Int),rawInt (ep:Int)] }) s.drawn s.heap.objs.size [s.heap.objs.size,a] (L.map (·.2)) _ (fun i h=>h.get? a=some o∧It h s.heap.objs.size a (rawInt (slots i:Int)) i es.size ep) (fun A' hA'=>by
     rw [List.length_map]
     exact walk_int hA' (Nat.ne_of_lt hlt) hd hf hN) ⟨Heap.get?_push_of_some _ ho,hI⟩ (fun b o e=>Heap.get?_push_of_some _ e) (Nat.le_refl _) (fun b hb=>by
     rcases List.mem_cons.mp hb with rfl | hb
     · exact .inr (Nat.le_refl _)
     · exact .inl (List.mem_singleton.mp hb)) q1 q2
  exact z
 have hdrw:∀ (Q':Bool->Shared->Prop),Q' (!byT w&&(!t.plain&&decide (es.size>1))) s->wpAny (model prog w) A.in1 (setDrawn a) Q' E s:=fun Q' q=>by
  unfold setDrawn
  refine wpAny_bind (wpAny_setState_of ho hd hf ?_)
  dsimp only
  exact wpAny_bind (byText_ok (wpAny_pure q))
 refine wpAny_bind (hdrw _ ?_)
 by_cases hby:byT w=true
 ·rw [hby]
  simp only [Bool.not_true,Bool.false_and,Bool.false_eq_true,↓reduceIte]
  refine wpAny_bind (wpAny_pure ?_)
  refine fin (pickOrder (w.params.setOrder a ep) es).toList (fun _=>0) rfl (pick_perm _ _) fun i s' A' E' Q' ho' hi q=>?_
  unfold setNext
  refine wpAny_bind (wpAny_setState_of ho' hd hf ?_)
  dsimp only
  refine wpAny_bind (byText_ok ?_)
  rw [hby,if_pos rfl,bne_self_eq_false,if_neg Bool.false_ne_true]
  unfold setWalk
  refine wpAny_bind (wpAny_bind (wpAny_setState_of ho' hd hf ?_))
  dsimp only
  refine wpAny_bind (byText_ok ?_)
  rw [hby,if_pos rfl]
  refine wpAny_bind (wpAny_askSetting (wpAny_pure (wpAny_pure ?_)))
  rw [Array.getElem?_toList] at q
  exact q
 ·have hbf:byT w=false:=Bool.eq_false_iff.mpr hby
  have hld:t.led=true:=hl.resolve_left hby
  by_cases h1:(!t.plain&&decide (es.size>1))=false
  ·have hnot:(!byT w&&(!t.plain&&decide (es.size>1)))=false:=by rw [h1];simp
   rw [hnot]
   simp only [Bool.false_eq_true,↓reduceIte]
   refine wpAny_bind (wpAny_pure ?_)
   have hN:∀ (slot i:Nat) (s':Shared) (A':Around) (E':Value->Shared->Prop) (Q':Option (Value×Nat)->Shared->Prop),s'.heap.get? a=some o ->
       Q' (match es[SetTable.below t.place slot]?,t.place[SetTable.below t.place slot]? with | some (_,x),some j=>some (x,j+1) | _,_=>none) s'->wpAny (model prog w) A' (setNext a slot i ep) Q' E' s':=fun slot i s' A' E' Q' ho' q=>by
     unfold setNext
     refine wpAny_bind (wpAny_setState_of ho' hd hf ?_)
     dsimp only
     refine wpAny_bind (byText_ok ?_)
     rw [hbf,if_neg Bool.false_ne_true]
     show wpAny _ _ (if (!t.plain&&decide (es.size>1))=true then _ else _) _ _ s'
     rw [h1,if_neg Bool.false_ne_true]
     refine wpAny_bind (m:=if (!t.led && !es.isEmpty)=true then unsupported "set:maker-not-led" else pure ()) ?_
     rw [hld]
     simp only [Bool.not_true,Bool.false_and,Bool.false_eq_true,↓reduceIte]
     exact wpAny_pure (wpAny_pure q)
   refine fin es.toList (fun i=>if i=0 then 0 else t.place.getD (i-1) 0+1) rfl (List.Perm.refl _) fun i s' A' E' Q' ho' hi q=>hN _ i s' A' E' Q' ho' ?_
   rw [Array.length_toList] at hi
   rw [hp.next (by omega)]
   rw [Array.getElem?_toList] at q
   rcases Nat.lt_or_ge i es.size with z | z
   · rw [Array.getElem?_eq_getElem z] at q ⊢
     rw [getD_get (show i<t.place.size by omega)]
     exact q
   · rw [Array.getElem?_eq_none z] at q ⊢
     exact q
  ·have hyes:(!byT w&&(!t.plain&&decide (es.size>1)))=true:=by rw [hbf,(Bool.not_eq_false _).mp h1];rfl
   rw [hyes,if_pos rfl]
   have hr:(List.range es.size).length=es.size:=List.length_range
   refine wpAny_bind (m:=drawOrder es.size (List.range es.size)) ?_
   have dr:=draw_ok (prog:=prog) (w:=w) (A:=A.in1) (E:=E) (List.range es.size) s
   rw [hr] at dr
   refine dr _ fun ps d hpp=>?_
   have hpl:ps.length=es.size:=by rw [hpp.length_eq,hr]
   have hs:sizeLine=16777216:=sizeLine_eq
   have sb:scanBound=4096:=rfl
   refine wpAny_bind (wpAny_newTuple ?_ (by rw [List.length_map];omega))
   generalize hot:({ cls:=.type "tuple",data:=.seq (ps.map fun j:Nat=>rawInt (j:Int)).toArray }:Obj)=ot
   have hg:(s.heap.push ot).get? s.heap.objs.size=some ot:=Heap.get?_push_size _ (by rw [<- hot];rfl)
   have ho2:(s.heap.push ot).get? a=some o:=Heap.get?_push_of_some _ ho
   refine wpAny_bind (wpAny_setEpoch_of (s:={ s with heap:=s.heap.push ot,drawn:=d }) ho2 hd hf ?_)
   refine wpAny_bind (wpAny_newObj_type (wpAny_pure ⟨_,rfl, "set_iterator",_,⟨_,Heap.get?_push_size _ rfl,rfl⟩,slot_next.lookup,?_⟩))
   have hsz:(s.heap.push ot).objs.size=s.heap.objs.size+1:=Heap.size_push _ _
   have hfm:(ps.map fun p=>es.getD p (0,Value.none)).Perm es.toList:=by
     have e1:(List.range es.size).map (fun p=>es.getD p (0,Value.none))=es.toList:=by
       apply List.ext_getElem
       · simp
       · intro i g1 g2
         have g3:i<es.size:=by simpa using g1
         simp [Array.getD_eq_getD_getElem?,g3]
     exact (hpp.map _).trans (by rw [e1])
   obtain ⟨q1,q2⟩:=hlist _ hfm
   rw [List.map_map,List.map_map] at q1
   rw [List.map_map] at q2
   have hps':∀ p∈ps,p<es.size:=fun p hp=>List.mem_range.mp (hpp.mem_iff.mp hp)
   have hgo:∀ (o2:Obj),o2 = { cls:=.type "set_iterator",data:=.fields #[.ref s.heap.objs.size,rawInt 0,.ref a,rawInt (es.size:Int),rawInt (ep:Int)] }->Q (.ref (s.heap.objs.size+1)) { s with heap:=(s.heap.push ot).push o2,drawn:=d }:=fun o2 ho2'=>by
    refine h ((s.heap.push ot).push o2) d (s.heap.objs.size+1) [s.heap.objs.size+1,a,s.heap.objs.size] (ps.map fun p=>(es.getD p (0,Value.none)).2) _ (fun i h=>h.get? a=some o∧h.get? s.heap.objs.size=some ot∧It h (s.heap.objs.size+1) a (.ref s.heap.objs.size) i es.size ep) (fun A' hA'=>by
        rw [List.length_map]
        exact walk_ref (ot:=ot) (nt:=0) hA' (Nat.ne_of_lt (Nat.lt_succ_of_lt hlt)) (Nat.ne_of_lt (Nat.lt_succ_self _)) hd hf (by rw [<- hot]) hps') ⟨Heap.get?_push_of_some _ ho2,Heap.get?_push_of_some _ hg,?_⟩ (fun b o e=>Heap.get?_push_of_some _ (Heap.get?_push_of_some _ e)) (Nat.le_succ _) (fun b hb=>?_) q1 q2
    · rw [<- hsz]
      exact ⟨o2,Heap.get?_push_size _ (by rw [ho2'];rfl),by rw [ho2'],by rw [ho2'];rfl⟩
    · rcases List.mem_cons.mp hb with rfl | hb
      · exact .inr (Nat.le_succ _)
      · rcases List.mem_cons.mp hb with rfl | hb
        · exact .inl rfl
        · exact .inr (Nat.le_of_eq (List.mem_singleton.mp hb).symm)
   have z:=hgo _ rfl
   rw [<- hsz] at z
   exact z
end
section
variable {prog:Program}{w:World}{A:Around}{E:Value->Shared->Prop}{s:Shared}
theorem hint_ok {a:Addr}{ms:List Int}{Q:Bool->Shared->Prop}(hS:Is w s.heap a ms)(h:Q false s):wpAny (model prog w) A (Builtin.List.listLengthHint (.ref a)) Q E s:=by
 unfold Builtin.List.listLengthHint
 refine wpAny_bind (wpAny_specialOf hS.ty F.slot_set_len.lookup ?_)
 generalize hid:("set.__len__" : String)=id0
 wp_delta
 rw [show splitId id0=some ("set", "__len__") from by subst hid;decide +kernel]
 subst hid
 refine wpAny_bind (wpAny_isInstance (T := "set") (b:=true) hS.ty sub_set_self ?_)
 refine wpAny_ite_split (fun hab=>absurd hab (by decide)) (fun _=>?_)
 refine wpAny_ite_split (fun _=>?_) (fun hab=>absurd (by decide +kernel) hab)
 refine wpAny_bind (wpAny_typeOf hS.ty ?_)
 exact wpAny_pure h
theorem extend_ok {a:Addr}{ms:List Int}{R:Result->Shared->Prop}(hh:A.handled=none)(hS:Is w s.heap a ms)(hz:ms.length<=sizeLine)(S:Addr)(res:Value)(h1:S≠a)(hSl:s.heap.get? S=some { cls:=.type "list",data:=.seq #[] })
  (hR:∀ s' acc' c' ss,(∀ b o,b≠S->s.heap.get? b=some o->s'.heap.get? b=some o)->s'.gens=s.gens->s'.os=s.os->s'.heap.get? S=some { cls:=.type "list",dict:=none,data:=.seq acc' c',slots:=#[] }->IntsAre acc'.toList ss->ss.Perm ms->R (.ok (.ret res)) s') :
  wpAny (model prog w) A.in1 (Builtin.List.listExtendWith (.ref S) (.ref a) res)
   (fun fin s'=>match fin with | .done f=>R (.ok f) s' | .again c'=>c'.quiet=true∧codeAny (model prog w) A c' R s') (fun e s'=>R (.error e) s') s:=by
 unfold Builtin.List.listExtendWith
 refine wpAny_bind (wpAny_typeOf hS.ty ?_)
 have g1:Builtin.List.listSameRef (.ref S) (.ref a)=false:=by simp [Builtin.List.listSameRef,h1]
 have g2:(Value.type "set" == Value.type "list")=false:=by decide
 have g3:(Value.type "set" == Value.type "tuple")=false:=by decide
 simp only [g1,g2,g3,Bool.or_false,Bool.false_eq_true,if_false]
 refine wpAny_bind (iter_ok (A:=A.in1) hS fun h2 d I fp xs ss St W st0 kp hIs hfp hss hpm=>?_)
 have hlt:=Heap.lt_size hSl
 have hSI:S≠I:=Nat.ne_of_lt (Nat.lt_of_lt_of_le hlt hIs)
 have hSf:S∉fp:=fun z=>by
  rcases hfp S z with e | e
  ·exact h1 e
  ·exact absurd hlt (Nat.not_lt.mpr e)
 have hS2:Is w h2 a ms:=hS.at fun o e=>kp a o e
 refine wpAny_bind (wpAny_holding (hint_ok (s:={ s with heap:=h2,drawn:=d }) hS2 ?_))
 have WS:=(W A.in1 hh).toS
 have hxl:xs.length=ms.length:=by rw [hss.length,hpm.length_eq]
 have last:∀ (h0:Heap) (c0:Nat),(∀ b o,b≠S->h2.get? b=some o->h0.get? b=some o)->h0.get? S=some { cls:=.type "list",data:=.seq #[] c0 } ->
   wpAny (model prog w) A.in1 (again (.builtin "list.extend.loop" ⟨[.ref S,.ref I,res],[]⟩))
    (fun fin s'=>match fin with | .done f=>R (.ok f) s' | .again c'=>c'.quiet=true∧codeAny (model prog w) A c' R s') (fun e s'=>R (.error e) s') { s with heap:=h0,drawn:=d }:=fun h0 c0 hk0 hS0=>by
  refine wpAny_pure ⟨plainId_quiet F.plain_extend_loop _,codeAny_extend_loopS WS (by omega) S hSf res xs.length 0 _ #[] c0 rfl (Nat.zero_le _) ?_ hS0 (ItemsOf.nil _) fun s' acc' c' hm hS' hacc=>?_⟩
  ·exact (W A.in1 hh).frame 0 h2 h0 st0 fun b hb o e=>hk0 b o (fun z=>hSf (z▸hb)) e
  ·refine hR s' acc' c' ss (fun b o hb e=>?_) hm.gens hm.os hS' (by rw [items_eq hacc];exact hss) hpm
   by_cases hbI:b=I
   ·subst hbI
    exact absurd (Heap.lt_size e) (Nat.not_lt.mpr hIs)
   ·exact hm.heap b o (by simp [hb,hbI]) (hk0 b o hb (kp b o e))
 refine wpAny_ite_split (fun _=>?_) (fun hab=>absurd (by decide +kernel) hab)
 refine wpAny_bind (wpAny_rule ?_)
 have hSl2:h2.get? S=some { cls:=.type "list",data:=.seq #[] }:=kp S _ hSl
 refine wpAny_bind (m:=((do updateSeq S (fun z=>z.push .none);updateSeq S (fun z=>z.pop)):Sem Unit)) (wpAny_bind (wpAny_updateSeq (s:={ s with heap:=h2,drawn:=d }) hSl2 rfl ?_))
 have k1:=Heap.get?_update_self (Obj.mapSeq (fun z=>z.push .none)) hSl2 rfl
 refine wpAny_updateSeq k1 rfl ?_
 have k2:=Heap.get?_update_self (Obj.mapSeq (fun z=>z.pop)) k1 rfl
 exact last _ _ (fun b o hb e=>(Heap.get?_update_other _ _ (Ne.symm hb)).trans ((Heap.get?_update_other _ _ (Ne.symm hb)).trans e)) k2
theorem collect_ok {a:Addr}{ms:List Int}{Q:List Value->Shared->Prop}(hh:A.handled=none)(hS:Is w s.heap a ms)(hz:ms.length<=sizeLine)
  (hQ:∀ s' vs ss,(∀ b o,s.heap.get? b=some o->s'.heap.get? b=some o)->s'.gens=s.gens->s'.os=s.os->IntsAre vs ss->ss.Perm ms->Q vs s'):wpAny (model prog w) A (collect (.ref a)) Q E s:=by
 have hlt:=Heap.lt_size hS.there.choose_spec
 unfold collect
 refine wpAny_bind (wpAny_runValue (codeAny_builtin F.entry_proto_collect ?_))
 rw [Around.under_plainId F.plain_proto_collect]
 refine wpAny_bind (m:=newList []) (wpAny_newObj_type (wpAny_pure ⟨plainId_quiet F.plain_list_iadd _,codeAny_builtin F.entry_list_iadd ?_⟩))
 rw [Around.under_plainId F.plain_list_iadd]
 have hSl:(s.heap.push { cls:=.type "list",data:=.seq #[] }).get? s.heap.objs.size=some { cls:=.type "list",data:=.seq #[] }:=Heap.get?_push_size _ rfl
 have go:∀ R:Result->Shared->Prop,(∀ s' acc' c' ss,(∀ b o,s.heap.get? b=some o->s'.heap.get? b=some o)->s'.gens=s.gens->s'.os=s.os->s'.heap.get? s.heap.objs.size=some { cls:=.type "list",dict:=none,data:=.seq acc' c',slots:=#[] }->IntsAre acc'.toList ss->ss.Perm ms->R (.ok (.ret (.ref s.heap.objs.size))) s') ->
   wpAny (model prog w) A.in1 (Builtin.List.listExtendWith (.ref s.heap.objs.size) (.ref a) (.ref s.heap.objs.size))
    (fun fin s'=>match fin with | .done f=>R (.ok f) s' | .again c'=>c'.quiet=true∧codeAny (model prog w) A c' R s') (fun e s'=>R (.error e) s') { s with heap:=s.heap.push { cls:=.type "list",data:=.seq #[] } }:=fun R hR =>
  extend_ok (A:=A) (s:={ s with heap:=s.heap.push { cls:=.type "list",data:=.seq #[] } }) hh (hS.at fun o e=>Heap.get?_push_of_some _ e) hz s.heap.objs.size (.ref s.heap.objs.size) (Nat.ne_of_gt hlt) hSl
   fun s' acc' c' ss kp g1 g2 e1 e2 e3=>hR s' acc' c' ss (fun b o e=>kp b o (Nat.ne_of_lt (Heap.lt_size e)) (Heap.get?_push_of_some _ e)) g1 g2 e1 e2 e3
 refine go (fun r s'=>match r with
  | .ok (.ret v)=>wpAny (model prog w) A (match v with
   | .ref a=>do
    match (<- load a).data with
    | .seq xs _=>pure xs.toList
    | _=>unsupported "internal:collect"
   | _=>unsupported "internal:collect") Q E s'
  | .ok _=>False
  | .error e=>E e s') fun s' acc' c' ss kp g1 g2 hS' e2 e3=>?_
 refine wpAny_bind (m:=load s.heap.objs.size) (wpAny_load hS' (wpAny_pure ?_))
 exact hQ s' acc'.toList ss kp g1 g2 e2 e3
end
end SN
namespace L2
open PySem PySem.Spec PyProof.Rows
namespace SEN
def Of (w:World)(h:Heap)(D:Addr)(ls:List Int)(i:Nat):Prop:=∃ ms,SN.Is w h D ms∧(∀ x,x∈ms↔x∈ls.take i)∧ms.length<=i
theorem Of.at {w:World}{h h':Heap}{D:Addr}{ls:List Int}{i:Nat}(x:Of w h D ls i)(k:∀ o,h.get? D=some o->h'.get? D=some o):Of w h' D ls i:=let ⟨ms,a,b⟩:=x;⟨ms,a.at k,b⟩
section
variable {prog:Program}{w:World}{A:Around}{R:Result->Shared->Prop}{J:Addr}{fp wr:List Addr}{G:Array GenState->Array GenState->Prop}{n:Nat}{P:Nat->Value->Prop}{St:Nat->Shared->Prop}
theorem loopI (W:WalksS prog w A.in1 J fp wr G n P St){D:Addr}(hD:D∉fp)(ls:List Int)(hv:∀ i v,P i v->∃ t,v=Value.int (ls.getD i 0) t)(hn:n+1<scanBound)(hnl:n<=ls.length) :
  ∀ (k i:Nat) (s:Shared),n-i=k->i<=n->St i s->Of w s.heap D ls i ->
   (∀ s',Moved (D::wr) G s s'->Of w s'.heap D ls n->R (.ok (.ret .none)) s')->codeAny (model prog w) A (.builtin "set.update.loop" ⟨[.ref D,.ref J],[]⟩) R s:=by
 have hDw:D∉wr:=fun z=>hD (W.sub _ z)
 have up:∀ b∈wr,b∈D::wr:=fun b hb=>.tail _ hb
 intro k
 induction k with
 | zero =>
  intro i s hk hi st hs hR
  obtain rfl:i=n:=by omega
  refine codeAny_builtin PyProof.Rows.F.entry_set_update_loop ?_
  rw [Around.under_plainId PyProof.Rows.F.plain_set_update_loop]
  refine wpAny_bind (m:=pyNext (.ref J)) (W.done s _ _ st fun s2 mv=>?_)
  exact (show wpAny _ A.in1 (ret Value.none) _ _ s2 from wpAny_pure (hR s2 (mv.mono up) (hs.at fun o e=>mv.heap D o hDw e)))
 | succ k ih =>
  intro i s hk hi st hs hR
  have hlt:i<n:=by omega
  refine codeAny_builtin PyProof.Rows.F.entry_set_update_loop ?_
  rw [Around.under_plainId PyProof.Rows.F.plain_set_update_loop]
  refine wpAny_bind (m:=pyNext (.ref J)) (W.item i s _ _ hlt st fun v s2 pv st2 mv=>?_)
  obtain ⟨t,rfl⟩:=hv i v pv
  have hs2:=hs.at fun o e=>mv.heap D o hDw e
  refine wpAny_bind (m:=holding [Value.int (ls.getD i 0) t] (setAdd D (.int (ls.getD i 0) t))) (wpAny_holding ?_)
  unfold setAdd
  refine wpAny_holding (wpAny_bind ((PySem.intKind prog w).pyHash (k:=ls.getD i 0) (intKind_is _ _ _ _) ?_))
  obtain ⟨ms,hi1,hi2,hi3⟩:=hs2
  refine SN.add_ok (s:={ s2 with toks:=s2.toks+1 }) hi1 (by omega) fun h3 ms3 sb i3 m3 l3=>?_
  have x4:Of w h3 D ls (i+1):=by
   refine ⟨ms3,i3,fun x=>?_,by omega⟩
   have e:ls.take (i+1)=ls.take i++[ls.getD i 0]:=by
    rw [List.take_add_one,List.getD_eq_getElem?_getD,List.getElem?_eq_getElem (by omega)]
    rfl
   rw [m3,hi2,e,List.mem_append,List.mem_singleton]
  refine wpAny_pure ⟨plainId_quiet PyProof.Rows.F.plain_set_update_loop _,ih (i+1) _ (by omega) hlt (W.frame _ s2 _ _ st2 (Nat.le_succ _) fun b hb o e=>(sb.2 b fun z=>hD (z▸hb)).trans e) x4 fun s5 m5 x5=>?_⟩
  refine hR s5 (Moved.trans W.gtrans ((mv.mono up).then_heap (Nat.le_succ _) fun b o hb e=>(sb.2 b fun z=>hb (z▸.head _)).trans e) m5) x5
variable {E:Value->Shared->Prop}{s:Shared}
theorem call_ofI {l:Addr}{its:Array Value}{ls:List Int}{Q:Value->Shared->Prop}(hh:A.handled=none)(hl:s.heap.IsList l its)(hv:∀ i v,its[i]?=some v->∃ t,v=Value.int (ls.getD i 0) t)(hn:its.size+1<scanBound)(hnl:its.size<=ls.length)
  (h:∀ (h':Heap) (tk:Nat),Of w h' s.heap.objs.size ls its.size->(∀ b o,s.heap.get? b=some o->h'.get? b=some o)->Q (.ref s.heap.objs.size) { s with heap:=h',toks:=tk }) :
  wpAny (model prog w) A (call (.type "set") [.ref l]) Q E s:=by
 obtain ⟨mc,mt,f0⟩:=F.called_set.mro
 have f1:=F.called_set.made;have f2:=F.called_set.sub;have f3:=F.called_set.notType;have f4:=F.called_set.canCreate;have f5:=F.typeCall_set_1 (.ref l)
 refine wpAny_call (codeAny_of_tree (show wpAny _ _ (callAny (.type "set") _) _ _ _ from wpAny_pure ⟨Code.quiet_builtin _ (by decide +kernel),codeAny_builtin F.entry_type_call ?_⟩))
 rw [Around.under_plain (weight_type_call_type "set" [.ref l] []) rfl]
 repeat (any_goals (first | wp_step | assumption))
 refine codeAny_mono (SS.code_new1 (.ref l) (E:=E) (Q₁:=fun ob s1=>ob = .ref s.heap.objs.size∧s1 = { s with heap:=s.heap.push (SS.freshO w) }) ⟨rfl,rfl⟩) fun r s1 hr=>?_
 cases r with
 | error e=>exact hr
 | ok fl =>
  cases fl with
  | ret ob =>
   obtain ⟨rfl,rfl⟩:=hr
   generalize hob:SS.freshO w=ob
   have hD:(s.heap.push ob).get? s.heap.objs.size=some ob:=Heap.get?_push_size _ (by rw [<- hob];rfl)
   have hT:Shared.TypeIs { s with heap:=s.heap.push ob } (.ref s.heap.objs.size) "set" := ⟨_,hD,by rw [<- hob];rfl⟩
   have f6:=F.called_set.init.lookup;have f7:=F.called_set.init.bind (.ref s.heap.objs.size)
   repeat (any_goals (first | wp_step | assumption))
   refine codeAny_mono (codeAny_call_builtin (R:=wants (fun r s2=>r = .none∧∃ h' tk,s2 = { s with heap:=h',toks:=tk }∧Of w h' s.heap.objs.size ls its.size∧∀ b o,s.heap.get? b=some o->h'.get? b=some o) E)
    F.called_set.init.plain F.entry_set_init (check_set_init_1 hT ?_)) fun r2 s2 hr2=>?_
   ·obtain ⟨⟨oc,od,odt,osl⟩,hol,hcl,nl,hdl⟩:=id hl
    simp only at hcl hdl
    subst hcl hdl
    have hol':(s.heap.push ob).get? l=some { cls:=.type "list",dict:=od,data:=.seq its nl,slots:=osl }:=Heap.get?_push_of_some _ hol
    have f8:=F.sub_list_set;have f9:=F.sub_list_frozenset
    have f10:(Value.type "list" == Value.type "dict")=false:=by decide
    have hl1:(s.heap.push ob).IsList l its:=⟨_,hol',rfl,nl,rfl⟩
    subst hob
    unfold Builtin.«set.__init__» noKeywords Builtin.Frozenset.updateFrom
    generalize hPI:pyIter=PI
    wp_walk
    subst hPI
    refine wpAny_pyIter_list hl1 ?_
    refine wpAny_bind (wpAny_runValue ?_)
    have hlt:l<s.heap.objs.size:=Heap.lt_size hol
    have hh3:A.in1.in1.in1.handled=none:=by simp [hh]
    have hsz:(s.heap.push (SS.freshO w)).objs.size=s.heap.objs.size+1:=Heap.size_push _ _
    have hne:l≠(s.heap.push (SS.freshO w)).objs.size:=by rw [hsz];exact Nat.ne_of_lt (Nat.lt_succ_of_lt hlt)
    have hfp:s.heap.objs.size∉[(s.heap.push (SS.freshO w)).objs.size,l]:=by
     rw [hsz]
     intro z
     rcases List.mem_cons.mp z with e | e
     ·exact Nat.ne_of_lt (Nat.lt_succ_self _) e
     ·exact Nat.ne_of_gt hlt (List.mem_singleton.mp e)
    refine loopI ((Walks.list hh3 _ l hne its).toS) (D:=s.heap.objs.size) hfp ls hv hn hnl (its.size-0) 0 _ (by omega) (Nat.zero_le _) ⟨⟨_,Heap.get?_push_size _ rfl,rfl,rfl⟩,hl1.push _⟩ ?_ fun s3 mv x3=>?_
    ·have hg:((s.heap.push (SS.freshO w)).push { cls:=.type "list_iterator",data:=.fields #[.ref l,.int 0 0] }).get? s.heap.objs.size=some (SS.freshO w):=Heap.get?_push_of_some _ hD
     exact ⟨[],(SN.Is.fresh s.heap).at fun o e=>Heap.get?_push_of_some _ e,fun x=>by simp,Nat.zero_le _⟩
    ·obtain ⟨h3,g3,d3,tk3,os3⟩:=s3
     obtain rfl:g3=s.gens:=mv.gens
     obtain rfl:d3=s.drawn:=mv.drawn
     obtain rfl:os3=s.os:=mv.os
     refine wpAny_pure (show wpAny _ _ (ret Value.none) _ _ _ from wpAny_pure ⟨rfl,h3,tk3,rfl,x3,fun c o e=>?_⟩)
     have hc:=Heap.lt_size e
     exact mv.heap c o (show c∉[s.heap.objs.size,(s.heap.push (SS.freshO w)).objs.size] by
      rw [hsz]
      intro z
      rcases List.mem_cons.mp z with e | e
      ·exact Nat.ne_of_lt hc e
      ·exact Nat.ne_of_lt (Nat.lt_succ_of_lt hc) (List.mem_singleton.mp e)) (Heap.get?_push_of_some _ (Heap.get?_push_of_some _ e))
   ·cases r2 with
    | error e=>exact hr2
    | ok fl2 =>
     cases fl2 with
     | ret r =>
      obtain ⟨rfl,h3,tk,rfl,x3,k3⟩:=hr2
      repeat (any_goals (first | wp_step | assumption))
      exact h _ _ x3 k3
     | _=>exact hr2.elim
  | _=>exact hr.elim
end
end SEN
def SetN (w:World)(D:Addr)(ms:List Int):HO:=.ext fun h=>SN.Is w h D ms
theorem isN_nodup {w:World}{h:Heap}{D:Addr}{ms:List Int}(x:SN.Is w h D ms):ms.Nodup:=let ⟨_,_,_,_,_,_,_,_,n,_⟩:=x;n
section
variable {X:Cx}
theorem setN_ok {pins:List (Addr×Obj)}{σ:St}{H:Hp}{s:Shared}{D:Addr}{ms:List Int}(I:Inv X pins σ H s)(h:H D=some (SetN X.w D ms)):SN.Is X.w s.heap D ms:=by
 obtain ⟨x,_⟩:=(show ObjOk X.prog X.w H s.heap D (SetN X.w D ms) from I.hok D _ h)
 exact x
theorem call_setN (hc:X.calm=true):CallR X (.type "set") (fun xs H Q=>∃ (p:Addr) (ns:List Int),xs=[.ref p]∧SqL X.K H p (ns.map V.int)∧ns.length+1<4096∧∀ (D:Addr) (ms:List Int),H D=none->ms.Nodup->ms.length<=ns.length->(∀ x,x∈ms↔x∈ns)->Q (.ref D) (upd H D (SetN X.w D ms))):=by
 intro pins s σ H xs us Q I r h
 obtain ⟨p,ns,rfl,hq,hz,q⟩:=h
 obtain ⟨u,rfl,ru⟩:=vals1 r
 cases ru
 obtain ⟨its,rv,pl,_⟩:=I.list hq
 have hlen:=rv.length
 rw [List.length_map] at hlen
 refine SEN.call_ofI (I.ok.hd hc) pl.isList (ls:=ns) (fun i v e=>?_) (by rw [List.size_toArray];unfold scanBound;omega) (by rw [List.size_toArray];omega) fun h' tk x k=>?_
 ·have e:its[i]?=some v:=by simpa using e
  have hi:i<ns.length:=by have:=(List.getElem?_eq_some_iff.mp e).1;omega
  obtain ⟨u',e1,q1⟩:=rv.get (i:=i) (x:=V.int ns[i]) (by rw [List.getElem?_map,List.getElem?_eq_getElem hi];rfl)
  rw [e] at e1
  obtain rfl:=Option.some.inj e1
  obtain ⟨t,rfl⟩:=q1
  exact ⟨t,by rw [List.getD_eq_getElem?_getD,List.getElem?_eq_getElem hi];rfl⟩
 obtain ⟨ms,i1,i2,i3⟩:=x
 have hf:H s.heap.objs.size=none:=I.hok.fresh (Nat.le_refl _)
 refine ⟨.ref s.heap.objs.size,_,I.laid (t':=tk) k (Nat.le_refl _) (o:=SetN X.w s.heap.objs.size ms) ⟨i1,i1.there,fun h1 h2 x1 kk=>x1.at kk⟩,rfl,q _ ms hf (isN_nodup i1) (by rw [List.size_toArray] at i3;omega) fun x=>?_⟩
 rw [i2,List.size_toArray,<- hlen,List.take_length]
theorem call_sortedN (hc:X.calm=true):CallR X (.builtin "sorted") (fun xs H Q=>∃ (p:Addr) (ns:List Int),xs=[.ref p]∧H p=some (SetN X.w p ns)∧ns.length<64∧∀ (ms:List Int) (D:Addr),H D=none->ms.Perm ns->ms.Pairwise (·<=·)->Q (.ref D) (upd H D (.lst (ms.map V.int)))):=by
 intro pins s σ H xs us Q I r h
 obtain ⟨p,ns,rfl,hq,h64,q⟩:=h
 obtain ⟨u,rfl,ru⟩:=vals1 r
 cases ru
 have hs:sizeLine=16777216:=sizeLine_eq
 have hz:ns.length<=sizeLine:=by omega
 refine Calls.call_function_entry kind_sorted plain_sorted entry_sorted (args_sorted1 _) ?_
 unfold Builtin.«sorted»
 refine wpAny_bind (m:=checkCount "sorted" 1 1 _) (wpAny_pure (wpAny_bind (SN.collect_ok (I.ok.hd hc) (setN_ok I hq) hz fun s1 vs ss kp g1 g2 hS hp=>?_)))
 have hg:AllBare s1.gens:=by rw [g1];exact I.bare
 have I1:Inv X pins σ H s1:=I.call' (ch:=[]) g2 (Un.kept kp) (I.hok.kept kp) hg fun _ z=>nomatch z
 have hvl:vs.length=ns.length:=by rw [hS.length,hp.length_eq]
 refine wpAny_bind (wpAny_newList ?_ (by rw [hvl];exact hz))
 have e2:(s1.heap.push (seqObj "list" vs.toArray 0)).get? s1.heap.objs.size=some (seqObj "list" vs.toArray 0):=Heap.get?_push_size _ rfl
 show wpAny _ _ _ _ _ { s1 with heap:=s1.heap.push (seqObj "list" vs.toArray 0) }
 refine wpAny_bind (wpAny_holding (wpAny_call_entry slot_list_sort ⟨_,e2,rfl⟩ entry_list_sort (list_sort_tree e2 hS (by omega) fun out ns' a1 a2 a3=>⟨_,rfl,?_⟩) (args_list_sort _)))
 obtain ⟨e,he⟩:=sortedHeap_at (out:=out) e2
 have hp':ns'.Perm ns:=a2.trans hp
 refine wpAny_pure ⟨_,rfl,⟨.ref _,_,I1.laid (t':=s1.toks) (fun b o eo=>?_) (Nat.le_refl _) (o:=.lst (ns'.map V.int)) ⟨?_,out.toList,e,vals_ints a1,by simpa using he⟩,rfl,q _ _ (I1.hok.fresh (Nat.le_refl _)) hp' a3⟩⟩
 ·have hlt:=Heap.lt_size eo
  rw [sortedHeap_old (Nat.ne_of_lt hlt) (by rw [size_push'];exact Nat.lt_succ_of_lt hlt)]
  exact Heap.get?_push_of_some _ eo
 ·rw [List.length_map,hp'.length_eq]
  exact hz
end
end L2
namespace K79
open PySem L2
seal L2.PSs L2.PS L2.PE L2.PA L2.PT L2.PW L2.PI L2.PG L2.PGs L2.PO L2.PTy L2.PH L2.OpR L2.CallR L2.IxR L2.SlR L2.UnR L2.PSet
def madeOf (s:List Nat)(m:Nat)(w:List Nat):Bool:=decide (0<w.length)&&(decide (w.length<=m)&&w.all fun c=>decide (c∈s))
def figs:List Nat:=[48,49,50,51,52,53,54,55,56,57]
def lets:List Nat:=[97,98,99,100,101,102]
def isNum (w:List Nat):Bool:=madeOf figs 60 w&&(decide (w=[48])||decide (w.take 1≠[48]))
def isTxt (w:List Nat):Bool:=madeOf lets 200 w
def formOf (w:List Nat):List Nat:=if isNum w=true then [110] else if isTxt w=true then [116] else [45]
def rowForm (r:List (List Nat)):List Nat:=((r.drop 1).map formOf).flatten
def asksD:TabD:=[([114,105,110,103],[[],[110]]),([114,111,119],[[],[110]]),([114,105,110,103,115],[[]]),([114,111,119,115],[[]]),([110,117,109,98,101,114],[[116]]),([108,101,97,100],[[116,116]]),([112,105,101,99,101],[[116,110,110,110]]),([112,108,97,99,101],[[116,110,116]])]
def aheadD:TabD:=[([97,108,108],[[116,111,112]]),([119,111,114,100,115],[[116,111,112],[119,111,114,100,115]]),([98,97,114],[[97,108,108],[119,111,114,100,115],[98,97,114]]),([97,115,107],[[97,108,108],[119,111,114,100,115],[98,97,114],[97,115,107]])]
def isAsk (r:List (List Nat)):Bool:=match tabAt (r.headD []) asksD with
 | some d=>decide (rowForm r∈d)
 | none=>false
def kindOf (r:List (List Nat)):Option (List Nat) :=
 if isAsk r=true then some [97,115,107]
 else if r.headD []=[97,108,108]∧rowForm r=[110,110] then some [97,108,108]
 else if r.headD []=[98,97,114]∧rowForm r=[116] then some [98,97,114]
 else if r.headD []=[119,111,114,100,115]∧rowForm r≠[]∧rowForm r=Wd.rep (rowForm r).length [116] then some [119,111,114,100,115]
 else none
def top (i:Nat):Stmt:=PySem.Challenge.pw_onceround_k79_webs_of_pages_refused.main.body.getD i (.Pass ⟨0,0,0,0⟩)
abbrev s_looked_kinds:Stmt:=top 15
abbrev s_looked_length:Stmt:=top 16
abbrev s_letters:Stmt:=top 17
abbrev s_looked:Stmt:=top 18
abbrev s_word_total:Stmt:=top 19
abbrev s_spelled:Stmt:=top 20
abbrev s_all_words:Stmt:=top 21
abbrev s_looked_web:Stmt:=top 25
abbrev s_Web_init:Stmt:=inClass (top 26) 0
abbrev s_looked_size:Stmt:=top 30
abbrev s_BadText_init:Stmt:=inClass (top 10) 0
abbrev s_is_made_of:Stmt:=top 37
abbrev s_is_number:Stmt:=top 38
abbrev s_is_text:Stmt:=top 39
abbrev s_form_of:Stmt:=top 40
abbrev s_kind_of:Stmt:=top 41
abbrev s_looked_rows:Stmt:=top 42
abbrev s_told_words:Stmt:=top 43
abbrev s_read_page:Stmt:=top 44
abbrev s__law_stir:Stmt:=top 46
abbrev s__law_count:Stmt:=top 47
abbrev s__law_all:Stmt:=top 48
abbrev s__law_listed:Stmt:=top 49
abbrev s__law_laid:Stmt:=top 50
abbrev s__law_is_web:Stmt:=top 51
abbrev s__law_told:Stmt:=top 52
abbrev s__law_heard:Stmt:=top 53
abbrev s__law_fine:Stmt:=top 54
abbrev s_law:Stmt:=top 55
theorem sc_looked_kinds:FnScope ["kinds"] ["kinds"] (defScope s_looked_kinds):=⟨rfl,rfl,rfl,by decide +kernel,rfl,by decide +kernel,by decide +kernel⟩
theorem sc_looked_length:FnScope ["length", "kinds"] ["length", "kinds"] (defScope s_looked_length):=⟨rfl,rfl,rfl,by decide +kernel,rfl,by decide +kernel,by decide +kernel⟩
theorem sc_letters:FnScope ["kinds"] ["kinds"] (defScope s_letters):=⟨rfl,rfl,rfl,by decide +kernel,rfl,by decide +kernel,by decide +kernel⟩
theorem sc_looked:FnScope ["word", "kinds", "known", "sign"] ["word", "kinds"] (defScope s_looked):=⟨rfl,rfl,rfl,by decide +kernel,rfl,by decide +kernel,by decide +kernel⟩
theorem sc_word_total:FnScope ["length", "kinds", "total", "step"] ["length", "kinds"] (defScope s_word_total):=⟨rfl,rfl,rfl,by decide +kernel,rfl,by decide +kernel,by decide +kernel⟩
theorem sc_spelled:FnScope ["number", "length", "kinds", "backward", "rest", "step"] ["number", "length", "kinds"] (defScope s_spelled):=⟨rfl,rfl,rfl,by decide +kernel,rfl,by decide +kernel,by decide +kernel⟩
theorem sc_all_words:FnScope ["length", "kinds", "total"] ["length", "kinds"] (defScope s_all_words):=⟨rfl,rfl,rfl,by decide +kernel,rfl,by decide +kernel,by decide +kernel⟩
def csc_all_words_0:Scope:={ kind:=PySem.ScopeKind.function,names:=[ (PySem.Str.ofString ".0",PySem.NameKind.local),(PySem.Str.ofString "number",PySem.NameKind.local),(PySem.Str.ofString "spelled",PySem.NameKind.globalImplicit),(PySem.Str.ofString "kinds",PySem.NameKind.free),(PySem.Str.ofString "length",PySem.NameKind.free)],isGenerator:=false,isCoroutine:=false,more:=[]:PySem.Scope }
theorem cs_all_words_0:CompSc ["length", "kinds", "total"] ["number", "length", "kinds", "total"] (defScope s_all_words) csc_all_words_0 "number" := ⟨rfl,by decide +kernel,by decide +kernel,rfl,by decide +kernel,rfl,rfl,by decide +kernel,rfl,by decide +kernel,by decide +kernel⟩
theorem sc_looked_web:FnScope ["words", "word"] ["words"] (defScope s_looked_web):=⟨rfl,rfl,rfl,by decide +kernel,rfl,by decide +kernel,by decide +kernel⟩
theorem sc_Web_init:FnScope ["self", "words"] ["self", "words"] (defScope s_Web_init):=⟨rfl,rfl,rfl,by decide +kernel,rfl,by decide +kernel,by decide +kernel⟩
theorem sc_looked_size:FnScope ["length", "kinds"] ["length", "kinds"] (defScope s_looked_size):=⟨rfl,rfl,rfl,by decide +kernel,rfl,by decide +kernel,by decide +kernel⟩
theorem sc_BadText_init:FnScope ["self", "words", "at"] ["self", "words", "at"] (defScope s_BadText_init):=⟨rfl,rfl,rfl,by decide +kernel,rfl,by decide +kernel,by decide +kernel⟩
theorem sc_is_made_of:FnScope ["word", "signs", "most"] ["word", "signs", "most"] (defScope s_is_made_of):=⟨rfl,rfl,rfl,by decide +kernel,rfl,by decide +kernel,by decide +kernel⟩
def csc_is_made_of_0:Scope:={ kind:=PySem.ScopeKind.function,names:=[ (PySem.Str.ofString ".0",PySem.NameKind.local),(PySem.Str.ofString "sign",PySem.NameKind.local),(PySem.Str.ofString "signs",PySem.NameKind.free)],isGenerator:=false,isCoroutine:=false,more:=[]:PySem.Scope }
theorem cs_is_made_of_0:CompSc ["word", "signs", "most"] ["sign", "word", "signs", "most"] (defScope s_is_made_of) csc_is_made_of_0 "sign" := ⟨rfl,by decide +kernel,by decide +kernel,rfl,by decide +kernel,rfl,rfl,by decide +kernel,rfl,by decide +kernel,by decide +kernel⟩
theorem sc_is_number:FnScope ["word"] ["word"] (defScope s_is_number):=⟨rfl,rfl,rfl,by decide +kernel,rfl,by decide +kernel,by decide +kernel⟩
theorem sc_is_text:FnScope ["word"] ["word"] (defScope s_is_text):=⟨rfl,rfl,rfl,by decide +kernel,rfl,by decide +kernel,by decide +kernel⟩
theorem sc_form_of:FnScope ["word"] ["word"] (defScope s_form_of):=⟨rfl,rfl,rfl,by decide +kernel,rfl,by decide +kernel,by decide +kernel⟩
theorem sc_kind_of:FnScope ["row", "form"] ["row"] (defScope s_kind_of):=⟨rfl,rfl,rfl,by decide +kernel,rfl,by decide +kernel,by decide +kernel⟩
def csc_kind_of_0:Scope:={ kind:=PySem.ScopeKind.function,names:=[ (PySem.Str.ofString ".0",PySem.NameKind.local),(PySem.Str.ofString "word",PySem.NameKind.local),(PySem.Str.ofString "form_of",PySem.NameKind.globalImplicit)],isGenerator:=false,isCoroutine:=false,more:=[]:PySem.Scope }
theorem cs_kind_of_0:CompSc ["row", "form"] ["word", "row", "form"] (defScope s_kind_of) csc_kind_of_0 "word" := ⟨rfl,by decide +kernel,by decide +kernel,rfl,by decide +kernel,rfl,rfl,by decide +kernel,rfl,by decide +kernel,by decide +kernel⟩
theorem sc_looked_rows:FnScope ["rows", "ahead", "number", "row", "kind"] ["rows"] (defScope s_looked_rows):=⟨rfl,rfl,rfl,by decide +kernel,rfl,by decide +kernel,by decide +kernel⟩
theorem sc_told_words:FnScope ["rows", "length", "kinds", "found", "row"] ["rows"] (defScope s_told_words):=⟨rfl,rfl,rfl,by decide +kernel,rfl,by decide +kernel,by decide +kernel⟩
theorem sc_read_page:FnScope ["text", "rows", "bars", "kept"] ["text"] (defScope s_read_page):=⟨rfl,rfl,rfl,by decide +kernel,rfl,by decide +kernel,by decide +kernel⟩
def csc_read_page_0:Scope:={ kind:=PySem.ScopeKind.function,names:=[(PySem.Str.ofString ".0",PySem.NameKind.local),(PySem.Str.ofString "line",PySem.NameKind.local)],isGenerator:=false,isCoroutine:=false,more:=[]:PySem.Scope }
theorem cs_read_page_0:CompSc ["text", "rows", "bars", "kept"] ["line", "text", "rows", "bars", "kept"] (defScope s_read_page) csc_read_page_0 "line" := ⟨rfl,by decide +kernel,by decide +kernel,rfl,by decide +kernel,rfl,rfl,by decide +kernel,rfl,by decide +kernel,by decide +kernel⟩
def csc_read_page_1:Scope:={ kind:=PySem.ScopeKind.function,names:=[(PySem.Str.ofString ".0",PySem.NameKind.local),(PySem.Str.ofString "row",PySem.NameKind.local)],isGenerator:=false,isCoroutine:=false,more:=[]:PySem.Scope }
theorem cs_read_page_1:CompSc ["text", "rows", "bars", "kept"] ["row", "text", "rows", "bars", "kept"] (defScope s_read_page) csc_read_page_1 "row" := ⟨rfl,by decide +kernel,by decide +kernel,rfl,by decide +kernel,rfl,rfl,by decide +kernel,rfl,by decide +kernel,by decide +kernel⟩
def csc_read_page_2:Scope:={ kind:=PySem.ScopeKind.function,names:=[ (PySem.Str.ofString ".0",PySem.NameKind.local),(PySem.Str.ofString "word",PySem.NameKind.cell),(PySem.Str.ofString "any",PySem.NameKind.globalImplicit),(PySem.Str.ofString "bars",PySem.NameKind.free)],isGenerator:=false,isCoroutine:=false,more:=[]:PySem.Scope }
theorem cs_read_page_2:CompScC ["text", "rows", "bars", "kept"] ["word", "text", "rows", "bars", "kept"] (defScope s_read_page) csc_read_page_2 "word" := ⟨rfl,by decide +kernel,by decide +kernel,rfl,by decide +kernel,rfl,rfl,by decide +kernel,rfl,by decide +kernel,by decide +kernel⟩
def csc_read_page_3:Scope:={ kind:=PySem.ScopeKind.function,names:=[ (PySem.Str.ofString ".0",PySem.NameKind.local),(PySem.Str.ofString "bar",PySem.NameKind.local),(PySem.Str.ofString "word",PySem.NameKind.free)],isGenerator:=false,isCoroutine:=false,more:=[]:PySem.Scope }
theorem cs_read_page_3 {env:Env}:CompSc ["word", "text", "rows", "bars", "kept"] ["bar", "word", "text", "rows", "bars", "kept"] (relabel csc_read_page_2 env) csc_read_page_3 "bar" := ⟨rfl,by decide +kernel,by decide +kernel,rfl,relabel_ok (by decide +kernel) env,rfl,rfl,by decide +kernel,rfl,by decide +kernel,by decide +kernel⟩
def csc_read_page_4:Scope:={ kind:=PySem.ScopeKind.function,names:=[ (PySem.Str.ofString ".0",PySem.NameKind.local),(PySem.Str.ofString "row",PySem.NameKind.local),(PySem.Str.ofString "ASKS",PySem.NameKind.globalImplicit),(PySem.Str.ofString "tuple",PySem.NameKind.globalImplicit)],isGenerator:=false,isCoroutine:=false,more:=[]:PySem.Scope }
theorem cs_read_page_4:CompSc ["text", "rows", "bars", "kept"] ["row", "text", "rows", "bars", "kept"] (defScope s_read_page) csc_read_page_4 "row" := ⟨rfl,by decide +kernel,by decide +kernel,rfl,by decide +kernel,rfl,rfl,by decide +kernel,rfl,by decide +kernel,by decide +kernel⟩
theorem sc__law_stir:FnScope ["cell", "k", "m"] ["cell", "k"] (defScope s__law_stir):=⟨rfl,rfl,rfl,by decide +kernel,rfl,by decide +kernel,by decide +kernel⟩
theorem sc__law_count:FnScope ["length", "kinds", "made", "k"] ["length", "kinds"] (defScope s__law_count):=⟨rfl,rfl,rfl,by decide +kernel,rfl,by decide +kernel,by decide +kernel⟩
theorem sc__law_all:FnScope ["n", "far", "length", "kinds", "due", "rows", "left", "many"] ["n"] (defScope s__law_all):=⟨rfl,rfl,rfl,by decide +kernel,rfl,by decide +kernel,by decide +kernel⟩
theorem sc__law_listed:FnScope ["many", "words", "k"] ["many"] (defScope s__law_listed):=⟨rfl,rfl,rfl,by decide +kernel,rfl,by decide +kernel,by decide +kernel⟩
theorem sc__law_laid:FnScope ["words", "n", "cut", "made"] ["words", "n"] (defScope s__law_laid):=⟨rfl,rfl,rfl,by decide +kernel,rfl,by decide +kernel,by decide +kernel⟩
theorem sc__law_is_web:FnScope ["words", "sizes"] ["words"] (defScope s__law_is_web):=⟨rfl,rfl,rfl,by decide +kernel,rfl,by decide +kernel,by decide +kernel⟩
def csc__law_is_web_0:Scope:={ kind:=PySem.ScopeKind.function,names:=[ (PySem.Str.ofString ".0",PySem.NameKind.local),(PySem.Str.ofString "word",PySem.NameKind.local),(PySem.Str.ofString "len",PySem.NameKind.globalImplicit)],isGenerator:=false,isCoroutine:=false,more:=[]:PySem.Scope }
theorem cs__law_is_web_0:CompSc ["words", "sizes"] ["word", "words", "sizes"] (defScope s__law_is_web) csc__law_is_web_0 "word" := ⟨rfl,by decide +kernel,by decide +kernel,rfl,by decide +kernel,rfl,rfl,by decide +kernel,rfl,by decide +kernel,by decide +kernel⟩
theorem sc__law_told:FnScope ["n", "words", "way", "due", "at", "rows", "left_words", "left"] ["n"] (defScope s__law_told):=⟨rfl,rfl,rfl,by decide +kernel,rfl,by decide +kernel,by decide +kernel⟩
def csc__law_told_0:Scope:={ kind:=PySem.ScopeKind.function,names:=[(PySem.Str.ofString ".0",PySem.NameKind.local),(PySem.Str.ofString "word",PySem.NameKind.local)],isGenerator:=false,isCoroutine:=false,more:=[]:PySem.Scope }
theorem cs__law_told_0:CompSc ["n", "words", "way", "due", "at", "rows", "left_words", "left"] ["word", "n", "words", "way", "due", "at", "rows", "left_words", "left"] (defScope s__law_told) csc__law_told_0 "word" := ⟨rfl,by decide +kernel,by decide +kernel,rfl,by decide +kernel,rfl,rfl,by decide +kernel,rfl,by decide +kernel,by decide +kernel⟩
def csc__law_told_1:Scope:={ kind:=PySem.ScopeKind.function,names:=[(PySem.Str.ofString ".0",PySem.NameKind.local),(PySem.Str.ofString "word",PySem.NameKind.local)],isGenerator:=false,isCoroutine:=false,more:=[]:PySem.Scope }
theorem cs__law_told_1:CompSc ["n", "words", "way", "due", "at", "rows", "left_words", "left"] ["word", "n", "words", "way", "due", "at", "rows", "left_words", "left"] (defScope s__law_told) csc__law_told_1 "word" := ⟨rfl,by decide +kernel,by decide +kernel,rfl,by decide +kernel,rfl,rfl,by decide +kernel,rfl,by decide +kernel,by decide +kernel⟩
def csc__law_told_2:Scope:={ kind:=PySem.ScopeKind.function,names:=[(PySem.Str.ofString ".0",PySem.NameKind.local),(PySem.Str.ofString "word",PySem.NameKind.local)],isGenerator:=false,isCoroutine:=false,more:=[]:PySem.Scope }
theorem cs__law_told_2:CompSc ["n", "words", "way", "due", "at", "rows", "left_words", "left"] ["word", "n", "words", "way", "due", "at", "rows", "left_words", "left"] (defScope s__law_told) csc__law_told_2 "word" := ⟨rfl,by decide +kernel,by decide +kernel,rfl,by decide +kernel,rfl,rfl,by decide +kernel,rfl,by decide +kernel,by decide +kernel⟩
theorem sc__law_heard:FnScope ["text", "told", "e", "marks"] ["text"] (defScope s__law_heard):=⟨rfl,rfl,rfl,by decide +kernel,rfl,by decide +kernel,by decide +kernel⟩
def csc__law_heard_0:Scope:={ kind:=PySem.ScopeKind.function,names:=[(PySem.Str.ofString ".0",PySem.NameKind.local),(PySem.Str.ofString "mark",PySem.NameKind.local)],isGenerator:=false,isCoroutine:=false,more:=[]:PySem.Scope }
theorem cs__law_heard_0:CompSc ["text", "told", "e", "marks"] ["mark", "text", "told", "e", "marks"] (defScope s__law_heard) csc__law_heard_0 "mark" := ⟨rfl,by decide +kernel,by decide +kernel,rfl,by decide +kernel,rfl,rfl,by decide +kernel,rfl,by decide +kernel,by decide +kernel⟩
theorem sc__law_fine:FnScope ["cell", "n", "rows", "due", "many"] ["cell"] (defScope s__law_fine):=⟨rfl,rfl,rfl,by decide +kernel,rfl,by decide +kernel,by decide +kernel⟩
theorem sc_law:FnScope ["script", "cell"] ["script"] (defScope s_law):=⟨rfl,rfl,rfl,by decide +kernel,rfl,by decide +kernel,by decide +kernel⟩
set_option genInjectivity false in
structure Adr where
 BadKinds:Addr
 BadWord:Addr
 TooMany:Addr
 NotOne:Addr
 NoSuch:Addr
 NoRing:Addr
 BadRule:Addr
 BadDeed:Addr
 BadText:Addr
 OnceError:Addr
 Web:Addr
 ASKS:Addr
 AHEAD:Addr
 u_LETTERS:Value
 u_LONGEST:Value
 u_MOST_WORDS:Value
 u_MOST_OF_A_WEB:Value
 u_LONGEST_OF_A_WEB:Value
 u_MOST_OF_A_RULE:Value
 u_LONGEST_OF_A_RULE:Value
 u_FIGURES:Value
 u_MOST_FIGURES:Value
 u_MOST_LETTERS:Value
set_option genInjectivity false in
structure Txt (K:PySem.W.Frag)(mg:Str->Option Value)(ad:Adr):Prop where
 b_all:mg "all" = none
 b_any:mg "any" = none
 b_enumerate:mg "enumerate" = none
 b_int:mg "int" = none
 b_isinstance:mg "isinstance" = none
 b_len:mg "len" = none
 b_range:mg "range" = none
 b_reversed:mg "reversed" = none
 b_set:mg "set" = none
 b_sorted:mg "sorted" = none
 b_str:mg "str" = none
 b_sum:mg "sum" = none
 b_tuple:mg "tuple" = none
 m_BadKinds:mg "BadKinds" = some (.ref ad.BadKinds)
 m_BadWord:mg "BadWord" = some (.ref ad.BadWord)
 m_TooMany:mg "TooMany" = some (.ref ad.TooMany)
 m_NotOne:mg "NotOne" = some (.ref ad.NotOne)
 m_NoSuch:mg "NoSuch" = some (.ref ad.NoSuch)
 m_NoRing:mg "NoRing" = some (.ref ad.NoRing)
 m_BadRule:mg "BadRule" = some (.ref ad.BadRule)
 m_BadDeed:mg "BadDeed" = some (.ref ad.BadDeed)
 m_BadText:mg "BadText" = some (.ref ad.BadText)
 m_OnceError:mg "OnceError" = some (.ref ad.OnceError)
 m_Web:mg "Web" = some (.ref ad.Web)
 m_ASKS:mg "ASKS" = some (.ref ad.ASKS)
 m_AHEAD:mg "AHEAD" = some (.ref ad.AHEAD)
 x_BadKinds:Exc K mg "BadKinds" ad.BadKinds
 x_BadWord:Exc K mg "BadWord" ad.BadWord
 x_TooMany:Exc K mg "TooMany" ad.TooMany
 n_BadText:Knd K ad.BadText
 n_BadKinds:Knd K ad.BadKinds
 n_BadWord:Knd K ad.BadWord
 n_TooMany:Knd K ad.TooMany
 g_LETTERS:mg "LETTERS" = some ad.u_LETTERS
 r_LETTERS:RelV (T [97,98,99,100,101,102]) ad.u_LETTERS
 g_LONGEST:mg "LONGEST" = some ad.u_LONGEST
 r_LONGEST:RelV (.int 24) ad.u_LONGEST
 g_MOST_WORDS:mg "MOST_WORDS" = some ad.u_MOST_WORDS
 r_MOST_WORDS:RelV (.int 4096) ad.u_MOST_WORDS
 g_MOST_OF_A_WEB:mg "MOST_OF_A_WEB" = some ad.u_MOST_OF_A_WEB
 r_MOST_OF_A_WEB:RelV (.int 64) ad.u_MOST_OF_A_WEB
 g_LONGEST_OF_A_WEB:mg "LONGEST_OF_A_WEB" = some ad.u_LONGEST_OF_A_WEB
 r_LONGEST_OF_A_WEB:RelV (.int 8) ad.u_LONGEST_OF_A_WEB
 g_MOST_OF_A_RULE:mg "MOST_OF_A_RULE" = some ad.u_MOST_OF_A_RULE
 r_MOST_OF_A_RULE:RelV (.int 64) ad.u_MOST_OF_A_RULE
 g_LONGEST_OF_A_RULE:mg "LONGEST_OF_A_RULE" = some ad.u_LONGEST_OF_A_RULE
 r_LONGEST_OF_A_RULE:RelV (.int 8) ad.u_LONGEST_OF_A_RULE
 g_FIGURES:mg "FIGURES" = some ad.u_FIGURES
 r_FIGURES:RelV (T [48,49,50,51,52,53,54,55,56,57]) ad.u_FIGURES
 g_MOST_FIGURES:mg "MOST_FIGURES" = some ad.u_MOST_FIGURES
 r_MOST_FIGURES:RelV (.int 60) ad.u_MOST_FIGURES
 g_MOST_LETTERS:mg "MOST_LETTERS" = some ad.u_MOST_LETTERS
 r_MOST_LETTERS:RelV (.int 200) ad.u_MOST_LETTERS
 k_asks:tabIs K ad.ASKS asksD=true
 k_ahead:tabIs K ad.AHEAD aheadD=true
 o_T:PySem.W.exmOne K (.ref ad.BadText) (.ref ad.OnceError)=some true
 a_T:PySem.W.kitAny K (.ref ad.BadText) [.ref ad.NotOne,.ref ad.NoSuch,.ref ad.NoRing,.ref ad.BadRule,.ref ad.BadDeed]=some false
 c_TT:PySem.W.kitOne K (.ref ad.BadText) (.ref ad.BadText)=some true
 c_TK:PySem.W.kitOne K (.ref ad.BadText) (.ref ad.BadKinds)=some false
 c_TW:PySem.W.kitOne K (.ref ad.BadText) (.ref ad.BadWord)=some false
 c_TM:PySem.W.kitOne K (.ref ad.BadText) (.ref ad.TooMany)=some false
 o_K:PySem.W.exmOne K (.ref ad.BadKinds) (.ref ad.OnceError)=some true
 a_K:PySem.W.kitAny K (.ref ad.BadKinds) [.ref ad.NotOne,.ref ad.NoSuch,.ref ad.NoRing,.ref ad.BadRule,.ref ad.BadDeed]=some false
 c_KT:PySem.W.kitOne K (.ref ad.BadKinds) (.ref ad.BadText)=some false
 c_KK:PySem.W.kitOne K (.ref ad.BadKinds) (.ref ad.BadKinds)=some true
 c_KW:PySem.W.kitOne K (.ref ad.BadKinds) (.ref ad.BadWord)=some false
 c_KM:PySem.W.kitOne K (.ref ad.BadKinds) (.ref ad.TooMany)=some false
 o_W:PySem.W.exmOne K (.ref ad.BadWord) (.ref ad.OnceError)=some true
 a_W:PySem.W.kitAny K (.ref ad.BadWord) [.ref ad.NotOne,.ref ad.NoSuch,.ref ad.NoRing,.ref ad.BadRule,.ref ad.BadDeed]=some false
 c_WT:PySem.W.kitOne K (.ref ad.BadWord) (.ref ad.BadText)=some false
 c_WK:PySem.W.kitOne K (.ref ad.BadWord) (.ref ad.BadKinds)=some false
 c_WW:PySem.W.kitOne K (.ref ad.BadWord) (.ref ad.BadWord)=some true
 c_WM:PySem.W.kitOne K (.ref ad.BadWord) (.ref ad.TooMany)=some false
 o_M:PySem.W.exmOne K (.ref ad.TooMany) (.ref ad.OnceError)=some true
 a_M:PySem.W.kitAny K (.ref ad.TooMany) [.ref ad.NotOne,.ref ad.NoSuch,.ref ad.NoRing,.ref ad.BadRule,.ref ad.BadDeed]=some false
 c_MT:PySem.W.kitOne K (.ref ad.TooMany) (.ref ad.BadText)=some false
 c_MK:PySem.W.kitOne K (.ref ad.TooMany) (.ref ad.BadKinds)=some false
 c_MW:PySem.W.kitOne K (.ref ad.TooMany) (.ref ad.BadWord)=some false
 c_MM:PySem.W.kitOne K (.ref ad.TooMany) (.ref ad.TooMany)=some true
 cl_Web:Cls K ad.Web
 na_Web_words:NoAttr K ad.Web "words"
 na_Web_length:NoAttr K ad.Web "length"
 xi_BadText:∃ f,ExcI K ad.BadText f
 hd_BadText:PySem.W.hasDictIn K ad.BadText=true
 na_BadText_at:NoAttr K ad.BadText "at"
 bi_OnceError:BaseI K mg "OnceError" ad.OnceError
theorem cxK2 {CX:CXT}{P:Program}{w:World}{K:PySem.W.Frag}{mg:Str->Option Value}{base:Heap}{N:List Str}{q:Str}{sc:Scope}{f:Addr}{cdv:Value}{A:Around}{outer:List Env}{s:Shared}{H:Hp}{E:XK}:(cxOf CX P w K mg base N q sc f cdv A outer s H E).nox.K=K:=rfl
section
variable {P:Program}{w:World}{K:PySem.W.Frag}{mg:Str->Option Value}{base:Heap}{ad:Adr}
theorem abc6 {m:Nat}(h:m<6):([97,98,99,100,101,102]:List Nat)[m]?=some (97+m):=by
 have key:∀ m:Nat,m<6->([97,98,99,100,101,102]:List Nat)[m]?=some (97+m):=by decide
 exact key m h
theorem abc_mem {k c:Nat}(hk:k<=6):c∈([97,98,99,100,101,102]:List Nat).take k↔97<=c∧c<97+k:=by
 have key:∀ k:Nat,k<7->([97,98,99,100,101,102]:List Nat).take k=(List.range k).map (97 + ·):=by decide
 rw [key k (Nat.lt_succ_of_le hk),List.mem_map]
 exact ⟨fun ⟨i,h,e⟩=>e▸⟨Nat.le_add_right _ _,Nat.add_lt_add_left (List.mem_range.mp h) _⟩,fun ⟨h1,h2⟩=>⟨c-97,List.mem_range.mpr (Nat.sub_lt_left_of_lt_add h1 h2),Nat.add_sub_cancel' h1⟩⟩
theorem ones_rev (g:Nat->Nat):∀ l:List Nat,(l.map fun j=>[g j]).flatten=l.map g
 | []=>rfl
 | x::l=>by rw [List.map_cons,List.flatten_cons,ones_rev g l,List.map_cons];rfl
def spKindsX (ad:Adr):Sp:=fun vs H Q E=>∃ k:Int,vs=[.int k]∧((1<=k∧k<=6)->Q .non H)∧(¬ (1<=k∧k<=6)->E (.ref ad.BadKinds) none H)
theorem ok_looked_kinds {f:Addr}{fd:FuncData}(F:Fun K "looked_kinds" "looked_kinds" s_looked_kinds f fd)(tt:Txt K mg ad):FnOk P w K mg base (CX2 P w) 1 f fd ["kinds"] (spKindsX ad):=by
 refine F.okX2 sc_looked_kinds (fun vs H Q E h=>?_) (fun cdv A outer s H vs Q E hr h=>?_)
 ·obtain ⟨k,rfl,_⟩:=h
  rfl
 ·obtain ⟨k,rfl,q,x⟩:=h
  have hs:sizeLine=16777216:=sizeLine_eq
  refine ⟨_,(pss_one (ps_if (PW.pt (pw_or (pt_cmpR op_lt (pv 0) pe_int (nomark _)) (pw_or1 (pt_cmpR op_gt (pv 0) (pe_callB call_len_T (by rfl) tt.b_len PySem.boot_len (pa_cons (pe_glob (by rfl) tt.g_LETTERS tt.r_LETTERS) pa_nil)) (nomark _))))) (pss_one (ps_raise (E:=fun cls H'=>E cls none H') tt.x_BadKinds rfl (fun _ _ _ _ _ _ _ I hx q=>raiseX2 I hx q) (pa_cons pe_str pa_nil))) pss_nil)),?_⟩
  (try rw [cxK2]);(try rw [cxK1])
  refine ⟨_,rfl,_,_,rfl,rfl,_,rfl,?_⟩
  refine ite2 (fun h0=>iteT ?_) (fun h0=>?_)
  ·have h1:k<1:=of_decide_eq_true h0
   exact ⟨(by show 1<=sizeLine;omega),x fun z=>by omega⟩
  ·have h1:¬ k<1:=fun z=>h0 (decide_eq_true z)
   refine ⟨_,rfl,_,rfl,(by show 6<=sizeLine;omega),_,_,rfl,rfl,_,rfl,?_⟩
   refine ite2 (fun h2=>?_) (fun h2=>?_)
   ·have h3:(6:Int)<k:=of_decide_eq_true h2
    exact ⟨(by show 1<=sizeLine;omega),x fun z=>by omega⟩
   ·have h3:¬ (6:Int)<k:=fun z=>h2 (decide_eq_true z)
    exact q ⟨by omega,by omega⟩
def spLenX (ad:Adr):Sp:=fun vs H Q E=>∃ n k:Int,vs=[.int n,.int k]∧((1<=k∧k<=6)->(1<=n∧n<=24)->Q .non H)∧(¬ (1<=k∧k<=6)->E (.ref ad.BadKinds) none H)∧((1<=k∧k<=6)->¬ (1<=n∧n<=24)->E (.ref ad.BadWord) none H)
theorem ok_looked_length {f:Addr}{fd:FuncData}(F:Fun K "looked_length" "looked_length" s_looked_length f fd)(tt:Txt K mg ad)(C_looked_kinds:Cal P w K mg base (CX2 P w) "looked_kinds" 1 ["kinds"] (spKindsX ad)) :
  FnOk P w K mg base (CX2 P w) 2 f fd ["length", "kinds"] (spLenX ad):=by
 refine F.okX2 sc_looked_length (fun vs H Q E h=>?_) (fun cdv A outer s H vs Q E hr h=>?_)
 ·obtain ⟨n,k,rfl,_⟩:=h
  rfl
 ·obtain ⟨n,k,rfl,q,x1,x2⟩:=h
  have hs:sizeLine=16777216:=sizeLine_eq
  refine ⟨_,(pss_cons (ps_expr (pe_cal C_looked_kinds hr passX2 (pa_cons (pv 1) pa_nil)))
   (pss_one (ps_if (PW.pt (pw_or (pt_cmpR op_lt (pv 0) pe_int (nomark _)) (pw_or1 (pt_cmpR op_gt (pv 0) (pe_glob (by rfl) tt.g_LONGEST tt.r_LONGEST) (nomark _))))) (pss_one (ps_raise (E:=fun cls H'=>E cls none H') tt.x_BadWord rfl (fun _ _ _ _ _ _ _ I hx q=>raiseX2 I hx q) (pa_cons pe_str pa_nil))) pss_nil))),?_⟩
  (try rw [cxK2]);(try rw [cxK1])
  refine ⟨_,rfl,k,rfl,fun hk=>?_,x1⟩
  refine ⟨_,rfl,_,_,rfl,rfl,_,rfl,?_⟩
  refine ite2 (fun h0=>iteT ?_) (fun h0=>?_)
  ·have h1:n<1:=of_decide_eq_true h0
   exact ⟨(by show 1<=sizeLine;omega),x2 hk fun z=>by omega⟩
  ·have h1:¬ n<1:=fun z=>h0 (decide_eq_true z)
   refine ⟨_,rfl,_,_,rfl,rfl,_,rfl,?_⟩
   refine ite2 (fun h2=>?_) (fun h2=>?_)
   ·have h3:(24:Int)<n:=of_decide_eq_true h2
    exact ⟨(by show 1<=sizeLine;omega),x2 hk fun z=>by omega⟩
   ·have h3:¬ (24:Int)<n:=fun z=>h2 (decide_eq_true z)
    exact q hk ⟨by omega,by omega⟩
def spLettersX (ad:Adr):Sp:=fun vs H Q E=>∃ k:Int,vs=[.int k]∧(∀ kn:Nat,k=(kn:Nat)->(1<=kn∧kn<=6)->Q (T (([97,98,99,100,101,102]:List Nat).take kn)) H)∧(¬ (1<=k∧k<=6)->E (.ref ad.BadKinds) none H)
theorem ok_letters {f:Addr}{fd:FuncData}(F:Fun K "letters" "letters" s_letters f fd)(tt:Txt K mg ad)(C_looked_kinds:Cal P w K mg base (CX2 P w) "looked_kinds" 1 ["kinds"] (spKindsX ad)):FnOk P w K mg base (CX2 P w) 2 f fd ["kinds"] (spLettersX ad):=by
 refine F.okX2 sc_letters (fun vs H Q E h=>?_) (fun cdv A outer s H vs Q E hr h=>?_)
 ·obtain ⟨k,rfl,_⟩:=h
  rfl
 ·obtain ⟨k,rfl,q,x⟩:=h
  have hs:sizeLine=16777216:=sizeLine_eq
  refine ⟨_,(pss_cons (ps_expr (pe_cal C_looked_kinds hr passX2 (pa_cons (pv 0) pa_nil)))
   (pss_one (ps_ret (pe_slice sl_T (pe_glob (by rfl) tt.g_LETTERS tt.r_LETTERS) po_none (po_some (pv 0)))))),?_⟩
  (try rw [cxK2]);(try rw [cxK1])
  refine ⟨_,rfl,k,rfl,fun hk=>?_,x⟩
  obtain ⟨kn,rfl⟩:∃ kn:Nat,k=(kn:Nat):=⟨k.toNat,by omega⟩
  refine ⟨_,rfl,_,rfl,_,rfl,(by show 6<=sizeLine;omega),?_⟩
  rw [cutL_to (by show kn<=6;omega)]
  exact q kn rfl ⟨by omega,by omega⟩
def Good (w:List Nat)(kn:Nat):Prop:=(1<=w.length∧w.length<=24)∧∀ c∈w,97<=c∧c<97+kn
def spLookedX (ad:Adr):Sp:=fun vs H Q E=>∃ (w:List Nat) (k:Int),vs=[T w,.int k]∧w.length<=100000∧(¬ (1<=k∧k<=6)->E (.ref ad.BadKinds) none H) ∧
 ∀ kn:Nat,k=(kn:Nat)->(1<=kn∧kn<=6)->(Good w kn->Q .non H)∧(¬ Good w kn->E (.ref ad.BadWord) none H)
theorem ok_looked {f:Addr}{fd:FuncData}(F:Fun K "looked" "looked" s_looked f fd)(tt:Txt K mg ad)(C_looked_length:Cal P w K mg base (CX2 P w) "looked_length" 2 ["length", "kinds"] (spLenX ad))
  (C_letters:Cal P w K mg base (CX2 P w) "letters" 2 ["kinds"] (spLettersX ad)):FnOk P w K mg base (CX2 P w) 3 f fd ["word", "kinds"] (spLookedX ad):=by
 refine F.okX2 sc_looked (fun vs H Q E h=>?_) (fun cdv A outer s H vs Q E hr h=>?_)
 ·obtain ⟨w,k,rfl,_⟩:=h
  rfl
 ·obtain ⟨w,k,rfl,hw,x1,q⟩:=h
  have hs:sizeLine=16777216:=sizeLine_eq
  refine ⟨_,(pss_cons (ps_expr (pe_cal C_looked_length hr passX2 (pa_cons (pe_callB call_len_T (by rfl) tt.b_len PySem.boot_len (pa_cons (pv 0) pa_nil)) (pa_cons (pv 1) pa_nil))))
   (pss_cons (ps_set (i:=2) sc_looked.nd rfl (Or.inl rfl) (pe_cal C_letters hr passX2 (pa_cons (pv 1) pa_nil)))
   (pss_one (ps_for PassesOwn.leaving rfl (pi_str (pv 0)) (pg_name (i:=3) sc_looked.nd rfl (Or.inl rfl)) (pss_one (ps_if (pt_cmpR op_notin_sT (pv 3) (pv 2) (by with_unfolding_all rfl)) (pss_one (ps_raise (E:=fun cls H'=>E cls none H') tt.x_BadWord rfl (fun _ _ _ _ _ _ _ I hx q=>raiseX2 I hx q) (pa_cons pe_str pa_nil))) pss_nil)))))),?_⟩
  (try rw [cxK2]);(try rw [cxK1])
  refine ⟨_,rfl,_,rfl,(by omega),_,rfl,_,k,rfl,fun hk hn=>?_,x1,fun hk hn=>?_⟩
  rotate_left
  ·obtain ⟨kn,rfl⟩:∃ kn:Nat,k=(kn:Nat):=⟨k.toNat,by omega⟩
   exact (q kn rfl ⟨by omega,by omega⟩).2 fun z=>hn ⟨by have:=z.1;omega,by have:=z.1;omega⟩
  obtain ⟨kn,rfl⟩:∃ kn:Nat,k=(kn:Nat):=⟨k.toNat,by omega⟩
  obtain ⟨q1,q2⟩:=q kn rfl ⟨by omega,by omega⟩
  refine ⟨_,rfl,_,rfl,fun kn' ek hk'=>?_,fun z=>absurd hk z⟩
  obtain rfl:kn=kn':=by omega
  refine ⟨_,rfl,_,rfl,?_⟩
  refine for_text (l:=w) (fun i σ H2=>H=H2∧(∀ c∈w.take i,97<=c∧c<97+kn)∧∃ v,σ=[some (T w),some (.int (kn:Nat)),some (T (([97,98,99,100,101,102]:List Nat).take kn)),v]) ⟨rfl,fun c hc=>(by simp at hc),none,rfl⟩ ?_ ?_
  ·rintro i c σ H2 hi ⟨rfl,hall,v,rfl⟩
   refine ⟨_,rfl,_,rfl,_,rfl,_,rfl,_,rfl,?_⟩
   refine ite2 (fun h0=>?_) (fun h0=>?_)
   ·have h1:¬ c∈([97,98,99,100,101,102]:List Nat).take kn:=fun z=>by
     rw [decide_eq_true z] at h0
     cases h0
    refine ⟨(by show 1<=sizeLine;omega),q2 fun z=>h1 ?_⟩
    exact (abc_mem (by omega)).mpr (z.2 c (List.mem_of_getElem? hi))
   ·have h1:c∈([97,98,99,100,101,102]:List Nat).take kn:=by
     apply Classical.byContradiction
     intro z
     rw [decide_eq_false z] at h0
     exact h0 rfl
    refine ⟨rfl,fun d hd=>?_,_,rfl⟩
    have hil:=(List.getElem?_eq_some_iff.mp hi).1
    rw [List.take_add_one,hi] at hd
    rcases List.mem_append.mp hd with z | z
    ·exact hall d z
    ·have:d=c:=by simpa using z
     subst this
     exact (abc_mem (by omega)).mp h1
  ·rintro σ H2 ⟨rfl,hall,v,rfl⟩
   rw [List.take_length] at hall
   exact q1 ⟨⟨by omega,by omega⟩,hall⟩
theorem nubTo_full (ls:List (List Nat)):∀ i,i<=ls.length->(nubTo ls i).length=i->(ls.take i).Nodup
 | 0,_,_=>by rw [List.take_zero];exact List.nodup_nil
 | i+1,hi,h=>by
  have e:ls.take (i+1)=ls.take i++[ls.getD i []]:=by
   rw [List.take_add_one,List.getD_eq_getElem?_getD,List.getElem?_eq_getElem (by omega)]
   rfl
  have hl:=nubTo_len ls i
  rw [nubTo] at h
  split at h
  ·omega
  ·rename_i hm
   rw [List.length_append,List.length_singleton] at h
   have ih:=nubTo_full ls i (by omega) (by omega)
   rw [e]
   refine List.nodup_append.mpr ⟨ih,by simp,fun a ha b hb ee=>hm ?_⟩
   have hb':b=ls.getD i []:=by simpa using hb
   rw [nubTo_mem ls _ i (by omega),<- hb',<- ee]
   exact ha
theorem uniq_nd {ls:List (List Nat)}(h:(uniq ls).length=ls.length):ls.Nodup:=by
 have z:=nubTo_full ls ls.length (Nat.le_refl _) h
 rwa [List.take_length] at z
theorem uniq_len {ls:List (List Nat)}(h:ls.Nodup):(uniq ls).length=ls.length:=((List.perm_ext_iff_of_nodup (uniq_nodup ls) h).mpr fun x=>uniq_mem ls x).length_eq
theorem same_upd {H:Hp}{D:Addr}{o:HO}(h:H D=none):Same H (upd H D o):=fun b u e=>by rw [upd_ne (ne_of_none e h)];exact e
theorem sq_put {K:PySem.W.Frag}{H:Hp}{p x C dx:Addr}{fs:List (Str×V)}{xs:List V}{o:HO}(h:SqL K H p xs)(hx:H x=some (.ins C dx fs)):SqL K (upd H x o) p xs:=by
 rcases h with (h | ⟨q,h⟩) | h
 ·exact .inl (.inl (by rw [upd_ne (fun z=>by subst z;rw [hx] at h;cases h)];exact h))
 ·exact .inl (.inr ⟨q,by rw [upd_ne (fun z=>by subst z;rw [hx] at h;cases h)];exact h⟩)
 ·exact .inr h
def WebOk (ls:List (List Nat))(n:Nat):Prop:=ls≠[]∧ls.length<=64∧(1<=n∧n<=8)∧(∀ x∈ls,x.length=n∧∀ c∈x,97<=c∧c<103)∧ls.Nodup
def IsWeb (ls:List (List Nat)):Prop:=∃ n,WebOk ls n
def Small (ls:List (List Nat)):Prop:=ls.length<=1000∧∀ x∈ls,x.length<=1000
def spWebL (K:PySem.W.Frag)(ad:Adr):Sp:=fun vs H Q E=>∃ (p:Addr) (ls:List (List Nat)),vs=[.ref p]∧SqL K H p (ls.map T)∧Small ls∧(64<ls.length->E (.ref ad.TooMany) none H)∧(ls.length<=64->¬ IsWeb ls->∀ H',Same H H'->E (.ref ad.BadWord) none H') ∧
 ∀ n,WebOk ls n->∀ H',Same H H'->Q .non H'
theorem ok_looked_web {f:Addr}{fd:FuncData}(F:Fun K "looked_web" "looked_web" s_looked_web f fd)(tt:Txt K mg ad)(C_looked:Cal P w K mg base (CX2 P w) "looked" 3 ["word", "kinds"] (spLookedX ad)) :
  FnOk P w K mg base (CX2 P w) 4 f fd ["words"] (spWebL K ad):=by
 refine F.okX2 sc_looked_web (fun vs H Q E h=>?_) (fun cdv A outer s H vs Q E hr h=>?_)
 ·obtain ⟨p,ls,rfl,_⟩:=h
  rfl
 ·obtain ⟨p,ls,rfl,hS,hb,x1,x2,q⟩:=h
  have hs:sizeLine=16777216:=sizeLine_eq
  have hb1:=hb.1
  refine ⟨_,(pss_cons (ps_if (pt_cmpR op_gt (pe_callB call_len_seq (by rfl) tt.b_len PySem.boot_len (pa_cons (pv 0) pa_nil)) (pe_glob (by rfl) tt.g_MOST_OF_A_WEB tt.r_MOST_OF_A_WEB) (nomark _)) (pss_one (ps_raise (E:=fun cls H'=>E cls none H') tt.x_TooMany rfl (fun _ _ _ _ _ _ _ I hx q=>raiseX2 I hx q) (pa_cons pe_str pa_nil))) pss_nil)
   (pss_cons (ps_if (pt_cmpR op_eq_I (pe_callB call_len_seq (by rfl) tt.b_len PySem.boot_len (pa_cons (pv 0) pa_nil)) pe_int (nomark _)) (pss_one (ps_raise (E:=fun cls H'=>E cls none H') tt.x_BadWord rfl (fun _ _ _ _ _ _ _ I hx q=>raiseX2 I hx q) (pa_cons pe_str pa_nil))) pss_nil)
   (pss_cons (ps_for PassesOwn.leaving rfl (pi_list (pv 0)) (pg_name (i:=1) sc_looked_web.nd rfl (Or.inl rfl)) (pss_cons (ps_expr (pe_cal C_looked hr passX2 (pa_cons (pv 1) (pa_cons (pe_callB call_len_T (by rfl) tt.b_len PySem.boot_len (pa_cons (pe_glob (by rfl) tt.g_LETTERS tt.r_LETTERS) pa_nil)) pa_nil))))
   (pss_cons (ps_if (pt_cmpR op_gt (pe_callB call_len_T (by rfl) tt.b_len PySem.boot_len (pa_cons (pv 1) pa_nil)) (pe_glob (by rfl) tt.g_LONGEST_OF_A_WEB tt.r_LONGEST_OF_A_WEB) (nomark _)) (pss_one (ps_raise (E:=fun cls H'=>E cls none H') tt.x_BadWord rfl (fun _ _ _ _ _ _ _ I hx q=>raiseX2 I hx q) (pa_cons pe_str pa_nil))) pss_nil)
   (pss_one (ps_if (pt_cmpR op_ne_I (pe_callB call_len_T (by rfl) tt.b_len PySem.boot_len (pa_cons (pv 1) pa_nil)) (pe_callB call_len_T (by rfl) tt.b_len PySem.boot_len (pa_cons (pe_ix ix_list (pv 0) pe_int (fun _ _=>rfl)) pa_nil)) (nomark _)) (pss_one (ps_raise (E:=fun cls H'=>E cls none H') tt.x_BadWord rfl (fun _ _ _ _ _ _ _ I hx q=>raiseX2 I hx q) (pa_cons pe_str pa_nil))) pss_nil)))))
   (pss_one (ps_if (pt_cmpR op_ne_I (pe_callB call_lenS (by rfl) tt.b_len PySem.boot_len (pa_cons (pe_callTy (call_setT rfl) (by rfl) tt.b_set (by decide +kernel) (pa_cons (pv 0) pa_nil)) pa_nil)) (pe_callB call_len_seq (by rfl) tt.b_len PySem.boot_len (pa_cons (pv 0) pa_nil)) (nomark _)) (pss_one (ps_raise (E:=fun cls H'=>E cls none H') tt.x_BadWord rfl (fun _ _ _ _ _ _ _ I hx q=>raiseX2 I hx q) (pa_cons pe_str pa_nil))) pss_nil))))),?_⟩
  (try rw [cxK2]);(try rw [cxK1])
  refine ⟨_,rfl,p,_,rfl,.inl hS,_,_,rfl,rfl,_,rfl,?_⟩
  rw [List.length_map]
  refine ite2 (fun h0=>?_) (fun h0=>?_)
  ·exact ⟨(by show 1<=sizeLine;omega),x1 (by have:=of_decide_eq_true h0;omega)⟩
  have h64:ls.length<=64:=by
   rcases Nat.lt_or_ge 64 ls.length with z | z
   ·exact absurd (decide_eq_true (by omega)) h0
   ·exact z
  refine ⟨_,rfl,p,_,rfl,.inl hS,_,rfl,_,rfl,_,rfl,?_⟩
  rw [List.length_map]
  refine ite2 (fun h1=>?_) (fun h1=>?_)
  ·have e0:ls=[]:=List.length_eq_zero_iff.mp (by have:=of_decide_eq_true h1;omega)
   exact ⟨(by show 1<=sizeLine;omega),x2 h64 (fun ⟨n,hn⟩=>hn.1 e0) H (Same.refl H)⟩
  have hne:ls≠[]:=fun z=>h1 (decide_eq_true (by rw [z];rfl))
  have hl0:0<ls.length:=List.length_pos_iff.mpr hne
  obtain ⟨x0,hx0⟩:∃ x0,ls[0]?=some x0:=⟨_,List.getElem?_eq_getElem hl0⟩
  have hm0:=List.mem_of_getElem? hx0
  refine ⟨_,rfl,p,rfl,⟨_,hS⟩,?_⟩
  refine for_list (K:=K) (a:=p) (xs:=ls.map T) (fun i σ H2=>H=H2∧(∀ x∈ls.take i,Good x 6∧x.length<=8∧x.length=x0.length)∧∃ v,σ=[some (.ref p),v]) ⟨rfl,(fun x hx=>by simp at hx),none,rfl⟩ (fun i σ H2 _ h=>by rw [<- h.1];exact hS) ?_ ?_
  ·rintro i y σ H2 hi ⟨rfl,hall,v,rfl⟩
   obtain ⟨x,hxi,rfl⟩:∃ x,ls[i]?=some x∧y=T x:=by
    rw [List.getElem?_map] at hi
    obtain ⟨x,h1,h2⟩:=Option.map_eq_some_iff.mp hi
    exact ⟨x,h1,h2.symm⟩
   have hxm:=List.mem_of_getElem? hxi
   have hxl:=hb.2 x hxm
   have hx0l:=hb.2 x0 hm0
   have hgd:IsWeb ls->Good x 6:=fun ⟨n,hn⟩=>by
    have z:=hn.2.2.2.1 x hxm
    have z2:=hn.2.2.1
    exact ⟨⟨by omega,by omega⟩,fun c hc=>by have:=z.2 c hc;omega⟩
   refine ⟨_,rfl,_,rfl,(by show 6<=sizeLine;omega),x,6,rfl,(by omega),fun z=>absurd ⟨by decide,by decide⟩ z,fun kn ek hk=>?_⟩
   obtain rfl:kn=6:=by omega
   refine ⟨fun hg=>?_,fun hg=>x2 h64 (fun z=>hg (hgd z)) H (Same.refl H)⟩
   refine ⟨_,rfl,_,rfl,(by omega),_,_,rfl,rfl,_,rfl,?_⟩
   refine ite2 (fun h2=>?_) (fun h2=>?_)
   ·have h3:8<x.length:=by have:=of_decide_eq_true h2;omega
    exact ⟨(by show 1<=sizeLine;omega),x2 h64 (fun ⟨n,hn⟩=>by have:=(hn.2.2.2.1 x hxm).1;have:=hn.2.2.1;omega) H (Same.refl H)⟩
   have h3:x.length<=8:=by
    rcases Nat.lt_or_ge 8 x.length with z | z
    ·exact absurd (decide_eq_true (by omega)) h2
    ·exact z
   refine ⟨_,rfl,_,rfl,(by omega),_,rfl,p,_,_,_,rfl,rfl,hS,atI_nat (j:=0) (by rw [List.getElem?_map,hx0];rfl),_,rfl,(by omega),_,rfl,_,rfl,_,rfl,?_⟩
   refine ite2 (fun h4=>?_) (fun h4=>?_)
   ·have h5:¬ x.length=x0.length:=fun z=>by
     rw [decide_eq_true (show ((x.length:Nat):Int)=((x0.length:Nat):Int) by rw [z])] at h4
     cases h4
    exact ⟨(by show 1<=sizeLine;omega),x2 h64 (fun ⟨n,hn⟩=>h5 ((hn.2.2.2.1 x hxm).1.trans (hn.2.2.2.1 x0 hm0).1.symm)) H (Same.refl H)⟩
   have h5:x.length=x0.length:=by
    apply Classical.byContradiction
    intro z
    rw [decide_eq_false (show ¬ ((x.length:Nat):Int)=((x0.length:Nat):Int) by omega)] at h4
    exact h4 rfl
   refine ⟨rfl,fun y hy=>?_,_,rfl⟩
   rw [List.take_add_one,hxi] at hy
   rcases List.mem_append.mp hy with z | z
   ·exact hall y z
   ·have:y=x:=by simpa using z
    subst this
    exact ⟨hg,h3,h5⟩
  ·rintro σ H2 ⟨rfl,hall,v,rfl⟩
   rw [List.length_map,List.take_length] at hall
   refine ⟨_,rfl,p,ls,rfl,hS,(by omega),fun D hD=>?_⟩
   have sD:Same H (upd H D (SetT P w D (uniq ls))):=same_upd hD
   refine ⟨D,_,rfl,upd_same,_,rfl,p,_,rfl,.inl (sD.seq hS),_,rfl,_,rfl,_,rfl,?_⟩
   rw [List.length_map]
   refine ite2 (fun h4=>?_) (fun h4=>?_)
   ·have h5:¬ ls.Nodup:=fun z=>by
     rw [decide_eq_true (show (((uniq ls).length:Nat):Int)=((ls.length:Nat):Int) by rw [uniq_len z])] at h4
     cases h4
    exact ⟨(by show 1<=sizeLine;omega),x2 h64 (fun ⟨n,hn⟩=>h5 hn.2.2.2.2) _ sD⟩
   have h5:ls.Nodup:=by
    apply Classical.byContradiction
    intro z
    rw [decide_eq_false (show ¬ (((uniq ls).length:Nat):Int)=((ls.length:Nat):Int) from fun e=>z (uniq_nd (by omega)))] at h4
    exact h4 rfl
   have hx0g:=hall x0 hm0
   exact q x0.length ⟨hne,h64,⟨hx0g.1.1.1,hx0g.2.1⟩,fun x hx=>⟨(hall x hx).2.2,fun c hc=>by have:=(hall x hx).1.2 c hc;omega⟩,h5⟩ _ sD
def flds (tp:Addr)(n:Int):List (Str×V):=putF "length" (.int n) (putF "words" (.ref tp) [])
theorem flds_w (tp:Addr)(n:Int):(flds tp n).lookup ("words" : Str)=some (.ref tp):=by
 unfold flds
 rw [lookup_putF,if_neg (by decide +kernel),lookup_putF,if_pos rfl]
def spWebI (K:PySem.W.Frag)(C:Addr)(ad:Adr):Sp:=fun vs H Q E=>∃ (x dx p:Addr) (ls:List (List Nat)),vs=[.ref x,.ref p]∧H x=some (.ins C dx [])∧SqL K H p (ls.map T)∧Small ls∧(64<ls.length->E (.ref ad.TooMany) none H)∧(ls.length<=64->¬ IsWeb ls->∀ H',Same H H'->E (.ref ad.BadWord) none H') ∧
 ∀ (n:Nat) (tp:Addr) (ms:List (List Nat)) (H':Hp),WebOk ls n->ms.Perm ls->ms.Pairwise (fun a b=>¬ b<a)->(∀ b o,H b=some o->b≠x->H' b=some o)->H' x=some (.ins C dx (flds tp (n:Nat)))->H' tp=some (.tup (ms.map T))->Q .non H'
theorem ok_Web_init {f:Addr}{fd:FuncData}(F:Fun K "__init__" "Web.__init__" s_Web_init f fd)(tt:Txt K mg ad)(C_looked_web:Cal P w K mg base (CX2 P w) "looked_web" 4 ["words"] (spWebL K ad)) :
  FnOk P w K mg base (CX2 P w) 5 f fd ["self", "words"] (spWebI K ad.Web ad):=by
 refine F.okX2 sc_Web_init (fun vs H Q E h=>?_) (fun cdv A outer s H vs Q E hr h=>?_)
 ·obtain ⟨x,dx,p,ls,rfl,_⟩:=h
  rfl
 ·obtain ⟨x,dx,p,ls,rfl,hx,hS,hb,x1,x2,q⟩:=h
  have hs:sizeLine=16777216:=sizeLine_eq
  have hb1:=hb.1
  refine ⟨_,(pss_cons (ps_expr (pe_cal C_looked_web hr passX2 (pa_cons (pv 1) pa_nil)))
   (pss_cons (ps_fld (pv 0) (pe_callTy call_tuple_of (by rfl) tt.b_tuple (by decide +kernel) (pa_cons (pe_callB call_sortedA (by rfl) tt.b_sorted PyProof.Rows.boot_sorted (pa_cons (pv 1) pa_nil)) pa_nil)) rfl)
   (pss_one (ps_fld (pv 0) (pe_callB call_len_T (by rfl) tt.b_len PySem.boot_len (pa_cons (pe_ix ix_list (pv 1) pe_int (fun _ _=>rfl)) pa_nil)) rfl)))),?_⟩
  (try rw [cxK2]);(try rw [cxK1])
  refine ⟨_,rfl,p,ls,rfl,hS,hb,x1,x2,fun n hok H1 s1=>?_⟩
  obtain ⟨hne,h64,hn,hxs,hnd⟩:=id hok
  have hl0:0<ls.length:=List.length_pos_iff.mpr hne
  obtain ⟨x0,hx0⟩:∃ x0,ls[0]?=some x0:=⟨_,List.getElem?_eq_getElem hl0⟩
  have hx0l:=(hxs x0 (List.mem_of_getElem? hx0)).1
  refine ⟨_,rfl,p,ls,rfl,s1.seq hS,fun ms D hD hperm hpw=>?_⟩
  have s2:Same H1 (upd H1 D (.lst (ms.map T))):=same_upd hD
  refine ⟨D,_,rfl,.inl ⟨SqL.of upd_same,fun tp htp=>?_⟩⟩
  have s3:Same (upd H1 D (.lst (ms.map T))) (upd (upd H1 D (.lst (ms.map T))) tp (.tup (ms.map T))):=same_upd htp
  generalize hH3:upd (upd H1 D (.lst (ms.map T))) tp (.tup (ms.map T))=H3 at s3
  have htp3:H3 tp=some (.tup (ms.map T)):=by rw [<- hH3];exact upd_same
  have s13:Same H H3:=s1.trans (s2.trans s3)
  have hx3:=s13 x _ hx
  have hxt:tp≠x:=fun z=>by subst z;rw [htp3] at hx3;cases hx3
  refine ⟨_,rfl,x,ad.Web,dx,[],rfl,hx3,tt.cl_Web,tt.na_Web_words,(by show 0<1000;decide),?_⟩
  refine ⟨_,rfl,p,_,_,_,rfl,rfl,sq_put (s13.seq hS) hx3,atI_nat (j:=0) (by rw [List.getElem?_map,hx0];rfl),_,rfl,(by omega),_,rfl,x,ad.Web,dx,_,rfl,upd_same,tt.cl_Web,tt.na_Web_length,(by show 1<1000;decide),?_⟩
  refine q n tp ms _ hok hperm hpw (fun b o e hb=>?_) ?_ ?_
  ·rw [upd_ne hb,upd_ne hb]
   exact s13 b o e
  ·rw [upd_same,hx0l]
   rfl
  ·rw [upd_ne hxt,upd_ne hxt]
   exact htp3
def WebAt (C:Addr)(H:Hp)(x tp:Addr)(n:Nat)(ms:List (List Nat)):Prop:=(∃ dx,H x=some (.ins C dx (flds tp (n:Nat))))∧H tp=some (.tup (ms.map T))
theorem WebAt.on {C:Addr}{H H':Hp}{x tp:Addr}{n:Nat}{ms:List (List Nat)}(h:WebAt C H x tp n ms)(s:Same H H'):WebAt C H' x tp n ms:=let ⟨⟨dx,e⟩,t⟩:=h;⟨⟨dx,s _ _ e⟩,s _ _ t⟩
theorem inV_T {t:List Nat}:∀ {ls:List (List Nat)},inV (T t) (ls.map T)=decide (t∈ls)
 | []=>by simp [inV]
 | l::ls=>by
  have ih:=@inV_T t ls
  have e:inV (T t) ((l::ls).map T)=(eqV (T l) (T t)||inV (T t) (ls.map T)):=rfl
  have e2:eqV (T l) (T t)=decide (t=l):=by
   show (tx l==tx t)=decide (t=l)
   rw [Bool.eq_iff_iff,beq_iff_eq,decide_eq_true_iff]
   exact ⟨fun h=>(tx_inj h).symm,fun h=>by rw [h]⟩
  rw [e,ih,e2,Bool.eq_iff_iff,Bool.or_eq_true,decide_eq_true_iff,decide_eq_true_iff,decide_eq_true_iff,List.mem_cons]
theorem itP {c A B:Prop}[Decidable c](hc:c)(h:A):if c then A else B:=by rw [if_pos hc];exact h
theorem itN {c A B:Prop}[Decidable c](hc:¬ c)(h:B):if c then A else B:=by rw [if_neg hc];exact h
theorem ok_BadText_init {f:Addr}{fd:FuncData}(F:Fun K "__init__" "BadText.__init__" s_BadText_init f fd)(tt:Txt K mg ad):FnOk P w K mg base (CX2 P w) 1 f fd ["self", "words", "at"] (spInitE ad.BadText "at"):=by
 refine F.okN2 sc_BadText_init (fun vs H Q E h=>?_) (fun cdv A outer s H vs Q E hr h=>?_)
 ·obtain ⟨a,v1,v,rfl,_⟩:=h
  rfl
 ·obtain ⟨a,v1,v,rfl,ha,q⟩:=h
  refine ⟨_,(pss_cons (ps_expr (pe_init0 tt.bi_OnceError tt.xi_BadText.choose_spec (pa_cons (pv 0) (pa_cons (pv 1) pa_nil))))
   (pss_one (ps_exset tt.xi_BadText.choose_spec tt.na_BadText_at (pv 0) (pv 2)))),?_⟩
  (try rw [cxK2]);(try rw [cxK1])
  refine ⟨_,rfl,_,rfl,a,v1,rfl,ha,?_⟩
  refine ⟨_,rfl,_,rfl,a,rfl,upd_same,fun dx hdx=>?_⟩
  have hda:dx≠a:=fun z=>by rw [z,upd_same] at hdx;cases hdx
  rw [upd_ne hda] at hdx
  have e:upd (upd (upd H a (ExB a ad.BadText none)) dx (.xd [("at",v)])) a (ExB a ad.BadText (some dx))=upd (upd H dx (.xd [("at",v)])) a (ExB a ad.BadText (some dx)):=by
   funext b
   by_cases hb:b=a
   ·rw [hb,upd_same,upd_same]
   ·rw [upd_ne hb,upd_ne hb]
    by_cases hb2:b=dx
    ·rw [hb2,upd_same,upd_same]
    ·rw [upd_ne hb2,upd_ne hb2,upd_ne hb]
  show Q .non (upd (upd (upd H a (ExB a ad.BadText none)) dx (.xd [("at",v)])) a (ExB a ad.BadText (some dx)))
  rw [e]
  exact q dx hdx
theorem cutV_from {ls:List (List Nat)}{k:Nat}(h:k<=ls.length):cutV (ls.map T) (some (k:Int)) none=(ls.drop k).map T:=by
 unfold cutV
 rw [HT.sIx_nat,HT.sIx_none,List.length_map,Nat.min_eq_left h,<- List.map_drop,<- List.map_take,List.take_of_length_le (by rw [List.length_drop];omega)]
theorem cutV_to {ls:List (List Nat)}{k:Nat}(h:k<=ls.length):cutV (ls.map T) none (some (k:Int))=(ls.take k).map T:=by
 unfold cutV
 rw [HT.sIx_nat,HT.sIx_none,List.length_map,Nat.min_eq_left h,List.drop_zero,Nat.sub_zero,List.map_take]
theorem tAnd_is {t u:TT}{σ:St}{H:Hp}{Q:Bool->Hp->Prop}(a b:Bool)(hA:∀ N:Bool->Hp->Prop,N a H->t σ H N)(hB:a=true->∀ N:Bool->Hp->Prop,N b H->u σ H N)(h:Q (a&&b) H):tAnd t u σ H Q:=by
 refine hA _ ?_
 cases a with
 | true=>rw [if_pos rfl];exact hB rfl _ h
 | false=>rw [if_neg Bool.false_ne_true];exact h
theorem flat1 {ls:List (List Nat)}(f:List Nat->List Nat)(h:∀ x,(f x).length=1):((ls.map f).flatten).length=ls.length:=by
 induction ls with
 | nil=>rfl
 | cons a ls ih=>rw [List.map_cons,List.flatten_cons,List.length_append,h,ih,List.length_cons,Nat.add_comm]
theorem flat_T (ls:List (List Nat)):(ls.map T).all flatV=true:=List.all_eq_true.mpr fun x hx=>by
 obtain ⟨y,_,rfl⟩:=List.mem_map.mp hx
 rfl
theorem mod_nat (z q:Int)(hq:0<q):∃ j:Nat,z % q=(j:Nat)∧(j:Int)<q:=⟨(z % q).toNat,(Int.toNat_of_nonneg (Int.emod_nonneg z (by omega))).symm,by rw [Int.toNat_of_nonneg (Int.emod_nonneg z (by omega))];exact Int.emod_lt_of_pos z hq⟩
theorem form_len (w:List Nat):(formOf w).length=1:=by
 unfold formOf
 split
 ·rfl
 ·split <;> rfl
def spMade:Sp:=fun vs H Q _=>∃ (w s:List Nat) (m:Nat),vs=[T w,T s,.int m]∧w.length<=100000∧∀ H',Same H H'->Q (.bl (madeOf s m w)) H'
theorem ok_is_made_of {f:Addr}{fd:FuncData}(F:Fun K "is_made_of" "is_made_of" s_is_made_of f fd)(tt:Txt K mg ad):FnOk P w K mg base (CX2 P w) 1 f fd ["word", "signs", "most"] spMade:=by
 refine F.okN2 sc_is_made_of (fun vs H Q E h=>?_) (fun cdv A outer s H vs Q E hr h=>?_)
 ·obtain ⟨w,s,m,rfl,_⟩:=h
  rfl
 ·obtain ⟨w,s',m,rfl,hw,q⟩:=h
  have hs:sizeLine=16777216:=sizeLine_eq
  refine ⟨_,(pss_one (ps_ret (pe_and (pe_cmpR op_gt (pe_callB call_len_T (by rfl) tt.b_len PySem.boot_len (pa_cons (pv 0) pa_nil)) pe_int (nomark _)) (pe_and (pe_cmpR op_le (pe_callB call_len_T (by rfl) tt.b_len PySem.boot_len (pa_cons (pv 0) pa_nil)) (pv 2) (nomark _)) (pe_one (pe_callB (call_allB rfl) (by rfl) tt.b_all PyProof.Rows.boot_all (pa_cons (pe_comp cs_is_made_of_0 rfl (pi_str (pv 0)) (fun cl C s' H' fp=>(pe_cmpR op_in_sT (pv 0) (pv 2) (by with_unfolding_all rfl)))) pa_nil))))))),?_⟩
  (try rw [cxK2]);(try rw [cxK1])
  have key:∀ H',Same H H'->Q (.bl (decide (0<w.length)&&(decide (w.length<=m)&&w.all fun c=>decide (c∈s')))) H':=q
  refine ⟨_,rfl,w,rfl,(by omega),_,_,rfl,rfl,_,rfl,?_⟩
  by_cases h0:0<w.length
  ·rw [if_pos (decide_eq_true (show (0:Int)<(w.length:Nat) by omega))]
   rw [decide_eq_true h0] at key
   refine ⟨_,rfl,w,rfl,(by omega),_,rfl,_,_,rfl,rfl,_,rfl,?_⟩
   by_cases h1:w.length<=m
   ·rw [if_pos (decide_eq_true (show ((w.length:Nat):Int)<=(m:Nat) by omega))]
    rw [decide_eq_true h1] at key
    refine ⟨_,rfl,w,rfl,?_⟩
    refine compG (fun v=>.bl (decide ((unT v).headD 0∈s'))) (reads_text (l:=w)) (by rw [List.length_map,List.length_map];omega) (fun v H1 hv s1 N hN=>?_) fun D H1 hD s1 hd=>?_
    ·rw [List.map_map] at hv
     obtain ⟨c,hc,rfl⟩:=List.mem_map.mp hv
     exact ⟨_,rfl,_,rfl,c,rfl,s',rfl,hN H1 (Same.refl _)⟩
    ·refine ⟨D,w.map fun c=>decide (c∈s'),rfl,SqL.of ?_,?_⟩
     ·rw [hd,List.map_map,List.map_map,List.map_map]
      rfl
     ·rw [List.all_map]
      exact key H1 s1
   ·rw [if_neg fun z=>h1 (by have:=of_decide_eq_true z;omega)]
    rw [decide_eq_false h1] at key
    exact key H (Same.refl _)
  ·rw [if_neg fun z=>h0 (by have:=of_decide_eq_true z;omega)]
   rw [decide_eq_false h0] at key
   exact key H (Same.refl _)
def spIsNum:Sp:=fun vs H Q _=>∃ w:List Nat,vs=[T w]∧w.length<=100000∧∀ H',Same H H'->Q (.bl (isNum w)) H'
theorem ok_is_number {f:Addr}{fd:FuncData}(F:Fun K "is_number" "is_number" s_is_number f fd)(tt:Txt K mg ad)(C_is_made_of:Cal P w K mg base (CX2 P w) "is_made_of" 1 ["word", "signs", "most"] spMade):FnOk P w K mg base (CX2 P w) 2 f fd ["word"] spIsNum:=by
 refine F.okX2 sc_is_number (fun vs H Q E h=>?_) (fun cdv A outer s H vs Q E hr h=>?_)
 ·obtain ⟨w,rfl,_⟩:=h
  rfl
 ·obtain ⟨w,rfl,hw,q⟩:=h
  have hs:sizeLine=16777216:=sizeLine_eq
  refine ⟨_,(pss_one (ps_ret (pe_and (pe_cal C_is_made_of hr pass2 (pa_cons (pv 0) (pa_cons (pe_glob (by rfl) tt.g_FIGURES tt.r_FIGURES) (pa_cons (pe_glob (by rfl) tt.g_MOST_FIGURES tt.r_MOST_FIGURES) pa_nil)))) (pe_one (pe_or (pe_cmpR op_eq_T (pv 0) (pe_strT [48] (by decide +kernel)) (nomark _)) (pe_one (pe_cmpR op_ne_T (pe_ix ix_T (pv 0) pe_int (fun _ _=>rfl)) (pe_strT [48] (by decide +kernel)) (nomark _)))))))),?_⟩
  (try rw [cxK2]);(try rw [cxK1])
  refine ⟨_,rfl,w,figs,60,rfl,hw,fun H1 s1=>⟨_,rfl,?_⟩⟩
  have key:=q H1 s1
  unfold isNum at key
  by_cases h0:madeOf figs 60 w=true
  ·rw [if_pos h0]
   rw [h0] at key
   refine ⟨_,rfl,w,rfl,_,rfl,_,rfl,?_⟩
   by_cases h1:w=[48]
   ·rw [if_pos (decide_eq_true h1)]
    rw [decide_eq_true h1] at key
    exact key
   ·rw [if_neg fun z=>h1 (of_decide_eq_true z)]
    rw [decide_eq_false h1] at key
    cases w with
    | nil=>cases h0
    | cons c w =>
     refine ⟨_,rfl,c::w,rfl,0,rfl,(by omega),c,atI_nat (j:=0) rfl,[c],rfl,[48],rfl,?_⟩
     rw [<- decide_not]
     exact key
  ·rw [if_neg h0]
   rw [Bool.eq_false_iff.mpr h0] at key
   exact key
def spIsTxt:Sp:=fun vs H Q _=>∃ w:List Nat,vs=[T w]∧w.length<=100000∧∀ H',Same H H'->Q (.bl (isTxt w)) H'
theorem ok_is_text {f:Addr}{fd:FuncData}(F:Fun K "is_text" "is_text" s_is_text f fd)(tt:Txt K mg ad)(C_is_made_of:Cal P w K mg base (CX2 P w) "is_made_of" 1 ["word", "signs", "most"] spMade):FnOk P w K mg base (CX2 P w) 2 f fd ["word"] spIsTxt:=by
 refine F.okX2 sc_is_text (fun vs H Q E h=>?_) (fun cdv A outer s H vs Q E hr h=>?_)
 ·obtain ⟨w,rfl,_⟩:=h
  rfl
 ·obtain ⟨w,rfl,hw,q⟩:=h
  refine ⟨_,(pss_one (ps_ret (pe_cal C_is_made_of hr pass2 (pa_cons (pv 0) (pa_cons (pe_glob (by rfl) tt.g_LETTERS tt.r_LETTERS) (pa_cons (pe_glob (by rfl) tt.g_MOST_LETTERS tt.r_MOST_LETTERS) pa_nil)))))),?_⟩
  (try rw [cxK2]);(try rw [cxK1])
  exact ⟨_,rfl,w,lets,200,rfl,hw,q⟩
def spForm:Sp:=fun vs H Q _=>∃ w:List Nat,vs=[T w]∧w.length<=100000∧∀ H',Same H H'->Q (T (formOf w)) H'
theorem ok_form_of {f:Addr}{fd:FuncData}(F:Fun K "form_of" "form_of" s_form_of f fd)(tt:Txt K mg ad)(C_is_number:Cal P w K mg base (CX2 P w) "is_number" 2 ["word"] spIsNum)(C_is_text:Cal P w K mg base (CX2 P w) "is_text" 2 ["word"] spIsTxt):FnOk P w K mg base (CX2 P w) 3 f fd ["word"] spForm:=by
 refine F.okX2 sc_form_of (fun vs H Q E h=>?_) (fun cdv A outer s H vs Q E hr h=>?_)
 ·obtain ⟨w,rfl,_⟩:=h
  rfl
 ·obtain ⟨w,rfl,hw,q⟩:=h
  refine ⟨_,(pss_cons (ps_if (pt_val (pe_cal C_is_number hr pass2 (pa_cons (pv 0) pa_nil))) (pss_one (ps_ret (pe_strT [110] (by decide +kernel)))) pss_nil)
   (pss_one (ps_ret (pe_ifExp (pt_val (pe_cal C_is_text hr pass2 (pa_cons (pv 0) pa_nil))) (pe_strT [116] (by decide +kernel)) (pe_strT [45] (by decide +kernel)))))),?_⟩
  (try rw [cxK2]);(try rw [cxK1])
  refine ⟨_,rfl,w,rfl,hw,fun H1 s1=>⟨_,rfl,?_⟩⟩
  have q':=q H1 s1
  unfold formOf at q'
  refine ite2 (fun h0=>?_) (fun h0=>?_)
  ·rw [if_pos h0] at q'
   exact q'
  ·rw [if_neg h0] at q'
   refine ⟨_,rfl,w,rfl,hw,fun H2 s2=>⟨_,rfl,?_⟩⟩
   have q2:=q H2 (s1.trans s2)
   unfold formOf at q2
   rw [if_neg h0] at q2
   refine ite2 (fun h1=>?_) (fun h1=>?_)
   ·rw [if_pos h1] at q2
    exact q2
   ·rw [if_neg h1] at q2
    exact q2
def spKind (K:PySem.W.Frag):Sp:=fun vs H Q _=>∃ (p:Addr) (r:List (List Nat)),vs=[.ref p]∧SqL K H p (r.map T)∧r≠[]∧r.length<=100000∧(∀ x∈r,x.length<=100000)∧∀ H',Same H H'->Q (match kindOf r with | some k=>T k | none=>.non) H'
theorem ok_kind_of {f:Addr}{fd:FuncData}(F:Fun K "kind_of" "kind_of" s_kind_of f fd)(tt:Txt K mg ad)(C_form_of:Cal P w K mg base (CX2 P w) "form_of" 3 ["word"] spForm):FnOk P w K mg base (CX2 P w) 4 f fd ["row"] (spKind K):=by
 refine F.okX2 sc_kind_of (fun vs H Q E h=>?_) (fun cdv A outer s H vs Q E hr h=>?_)
 ·obtain ⟨p,r,rfl,_⟩:=h
  rfl
 ·obtain ⟨p,r,rfl,hS,hne,hrl,hx,q⟩:=h
  have hs:sizeLine=16777216:=sizeLine_eq
  obtain ⟨h,rt,rfl⟩:∃ h rt,r=h::rt:=by cases r with | nil=>exact absurd rfl hne | cons a b=>exact ⟨a,b,rfl⟩
  refine ⟨_,(pss_cons (ps_set (i:=1) sc_kind_of.nd rfl (Or.inl rfl) (pe_bm PySem.F.plainAttrs_str PySem.F.slot_str_join PySem.F.type_str_join mt_join (pe_strT [] (by decide +kernel)) (pa_cons (pe_comp cs_kind_of_0 rfl (pi_list (pe_slice sl_list (pv 0) (po_some pe_int) po_none)) (fun cl C s' H' fp=>(pe_cal C_form_of hr pass2 (pa_cons (pv 0) pa_nil)))) pa_nil)))
   (pss_cons (ps_if (PW.pt (pw_and (pt_cmpR op_in_tab (pe_ix ix_list (pv 0) pe_int (fun _ _=>rfl)) (pe_glob (v:=.ref ad.ASKS) (by rfl) tt.m_ASKS rfl) (by with_unfolding_all rfl)) (pw_and1 (pt_cmpR op_in_seq (pv 1) (pe_ix ix_tab (pe_glob (v:=.ref ad.ASKS) (by rfl) tt.m_ASKS rfl) (pe_ix ix_list (pv 0) pe_int (fun _ _=>rfl)) (fun _ _=>rfl)) (by with_unfolding_all rfl))))) (pss_one (ps_ret (pe_strT [97,115,107] (by decide +kernel)))) pss_nil)
   (pss_cons (ps_if (PW.pt (pw_and (pt_cmpR op_eq_T (pe_ix ix_list (pv 0) pe_int (fun _ _=>rfl)) (pe_strT [97,108,108] (by decide +kernel)) (nomark _)) (pw_and1 (pt_cmpR op_eq_T (pv 1) (pe_strT [110,110] (by decide +kernel)) (nomark _))))) (pss_one (ps_ret (pe_strT [97,108,108] (by decide +kernel)))) pss_nil)
   (pss_cons (ps_if (PW.pt (pw_and (pt_cmpR op_eq_T (pe_ix ix_list (pv 0) pe_int (fun _ _=>rfl)) (pe_strT [98,97,114] (by decide +kernel)) (nomark _)) (pw_and1 (pt_cmpR op_eq_T (pv 1) (pe_strT [116] (by decide +kernel)) (nomark _))))) (pss_one (ps_ret (pe_strT [98,97,114] (by decide +kernel)))) pss_nil)
   (pss_cons (ps_if (PW.pt (pw_and (pt_cmpR op_eq_T (pe_ix ix_list (pv 0) pe_int (fun _ _=>rfl)) (pe_strT [119,111,114,100,115] (by decide +kernel)) (nomark _)) (pw_and (pt_cmpR op_ne_T (pv 1) (pe_strT [] (by decide +kernel)) (nomark _)) (pw_and1 (pt_cmpR op_eq_T (pv 1) (pe_op op_mul_T (pe_strT [116] (by decide +kernel)) (pe_callB call_len_T (by rfl) tt.b_len PySem.boot_len (pa_cons (pv 1) pa_nil))) (nomark _)))))) (pss_one (ps_ret (pe_strT [119,111,114,100,115] (by decide +kernel)))) pss_nil)
   (pss_one (ps_ret pe_non))))))),?_⟩
  (try rw [cxK2]);(try rw [cxK1])
  refine ⟨rfl,_,rfl,_,rfl,p,_,rfl,hS,fun c hc=>?_⟩
  rw [show cutV ((h::rt).map T) (some 1) none=rt.map T from cutV_from (ls:=h::rt) (k:=1) (by show 1<=rt.length+1;omega)]
  have s0:=same_upd (o:=.lst (rt.map T)) hc
  have hc':upd H c (.lst (rt.map T)) c=some (.lst (rt.map T)):=upd_same
  generalize upd H c (.lst (rt.map T))=G at s0 hc' ⊢
  have hrl':rt.length+1<=100000:=hrl
  refine ⟨c,rfl,⟨_,SqL.of hc'⟩,compG (fun v=>T (formOf (unT v))) (reads_list (SqL.of hc')) (by rw [List.length_map];omega) (fun v H1 hv s1 N hN=>?_) fun D H1 hD s1 hd=>?_⟩
  ·obtain ⟨x,hxm,rfl⟩:=List.mem_map.mp hv
   refine ⟨_,rfl,x,rfl,hx x (List.mem_cons_of_mem _ hxm),fun H2 s2=>?_⟩
   have:=hN H2 s2
   rwa [unT_T] at this
  rw [map_unT (f:=fun l=>T (formOf l)),show rt.map (fun l=>T (formOf l))=(rt.map formOf).map T by rw [List.map_map];rfl] at hd
  have hfl:=flat1 (ls:=rt) formOf form_len
  refine ⟨rfl,D,rt.map formOf,rfl,SqL.of hd,(by omega),?_⟩
  have e:(rt.map formOf).flatten=rowForm (h::rt):=rfl
  rw [e] at hfl ⊢
  have s2:=s0.trans s1
  have hS2:=s2.seq hS
  have q2:=q H1 s2
  have hat:atI ((h::rt).map T) 0=some (T h):=atI_nat (j:=0) rfl
  have hh:(h::rt).headD []=h:=rfl
  have ha:isAsk (h::rt)=((tabAt h asksD).isSome&&decide (rowForm (h::rt)∈(tabAt h asksD).getD [])):=by
   unfold isAsk
   rw [hh]
   cases tabAt h asksD <;> rfl
  unfold kindOf at q2
  rw [ha,hh] at q2
  generalize rowForm (h::rt)=fm at hfl q2 ⊢
  (try dsimp only [gName,tSeq,tIfS,tNext])
  refine tAnd_is (tabAt h asksD).isSome (decide (fm∈(tabAt h asksD).getD [])) (fun N hN=>⟨_,rfl,p,_,_,_,rfl,rfl,hS2,hat,h,ad.ASKS,asksD,rfl,rfl,tt.k_asks,_,rfl,hN⟩) (fun hb N hN=>?_) ?_
  ·obtain ⟨d,hd⟩:=Option.isSome_iff_exists.mp hb
   rw [hd] at hN
   refine ⟨_,rfl,_,rfl,p,_,_,_,rfl,rfl,hS2,hat,h,ad.ASKS,asksD,d,rfl,rfl,tt.k_asks,hd,fun b hb=>⟨b,_,rfl,.inr hb,rfl,flat_T d,_,rfl,?_⟩⟩
   show N (inV (T fm) (d.map T)) H1
   rw [inV_T]
   exact hN
  refine ite2 (fun h0=>?_) (fun h0=>?_)
  ·rw [if_pos h0] at q2
   exact q2
  rw [if_neg h0] at q2
  (try dsimp only [gName,tSeq,tIfS,tNext])
  refine tAnd_is (decide (h=[97,108,108])) (decide (fm=[110,110])) (fun N hN=>⟨_,rfl,p,_,_,_,rfl,rfl,hS2,hat,_,rfl,_,rfl,_,rfl,hN⟩) (fun _ N hN=>⟨_,rfl,_,rfl,_,rfl,_,rfl,hN⟩) ?_
  rw [<- Bool.decide_and]
  refine ite2 (fun h1=>?_) (fun h1=>?_)
  ·rw [if_pos (of_decide_eq_true h1)] at q2
   exact q2
  rw [if_neg fun z=>h1 (decide_eq_true z)] at q2
  (try dsimp only [gName,tSeq,tIfS,tNext])
  refine tAnd_is (decide (h=[98,97,114])) (decide (fm=[116])) (fun N hN=>⟨_,rfl,p,_,_,_,rfl,rfl,hS2,hat,_,rfl,_,rfl,_,rfl,hN⟩) (fun _ N hN=>⟨_,rfl,_,rfl,_,rfl,_,rfl,hN⟩) ?_
  rw [<- Bool.decide_and]
  refine ite2 (fun h2=>?_) (fun h2=>?_)
  ·rw [if_pos (of_decide_eq_true h2)] at q2
   exact q2
  rw [if_neg fun z=>h2 (decide_eq_true z)] at q2
  (try dsimp only [gName,tSeq,tIfS,tNext])
  refine tAnd_is (decide (h=[119,111,114,100,115])) (decide (fm≠[])&&decide (fm=Wd.rep fm.length [116])) (fun N hN=>⟨_,rfl,p,_,_,_,rfl,rfl,hS2,hat,_,rfl,_,rfl,_,rfl,hN⟩) (fun _ N hN=>?_) ?_
  ·refine tAnd_is (decide (fm≠[])) (decide (fm=Wd.rep fm.length [116])) (fun N hN=>⟨_,rfl,_,rfl,_,rfl,_,rfl,?_⟩) (fun _ N hN=>⟨_,rfl,_,rfl,fm,rfl,(by omega),_,rfl,fm.length,rfl,⟨by omega,by show fm.length*1<=sizeLine;omega⟩,_,rfl,_,rfl,_,rfl,hN⟩) hN
   rw [decide_not] at hN
   exact hN
  rw [<- Bool.decide_and,<- Bool.decide_and]
  refine ite2 (fun h3=>?_) (fun h3=>?_)
  ·rw [if_pos (of_decide_eq_true h3)] at q2
   exact q2
  rw [if_neg fun z=>h3 (decide_eq_true z)] at q2
  exact q2
def chain:List Nat->List (List (List Nat))->Bool
 | _,[]=>true
 | a,r::rs=>match kindOf r with
  | some k=>decide (a∈(tabAt k aheadD).getD [])&&chain k rs
  | none=>false
def RowsOk (rs:List (List (List Nat))):Prop:=rs.length<=100000∧∀ r∈rs,r≠[]∧r.length<=100000∧∀ x∈r,x.length<=100000
theorem lls_at {K:PySem.W.Frag}{H:Hp}{us:List (List (List Nat))}{bs:List Addr}(h:LLs K H us bs):∀ {i:Nat} {x:V},(bs.map V.ref)[i]?=some x->∃ b u,x = .ref b∧us[i]?=some u∧SqL K H b (u.map T):=by
 unfold LLs at h
 induction h with
 | nil=>intro i x hx;cases hx
 | cons a _ ih =>
  intro i x hx
  cases i with
  | zero=>obtain rfl:=Option.some.inj hx;exact ⟨_,_,rfl,rfl,a⟩
  | succ i=>exact ih hx
theorem lls_len {K:PySem.W.Frag}{H:Hp}{us:List (List (List Nat))}{bs:List Addr}(h:LLs K H us bs):us.length=bs.length:=by
 unfold LLs at h
 induction h with
 | nil=>rfl
 | cons a _ ih=>rw [List.length_cons,List.length_cons,ih]
def bad:List Nat->Nat->List (List (List Nat))->Nat
 | _,_,[]=>0
 | a,i,r::rs=>match kindOf r with
  | some k=>if a∈(tabAt k aheadD).getD [] then bad k (i+1) rs else i+1
  | none=>i+1
theorem bad_chain:∀ {rs:List (List (List Nat))} {a:List Nat} {i:Nat},bad a i rs=0->chain a rs=true
 | [],_,_,_=>rfl
 | r::rs,a,i,h=>by
  unfold bad at h
  unfold chain
  split at h
  ·rename_i k hk
   split at h
   ·rename_i hm
    rw [decide_eq_true hm,bad_chain h]
    rfl
   ·cases h
  ·cases h
theorem bad_at {rs:List (List (List Nat))}{a:List Nat}{i:Nat}{r:List (List Nat)}(hr:rs[i]?=some r):bad a i (rs.drop i)=match kindOf r with
  | some k=>if a∈(tabAt k aheadD).getD [] then bad k (i+1) (rs.drop (i+1)) else i+1
  | none=>i+1:=by
 have hi:=(List.getElem?_eq_some_iff.mp hr).1
 rw [List.drop_eq_getElem_cons hi,(List.getElem?_eq_some_iff.mp hr).2]
 rfl
theorem tab_d {o:Option (List Nat)}:(o.bind fun t=>tabAt t aheadD)=none->∀ k,o=some k->(tabAt k aheadD).getD []=[]:=fun h k e=>by
 subst e
 have h:tabAt k aheadD=none:=h
 rw [h]
 rfl
def spRowsX (K:PySem.W.Frag)(ad:Adr):Sp:=fun vs H Q E=>∃ (p:Addr) (bs:List Addr) (rs:List (List (List Nat))),vs=[.ref p]∧SqL K H p (bs.map V.ref)∧LLs K H rs bs∧RowsOk rs∧(bad [116,111,112] 0 rs=0->∀ H',Same H H'->Q .non H') ∧
 (bad [116,111,112] 0 rs≠0->∀ dx H',Same H H'->H' dx=some (.xd [("at",.int (bad [116,111,112] 0 rs:Nat))])->E (.ref ad.BadText) (some dx) H')
theorem ok_looked_rows {f:Addr}{fd:FuncData}(F:Fun K "looked_rows" "looked_rows" s_looked_rows f fd)(tt:Txt K mg ad)(C_BadText_init:Cxi P w K mg base "BadText" ad.BadText "at" 1 ["self", "words", "at"])(C_kind_of:Cal P w K mg base (CX2 P w) "kind_of" 4 ["row"] (spKind K)):FnOk P w K mg base (CX2 P w) 5 f fd ["rows"] (spRowsX K ad):=by
 refine F.okX2 sc_looked_rows (fun vs H Q E h=>?_) (fun cdv A outer s H vs Q E hr h=>?_)
 ·obtain ⟨p,bs,rs,rfl,_⟩:=h
  rfl
 ·obtain ⟨p,bs,rs,rfl,hS,hL,hok,q,qe⟩:=h
  have hs:sizeLine=16777216:=sizeLine_eq
  refine ⟨_,(pss_cons (ps_set (i:=1) sc_looked_rows.nd rfl (Or.inl rfl) (pe_strT [116,111,112] (by decide +kernel)))
   (pss_one (ps_for PassesOwn.leaving rfl (pi_enum1 (by rfl) tt.b_enumerate (pa_cons (pv 0) pa_nil)) (pg_tup rfl (pgs_cons (pg_name (i:=2) sc_looked_rows.nd rfl (Or.inl rfl)) (pgs_cons (pg_name (i:=3) sc_looked_rows.nd rfl (Or.inl rfl)) pgs_nil))) (pss_cons (ps_set (i:=4) sc_looked_rows.nd rfl (Or.inl rfl) (pe_cal C_kind_of hr pass2 (pa_cons (pv 3) pa_nil)))
   (pss_cons (ps_if (pt_cmpR op_notIn_seq (pv 1) (pe_tgetO (pe_glob (v:=.ref ad.AHEAD) (by rfl) tt.m_AHEAD rfl) (pv 4) (pe_tup pa_nil) ⟨rfl,rfl,rfl,rfl⟩) (by with_unfolding_all rfl)) (pss_one (ps_rai C_BadText_init ownX rfl hr (fun pins σ H s a dx I hx q=>raiseXI pins σ H s a dx I hx q) (pa_cons pe_str (pa_cons (pv 2) pa_nil)))) pss_nil)
   (pss_one (ps_set (i:=1) sc_looked_rows.nd rfl (Or.inl rfl) (pv 4)))))))),?_⟩
  (try rw [cxK2]);(try rw [cxK1])
  refine ⟨_,rfl,p,rfl,⟨_,hS⟩,?_⟩
  refine for_enum1 (K:=K) (a:=p) (xs:=bs.map V.ref) (fun i σ H2=>Same H H2∧∃ (a:List Nat) (v1 v2 v3:Option V),bad [116,111,112] 0 rs=bad a i (rs.drop i)∧σ=[some (.ref p),some (T a),v1,v2,v3]) ⟨Same.refl _,_,none,none,none,rfl,rfl⟩ (fun i σ H2 _ h=>h.1.seq hS) ?_ ?_
  ·rintro i x D σ H2 hx hD ⟨s2,a,v1,v2,v3,hc,rfl⟩
   obtain ⟨b,r,rfl,hr,hb⟩:=lls_at hL hx
   rw [bad_at hr] at hc
   obtain ⟨hne,hrl,hxl⟩:=hok.2 r (List.mem_of_getElem? hr)
   have t2:=same_upd (o:=.tup [.int ((i+1:Nat):Int),.ref b]) hD
   refine ⟨D,_,rfl,SqT.of upd_same,rfl,_,_,rfl,_,_,rfl,rfl,?_⟩
   refine ⟨_,rfl,b,r,rfl,(s2.trans t2).seq hb,hne,hrl,hxl,fun H3 s3=>?_⟩
   refine ⟨_,rfl,ad.AHEAD,aheadD,rfl,tt.k_ahead,_,rfl,(by show 0<=sizeLine;omega),fun e he=>⟨kindOf r,rfl,?_⟩⟩
   have sE:=same_upd (o:=.tup []) he
   have hE:upd H3 e (.tup []) e=some (.tup []):=upd_same
   generalize upd H3 e (.tup [])=H4 at sE hE ⊢
   have s4:=s2.trans (t2.trans (s3.trans sE))
   have fin:∀ n:Nat,bad [116,111,112] 0 rs=i+1->n=i+1->∀ d,H4 d=none->E (.ref ad.BadText) (some d) (upd H4 d (.xd [("at",.int (n:Nat))])):=fun n h1 h2 d hd=>qe (by omega) d _ (s4.trans (same_upd hd)) (by rw [upd_same,h1,h2])
   cases ho:(kindOf r).bind fun t=>tabAt t aheadD with
   | none =>
    have hbd:bad [116,111,112] 0 rs=i+1:=by
     rw [hc]
     split
     ·rename_i k hk
      rw [if_neg]
      rw [tab_d ho k hk]
      exact fun z=>by cases z
     ·rfl
    refine ⟨e,[],rfl,.inr (SqT.of hE),rfl,rfl,_,rfl,itP rfl ?_⟩
    exact ⟨_,rfl,_,_,rfl,fun d hd=>fin _ hbd rfl d hd⟩
   | some d =>
    obtain ⟨k,hk,hd⟩:=Option.bind_eq_some_iff.mp ho
    rw [hk] at hc
    have hc:bad [116,111,112] 0 rs=if a∈(tabAt k aheadD).getD [] then bad k (i+1) (rs.drop (i+1)) else i+1:=hc
    rw [show (tabAt k aheadD).getD []=d by rw [hd];rfl] at hc
    refine fun g hg=>⟨g,_,rfl,.inr hg,rfl,flat_T d,_,rfl,?_⟩
    rw [show inV (T a) (d.map T)=decide (a∈d) from inV_T]
    by_cases had:a∈d
    ·rw [if_pos had] at hc
     refine itN (by rw [decide_eq_true had];exact Bool.false_ne_true) ?_
     rw [hk]
     exact ⟨_,rfl,s4,k,_,_,_,hc,rfl⟩
    ·rw [if_neg had] at hc
     refine itP (by rw [decide_eq_false had];rfl) ?_
     exact ⟨_,rfl,_,_,rfl,fun d hd=>fin _ hc rfl d hd⟩
  ·rintro σ H2 ⟨s2,a,v1,v2,v3,hc,rfl⟩
   refine q ?_ H2 s2
   rw [hc,List.length_map,<- lls_len hL,List.drop_length]
   rfl
def spTotal:Sp:=fun vs H Q _=>∃ n k:Nat,vs=[.int (n:Nat),.int (k:Nat)]∧(n<=1000∧k<=1000)∧Q (.int ((k ^ n:Nat):Int)) H
theorem ok_word_total {f:Addr}{fd:FuncData}(F:Fun K "word_total" "word_total" s_word_total f fd)(tt:Txt K mg ad):FnOk P w K mg base (CX2 P w) 1 f fd ["length", "kinds"] spTotal:=by
 refine F.okN2 sc_word_total (fun vs H Q E h=>?_) (fun cdv A outer s H vs Q E hr h=>?_)
 ·obtain ⟨n,k,rfl,_⟩:=h
  rfl
 ·obtain ⟨n,k,rfl,hn,q⟩:=h
  refine ⟨_,(pss_cons (ps_set (i:=2) sc_word_total.nd rfl (Or.inl rfl) pe_int)
   (pss_cons (ps_for PassesOwn.never rfl (pi_range1 (by rfl) tt.b_range (pa_cons (pv 0) pa_nil)) (pg_name (i:=3) sc_word_total.nd rfl (Or.inl rfl)) (pss_one (ps_set (i:=2) sc_word_total.nd rfl (Or.inl rfl) (pe_op op_mul (pv 2) (pv 1)))))
   (pss_one (ps_ret (pv 2))))),?_⟩
  (try rw [cxK2]);(try rw [cxK1])
  refine ⟨_,rfl,_,rfl,by omega,by omega,?_⟩
  rw [Int.toNat_natCast]
  refine for_range (fun i σ H2=>H2=H∧∃ v,σ=[some (.int (n:Nat)),some (.int (k:Nat)),some (.int ((k ^ i:Nat):Int)),v]) ⟨rfl,none,rfl⟩ ?_ ?_
  ·rintro i σ H2 hi ⟨rfl,v,rfl⟩
   refine ⟨_,rfl,_,rfl,_,_,rfl,rfl,.inr ⟨by omega,by omega⟩,?_⟩
   refine ⟨rfl,some (.int (0+(i:Int))),?_⟩
   rw [Nat.pow_succ,Int.natCast_mul]
   rfl
  ·rintro σ H2 ⟨rfl,v,rfl⟩
   exact ⟨_,rfl,q⟩
def spSpell:Sp:=fun vs H Q _=>∃ N n k:Nat,vs=[.int (N:Nat),.int (n:Nat),.int (k:Nat)]∧(n<=1000∧1<=k∧k<=6)∧∀ H',Same H H'->Q (T (Wd.spell k n N)) H'
theorem ok_spelled {f:Addr}{fd:FuncData}(F:Fun K "spelled" "spelled" s_spelled f fd)(tt:Txt K mg ad):FnOk P w K mg base (CX2 P w) 1 f fd ["number", "length", "kinds"] spSpell:=by
 refine F.okN2 sc_spelled (fun vs H Q E h=>?_) (fun cdv A outer s H vs Q E hr h=>?_)
 ·obtain ⟨N,n,k,rfl,_⟩:=h
  rfl
 ·obtain ⟨N,n,k,rfl,hn,q⟩:=h
  have hs:sizeLine=16777216:=sizeLine_eq
  refine ⟨_,(pss_cons (ps_set (i:=3) sc_spelled.nd rfl (Or.inl rfl) (pe_lst pa_nil))
   (pss_cons (ps_set (i:=4) sc_spelled.nd rfl (Or.inl rfl) (pv 0))
   (pss_cons (ps_for PassesOwn.never rfl (pi_range1 (by rfl) tt.b_range (pa_cons (pv 1) pa_nil)) (pg_name (i:=5) sc_spelled.nd rfl (Or.inl rfl)) (pss_cons (ps_expr (pe_bm PySem.F.plainAttrs_list PySem.F.slot_list_append PySem.F.type_list_append mt_append (pv 3) (pa_cons (pe_ix ix_T (pe_glob (by rfl) tt.g_LETTERS tt.r_LETTERS) (pe_op op_mod (pv 4) (pv 2)) (fun _ _=>rfl)) pa_nil)))
   (pss_one (ps_set (i:=4) sc_spelled.nd rfl (Or.inl rfl) (pe_op op_fdiv (pv 4) (pv 2))))))
   (pss_one (ps_ret (pe_joinrev rfl (by rfl) tt.b_reversed (pv 3) (by decide +kernel))))))),?_⟩
  (try rw [cxK2]);(try rw [cxK1])
  refine ⟨(by show 0<=sizeLine;omega),fun D hD=>?_⟩
  refine ⟨_,rfl,?_⟩
  refine ⟨_,rfl,_,rfl,by omega,by omega,?_⟩
  rw [Int.toNat_natCast]
  refine for_range (fun i σ H2=>Same H H2∧H2 D=some (.lst (((List.range i).map fun j=>[97+N/k ^ j % k]).map T))∧∃ v,σ=[some (.int (N:Nat)),some (.int (n:Nat)),some (.int (k:Nat)),some (.ref D),some (.int ((N/k ^ i:Nat):Int)),v])
   ⟨(fun b o e=>by rw [upd_ne (ne_of_none e hD)];exact e),upd_same,none,by rw [Nat.pow_zero,Nat.div_one];rfl⟩ ?_ ?_
  ·rintro i σ H2 hi ⟨s2,hd,v,rfl⟩
   have hm:=Nat.mod_lt (N/k ^ i) (show 0<k by omega)
   have hat:atI [97,98,99,100,101,102] (((N/k ^ i:Nat):Int) % ((k:Nat):Int))=some (97+N/k ^ i % k):=by
    rw [<- Int.natCast_emod]
    exact atI_nat (abc6 (by omega))
   refine ⟨_,rfl,.inl ⟨rfl,_,SqL.of hd⟩,_,rfl,_,rfl,_,_,rfl,rfl,(by show (0:Int)<((k:Nat):Int);omega),_,rfl,_,rfl,(by show 6<=sizeLine;omega),_,hat,D,_,_,rfl,rfl,hd,(by rw [List.length_map,List.length_map,List.length_range];omega),?_⟩
   refine ⟨_,rfl,_,rfl,_,_,rfl,rfl,⟨by omega,by omega⟩,?_⟩
   refine ⟨(fun b o e=>by rw [upd_ne (ne_of_none e hD)];exact s2 b o e),?_,some (.int (0+(i:Int))),?_⟩
   ·rw [List.range_succ,List.map_append,List.map_append]
    exact upd_same
   ·rw [Nat.pow_succ,<- Nat.div_div_eq_div_mul,Int.natCast_ediv]
    rfl
  ·rintro σ H2 ⟨s2,hd,v,rfl⟩
   refine ⟨_,rfl,D,_,rfl,SqL.of hd,?_,?_⟩
   ·rw [ones_rev,List.length_map,List.length_range]
    omega
   ·rw [<- List.map_reverse,ones_rev,List.map_reverse,Wd.spell_rev]
    exact q H2 s2
def spAllX (ad:Adr):Sp:=fun vs H Q E=>∃ n k:Int,vs=[.int n,.int k]∧(¬ (1<=k∧k<=6)->E (.ref ad.BadKinds) none H)∧((1<=k∧k<=6)->¬ (1<=n∧n<=24)->E (.ref ad.BadWord) none H) ∧
 ∀ kn nn:Nat,k=(kn:Nat)->n=(nn:Nat)->(1<=kn∧kn<=6)->(1<=nn∧nn<=24)->(4096<kn ^ nn->E (.ref ad.TooMany) none H)∧(kn ^ nn<=4096->∀ D H',H D=none->Same H H'->H' D=some (.lst ((Wd.allW kn nn).map T))->Q (.ref D) H')
theorem ok_all_words {f:Addr}{fd:FuncData}(F:Fun K "all_words" "all_words" s_all_words f fd)(tt:Txt K mg ad)(C_looked_length:Cal P w K mg base (CX2 P w) "looked_length" 2 ["length", "kinds"] (spLenX ad))
  (C_word_total:Cal P w K mg base (CX2 P w) "word_total" 1 ["length", "kinds"] spTotal) (C_spelled:Cal P w K mg base (CX2 P w) "spelled" 1 ["number", "length", "kinds"] spSpell):FnOk P w K mg base (CX2 P w) 3 f fd ["length", "kinds"] (spAllX ad):=by
 refine F.okX2 sc_all_words (fun vs H Q E h=>?_) (fun cdv A outer s H vs Q E hr h=>?_)
 ·obtain ⟨n,k,rfl,_⟩:=h
  rfl
 ·obtain ⟨n,k,rfl,x1,x2,q⟩:=h
  have hs:sizeLine=16777216:=sizeLine_eq
  refine ⟨_,(pss_cons (ps_expr (pe_cal C_looked_length hr passX2 (pa_cons (pv 0) (pa_cons (pv 1) pa_nil))))
   (pss_cons (ps_set (i:=2) sc_all_words.nd rfl (Or.inl rfl) (pe_cal C_word_total hr pass2 (pa_cons (pv 0) (pa_cons (pv 1) pa_nil))))
   (pss_cons (ps_if (pt_cmpR op_gt (pv 2) (pe_glob (by rfl) tt.g_MOST_WORDS tt.r_MOST_WORDS) (nomark _)) (pss_one (ps_raise (E:=fun cls H'=>E cls none H') tt.x_TooMany rfl (fun _ _ _ _ _ _ _ I hx q=>raiseX2 I hx q) (pa_cons pe_str pa_nil))) pss_nil)
   (pss_one (ps_ret (pe_comp cs_all_words_0 rfl (pi_range1 (by rfl) tt.b_range (pa_cons (pv 2) pa_nil)) (fun cl C s' H' fp=>(pe_cal C_spelled hr pass2 (pa_cons (pv 0) (pa_cons (pv 1) (pa_cons (pv 2) pa_nil))))))))))),?_⟩
  (try rw [cxK2]);(try rw [cxK1])
  refine ⟨_,rfl,_,rfl,n,k,rfl,fun hk hn=>?_,x1,x2⟩
  obtain ⟨kn,rfl⟩:∃ kn:Nat,k=(kn:Nat):=⟨k.toNat,by omega⟩
  obtain ⟨nn,rfl⟩:∃ nn:Nat,n=(nn:Nat):=⟨n.toNat,by omega⟩
  obtain ⟨q1,q2⟩:=q kn nn rfl rfl ⟨by omega,by omega⟩ ⟨by omega,by omega⟩
  refine ⟨_,rfl,_,rfl,nn,kn,rfl,⟨by omega,by omega⟩,?_⟩
  refine ⟨_,rfl,_,_,rfl,rfl,_,rfl,?_⟩
  refine ite2 (fun h0=>?_) (fun h0=>?_)
  ·have h1:(4096:Int)<((kn ^ nn:Nat):Int):=of_decide_eq_true h0
   exact ⟨(by show 1<=sizeLine;omega),q1 (by omega)⟩
  ·have h1:¬ (4096:Int)<((kn ^ nn:Nat):Int):=fun z=>h0 (decide_eq_true z)
   refine ⟨_,rfl,_,rfl,by omega,by omega,?_⟩
   rw [Int.toNat_natCast]
   refine comp_range (lo:=0) (n:=kn ^ nn) (fun i=>T (Wd.spell kn nn i)) (by omega) (fun i H4 hi s4 N hN=>?_) fun D H4 hD s4 hd4=>?_
   ·exact ⟨_,rfl,_,rfl,_,rfl,i,nn,kn,congrArg (fun z=>[V.int z,V.int _,V.int _]) (Int.zero_add _),⟨by omega,by omega,by omega⟩,fun H5 s5=>hN H5 s5⟩
   ·exact q2 (by omega) D H4 hD s4 (by rw [hd4,Wd.allW,List.map_map];rfl)
def spSizeX (ad:Adr):Sp:=fun vs H Q E=>∃ n k:Int,vs=[.int n,.int k]∧(¬ (1<=k∧k<=6)->E (.ref ad.BadKinds) none H)∧((1<=k∧k<=6)->¬ (1<=n∧n<=8)->E (.ref ad.BadWord) none H) ∧
 ∀ kn nn:Nat,k=(kn:Nat)->n=(nn:Nat)->(1<=kn∧kn<=6)->(1<=nn∧nn<=8)->(64<kn ^ nn->E (.ref ad.TooMany) none H)∧(kn ^ nn<=64->Q .non H)
theorem ok_looked_size {f:Addr}{fd:FuncData}(F:Fun K "looked_size" "looked_size" s_looked_size f fd)(tt:Txt K mg ad)(C_looked_kinds:Cal P w K mg base (CX2 P w) "looked_kinds" 1 ["kinds"] (spKindsX ad))(C_word_total:Cal P w K mg base (CX2 P w) "word_total" 1 ["length", "kinds"] spTotal) :
  FnOk P w K mg base (CX2 P w) 2 f fd ["length", "kinds"] (spSizeX ad):=by
 refine F.okX2 sc_looked_size (fun vs H Q E h=>?_) (fun cdv A outer s H vs Q E hr h=>?_)
 ·obtain ⟨n,k,rfl,_⟩:=h
  rfl
 ·obtain ⟨n,k,rfl,x1,x2,q⟩:=h
  have hs:sizeLine=16777216:=sizeLine_eq
  refine ⟨_,(pss_cons (ps_expr (pe_cal C_looked_kinds hr passX2 (pa_cons (pv 1) pa_nil)))
   (pss_cons (ps_if (PW.pt (pw_or (pt_cmpR op_lt (pv 0) pe_int (nomark _)) (pw_or1 (pt_cmpR op_gt (pv 0) (pe_glob (by rfl) tt.g_LONGEST_OF_A_RULE tt.r_LONGEST_OF_A_RULE) (nomark _))))) (pss_one (ps_raise (E:=fun cls H'=>E cls none H') tt.x_BadWord rfl (fun _ _ _ _ _ _ _ I hx q=>raiseX2 I hx q) (pa_cons pe_str pa_nil))) pss_nil)
   (pss_one (ps_if (pt_cmpR op_gt (pe_cal C_word_total hr pass2 (pa_cons (pv 0) (pa_cons (pv 1) pa_nil))) (pe_glob (by rfl) tt.g_MOST_OF_A_RULE tt.r_MOST_OF_A_RULE) (nomark _)) (pss_one (ps_raise (E:=fun cls H'=>E cls none H') tt.x_TooMany rfl (fun _ _ _ _ _ _ _ I hx q=>raiseX2 I hx q) (pa_cons pe_str pa_nil))) pss_nil)))),?_⟩
  (try rw [cxK2]);(try rw [cxK1])
  refine ⟨_,rfl,k,rfl,fun hk=>?_,x1⟩
  refine ⟨_,rfl,_,_,rfl,rfl,_,rfl,?_⟩
  refine ite2 (fun h0=>iteT ?_) (fun h0=>?_)
  ·have h1:n<1:=of_decide_eq_true h0
   exact ⟨(by show 1<=sizeLine;omega),x2 hk fun z=>by omega⟩
  have h1:¬ n<1:=fun z=>h0 (decide_eq_true z)
  refine ⟨_,rfl,_,_,rfl,rfl,_,rfl,?_⟩
  refine ite2 (fun h2=>?_) (fun h2=>?_)
  ·have h3:(8:Int)<n:=of_decide_eq_true h2
   exact ⟨(by show 1<=sizeLine;omega),x2 hk fun z=>by omega⟩
  have h3:¬ (8:Int)<n:=fun z=>h2 (decide_eq_true z)
  obtain ⟨kn,rfl⟩:∃ kn:Nat,k=(kn:Nat):=⟨k.toNat,by omega⟩
  obtain ⟨nn,rfl⟩:∃ nn:Nat,n=(nn:Nat):=⟨n.toNat,by omega⟩
  obtain ⟨q1,q2⟩:=q kn nn rfl rfl ⟨by omega,by omega⟩ ⟨by omega,by omega⟩
  refine ⟨_,rfl,_,rfl,nn,kn,rfl,⟨by omega,by omega⟩,_,_,rfl,rfl,_,rfl,?_⟩
  refine ite2 (fun h4=>?_) (fun h4=>?_)
  ·have h5:(64:Int)<((kn ^ nn:Nat):Int):=of_decide_eq_true h4
   exact ⟨(by show 1<=sizeLine;omega),q1 (by omega)⟩
  ·have h5:¬ (64:Int)<((kn ^ nn:Nat):Int):=fun z=>h4 (decide_eq_true z)
   exact q2 (by omega)
def stirZ (c k:Int):Int:=(c % 1000000007*48271+(k+1)*(k+1)*69621) % 2147483647*((c % 1000000007*48271+(k+1)*(k+1)*69621) % 2147483647) % 2147483629
def spStir:Sp:=fun vs H Q _=>∃ (c k:Int),vs=[.int c,.int k]∧(0<=k∧k<=1000)∧Q (.int (stirZ c k)) H
theorem ok__law_stir {f:Addr}{fd:FuncData}(F:Fun K "_law_stir" "_law_stir" s__law_stir f fd)(tt:Txt K mg ad):FnOk P w K mg base (CX2 P w) 1 f fd ["cell", "k"] spStir:=by
 refine F.okN2 sc__law_stir (fun vs H Q E h=>?_) (fun cdv A outer s H vs Q E hr h=>?_)
 ·obtain ⟨c,k,rfl,_⟩:=h
  rfl
 ·obtain ⟨c,k,rfl,hk,q⟩:=h
  refine ⟨_,(pss_cons (ps_set (i:=2) sc__law_stir.nd rfl (Or.inl rfl) (pe_op op_mod (pe_op op_add (pe_op op_mul (pe_op op_mod (pv 0) pe_int) pe_int) (pe_op op_mul (pe_op op_mul (pe_op op_add (pv 1) pe_int) (pe_op op_add (pv 1) pe_int)) pe_int)) pe_int))
   (pss_one (ps_ret (pe_op op_mod (pe_op op_mul (pv 2) (pv 2)) pe_int)))),?_⟩
  (try rw [cxK2]);(try rw [cxK1])
  refine ⟨_,rfl,_,_,rfl,rfl,(by show (0:Int)<1000000007;decide),_,_,rfl,rfl,.inr ⟨by decide,by decide⟩,_,rfl,_,_,rfl,rfl,_,rfl,_,_,rfl,rfl,_,_,rfl,rfl,.inl ⟨by omega,by omega⟩,_,_,rfl,rfl,.inr ⟨by decide,by decide⟩,_,_,rfl,rfl,_,_,rfl,rfl,(by show (0:Int)<2147483647;decide),?_⟩
  dsimp only
  have h1:=Int.emod_nonneg (c % 1000000007*48271+(k+1)*(k+1)*69621) (show (2147483647:Int)≠0 by decide)
  have h2:=Int.emod_lt_of_pos (c % 1000000007*48271+(k+1)*(k+1)*69621) (show (0:Int)<2147483647 by decide)
  unfold stirZ at q
  exact ⟨_,rfl,_,rfl,_,_,rfl,rfl,.inl ⟨by omega,by omega⟩,_,_,rfl,rfl,(by show (0:Int)<2147483629;decide),q⟩
def toldW (rs:List (List (List Nat))):List (List Nat):=(rs.filter fun r=>decide (r.headD []=[119,111,114,100,115])).flatMap (·.drop 1)
theorem toldW_snoc {rs:List (List (List Nat))}{i:Nat}{r:List (List Nat)}(h:rs[i]?=some r):toldW (rs.take (i+1))=toldW (rs.take i)++if r.headD []=[119,111,114,100,115] then r.drop 1 else []:=by
 unfold toldW
 rw [List.take_add_one,h,List.filter_append,List.flatMap_append]
 congr 1
 show (([r].filter _).flatMap _)=_
 by_cases hw:r.headD []=[119,111,114,100,115]
 ·rw [List.filter_cons,if_pos (decide_eq_true hw),if_pos hw]
  simp
 ·rw [List.filter_cons,if_neg (by rw [decide_eq_false hw];exact Bool.false_ne_true),if_neg hw]
  rfl
theorem toldW_le {rs:List (List (List Nat))}(i:Nat):(toldW (rs.take i)).length<=(toldW rs).length:=by
 have e:toldW rs=toldW (rs.take i)++toldW (rs.drop i):=by
  unfold toldW
  rw [<- List.flatMap_append,<- List.filter_append,List.take_append_drop]
 rw [e,List.length_append]
 exact Nat.le_add_right _ _
def numV (a:List Nat):Nat:=PySem.NumText.digitsVal a
open PySem.NumText in
theorem num_read {a:List Nat}(h:isNum a=true):PySem.intText? (tx a)=some ((numV a:Nat):Int)∧a.length<=60:=by
 unfold isNum madeOf at h
 rw [Bool.and_eq_true,Bool.and_eq_true,Bool.and_eq_true] at h
 obtain ⟨⟨h1,h2,h3⟩,_⟩:=h
 have h1:=of_decide_eq_true h1
 have h2:=of_decide_eq_true h2
 have hc:(tx a).cps.toList=a:=by rw [tx_cps]
 have e:=intText_digits (x:=tx a) (by
  rw [hc]
  intro c hc
  have:=of_decide_eq_true (List.all_eq_true.mp h3 c hc)
  have hz:∀ x∈figs,48<=x∧x<=57:=by decide
  exact hz c this) (by rw [hc];exact List.length_pos_iff.mp h1) (by rw [tx_len];omega)
 rw [hc] at e
 exact ⟨e,h2⟩
theorem form_num {w:List Nat}(h:formOf w=[110]):isNum w=true:=by
 unfold formOf at h
 split at h
 ·assumption
 ·split at h <;> cases h
theorem all_three {r:List (List Nat)}{rs:List (List (List Nat))}(h:chain [116,111,112] (r::rs)=true)(hh:r.headD []=[97,108,108]):∃ a b,r=[[97,108,108],a,b]∧isNum a=true∧isNum b=true:=by
 have ha:isAsk r=false:=by
  unfold isAsk
  rw [hh]
  rfl
 unfold chain at h
 split at h
 ·rename_i k hk
  unfold kindOf at hk
  rw [ha,hh,if_neg Bool.false_ne_true] at hk
  split at hk
  ·rename_i hf
   cases r with
   | nil=>cases hh
   | cons x rt =>
    obtain rfl:x=[97,108,108]:=hh
    have hf:(rt.map formOf).flatten=[110,110]:=hf.2
    have hl:=flat1 (ls:=rt) formOf form_len
    rw [hf] at hl
    match rt,hf,hl with
    | [a,b],hf,_ =>
     have la:=form_len a
     have lb:=form_len b
     rw [List.map_cons,List.map_cons,List.flatten_cons,List.flatten_cons] at hf
     have e1:formOf a=[110]:=by
      have:=congrArg (List.take 1) hf
      rw [List.take_append_of_le_length (by omega),List.take_of_length_le (by omega)] at this
      exact this
     rw [e1] at hf
     have e2:formOf b=[110]:=by
      have:=(List.cons.inj hf).2
      simpa using this
     exact ⟨a,b,rfl,form_num e1,form_num e2⟩
  ·rw [if_neg (fun z=>by cases z.1),if_neg (fun z=>by cases z.1)] at hk
   cases hk
 ·cases h
def sizeO (n k:Nat):Nat:=if ¬ (1<=k∧k<=6) then 1 else if ¬ (1<=n∧n<=8) then 2 else if 64<k ^ n then 3 else 0
def toldE (rs:List (List (List Nat))):Nat:=if (rs.headD []).headD []=[97,108,108] then sizeO (numV ((rs.headD []).getD 1 [])) (numV ((rs.headD []).getD 2 [])) else 0
def toldL (rs:List (List (List Nat))):List (List Nat):=if (rs.headD []).headD []=[97,108,108] then Wd.allW (numV ((rs.headD []).getD 2 [])) (numV ((rs.headD []).getD 1 [])) else toldW rs
def Refd (ad:Adr)(E:XK)(H:Hp)(o:Nat):Prop:=(o=1->∀ H',Same H H'->E (.ref ad.BadKinds) none H')∧(o=2->∀ H',Same H H'->E (.ref ad.BadWord) none H')∧(o=3->∀ H',Same H H'->E (.ref ad.TooMany) none H')
def spToldX (K:PySem.W.Frag)(ad:Adr):Sp:=fun vs H Q E=>∃ (p:Addr) (bs:List Addr) (rs:List (List (List Nat))),vs=[.ref p]∧SqL K H p (bs.map V.ref)∧LLs K H rs bs∧RowsOk rs∧rs≠[]∧chain [116,111,112] rs=true∧(toldW rs).length<=100000∧Refd ad E H (toldE rs) ∧
 (toldE rs=0->∀ D H',Same H H'->H' D=some (.lst ((toldL rs).map T))->Q (.ref D) H')
theorem ok_told_words {f:Addr}{fd:FuncData}(F:Fun K "told_words" "told_words" s_told_words f fd)(tt:Txt K mg ad)(C_looked_size:Cal P w K mg base (CX2 P w) "looked_size" 2 ["length", "kinds"] (spSizeX ad))(C_all_words:Cal P w K mg base (CX2 P w) "all_words" 3 ["length", "kinds"] (spAllX ad)):FnOk P w K mg base (CX2 P w) 4 f fd ["rows"] (spToldX K ad):=by
 refine F.okX2 sc_told_words (fun vs H Q E h=>?_) (fun cdv A outer s H vs Q E hr h=>?_)
 ·obtain ⟨p,bs,rs,rfl,_⟩:=h
  rfl
 ·obtain ⟨p,bs,rs,rfl,hS,hL,hok,hne,hch,hlen,qe,q⟩:=h
  have hs:sizeLine=16777216:=sizeLine_eq
  refine ⟨_,(pss_cons (ps_if (pt_cmpR op_eq_T (pe_ix ix_list (pe_ix ix_list (pv 0) pe_int (fun _ _=>rfl)) pe_int (fun _ _=>rfl)) (pe_strT [97,108,108] (by decide +kernel)) (nomark _)) (pss_cons (ps_set (i:=1) sc_told_words.nd rfl (Or.inl rfl) (pe_callTy call_intT (by rfl) tt.b_int (by decide +kernel) (pa_cons (pe_ix ix_list (pe_ix ix_list (pv 0) pe_int (fun _ _=>rfl)) pe_int (fun _ _=>rfl)) pa_nil)))
   (pss_cons (ps_set (i:=2) sc_told_words.nd rfl (Or.inl rfl) (pe_callTy call_intT (by rfl) tt.b_int (by decide +kernel) (pa_cons (pe_ix ix_list (pe_ix ix_list (pv 0) pe_int (fun _ _=>rfl)) pe_int (fun _ _=>rfl)) pa_nil)))
   (pss_cons (ps_expr (pe_cal C_looked_size hr passX2 (pa_cons (pv 1) (pa_cons (pv 2) pa_nil))))
   (pss_one (ps_ret (pe_cal C_all_words hr passX2 (pa_cons (pv 1) (pa_cons (pv 2) pa_nil)))))))) pss_nil)
   (pss_cons (ps_set (i:=3) sc_told_words.nd rfl (Or.inl rfl) (pe_lst pa_nil))
   (pss_cons (ps_for PassesOwn.leaving rfl (pi_list (pv 0)) (pg_name (i:=4) sc_told_words.nd rfl (Or.inl rfl)) (pss_one (ps_if (pt_cmpR op_eq_T (pe_ix ix_list (pv 4) pe_int (fun _ _=>rfl)) (pe_strT [119,111,114,100,115] (by decide +kernel)) (nomark _)) (pss_one (ps_expr (pe_bm PySem.F.plainAttrs_list PySem.F.slot_list_extend PySem.F.type_list_extend mt_extend (pv 3) (pa_cons (pe_slice sl_list (pv 4) (po_some pe_int) po_none) pa_nil)))) pss_nil)))
   (pss_one (ps_ret (pv 3)))))),?_⟩
  (try rw [cxK2]);(try rw [cxK1])
  obtain ⟨r0,rs',rfl⟩:∃ r rs',rs=r::rs':=by cases rs with | nil=>exact absurd rfl hne | cons a b=>exact ⟨a,b,rfl⟩
  obtain ⟨b0,bs',rfl⟩:∃ b bs',bs=b::bs':=by have:=lls_len hL;cases bs with | nil=>cases this | cons a b=>exact ⟨a,b,rfl⟩
  obtain ⟨b1,r1,e1,e2,hb0⟩:=lls_at hL (i:=0) rfl
  cases e1
  cases e2
  have ha0:atI ((b0::bs').map V.ref) 0=some (.ref b0):=atI_nat (j:=0) rfl
  obtain ⟨h0ne,_⟩:=hok.2 r0 (List.mem_cons_self ..)
  obtain ⟨h,rt,rfl⟩:∃ h rt,r0=h::rt:=by cases r0 with | nil=>exact absurd rfl h0ne | cons a b=>exact ⟨a,b,rfl⟩
  have hat:atI ((h::rt).map T) 0=some (T h):=atI_nat (j:=0) rfl
  refine ⟨_,rfl,p,_,_,_,rfl,rfl,hS,ha0,b0,_,_,_,rfl,rfl,hb0,hat,_,rfl,_,rfl,_,rfl,?_⟩
  by_cases hno:h=[97,108,108]
  ·obtain ⟨a,b,e,hna,hkb⟩:=all_three hch hno
   obtain ⟨rfl,rfl⟩:h=[97,108,108]∧rt=[a,b]:=⟨(List.cons.inj e).1,(List.cons.inj e).2⟩
   obtain ⟨hna,hal⟩:=num_read hna
   obtain ⟨hkb,hbl⟩:=num_read hkb
   have hE:toldE (([[97,108,108],a,b])::rs')=sizeO (numV a) (numV b):=rfl
   have hLs:toldL (([[97,108,108],a,b])::rs')=Wd.allW (numV b) (numV a):=rfl
   rw [hE] at q qe
   rw [hLs] at q
   generalize numV a=n at hna q qe
   generalize numV b=k at hkb q qe
   refine itP (decide_eq_true rfl) ?_
   refine ⟨_,rfl,p,_,_,_,rfl,rfl,hS,ha0,b0,_,_,_,rfl,rfl,hb0,atI_nat (j:=1) rfl,a,_,rfl,(by omega),hna,?_⟩
   refine ⟨_,rfl,p,_,_,_,rfl,rfl,hS,ha0,b0,_,_,_,rfl,rfl,hb0,atI_nat (j:=2) rfl,b,_,rfl,(by omega),hkb,?_⟩
   unfold sizeO at q qe
   refine ⟨_,rfl,_,rfl,_,_,rfl,fun z=>?_,fun z0 z=>?_,fun kn nn ek en hk hn=>?_⟩
   ·rw [if_pos (fun y=>z ⟨by omega,by omega⟩)] at qe
    exact qe.1 rfl H (Same.refl _)
   ·rw [if_neg (fun y=>y ⟨by omega,by omega⟩),if_pos (fun y=>z ⟨by omega,by omega⟩)] at qe
    exact qe.2.1 rfl H (Same.refl _)
   obtain rfl:k=kn:=by omega
   obtain rfl:n=nn:=by omega
   rw [if_neg (fun y=>y hk),if_neg (fun y=>y hn)] at q qe
   refine ⟨fun z=>?_,fun hkn=>?_⟩
   ·rw [if_pos z] at qe
    exact qe.2.2 rfl H (Same.refl _)
   rw [if_neg (by omega)] at q
   refine ⟨_,rfl,_,rfl,_,_,rfl,fun z=>absurd ⟨by omega,by omega⟩ z,fun _ z=>absurd ⟨by omega,by omega⟩ z,fun kn nn ek en _ _=>?_⟩
   obtain rfl:k=kn:=by omega
   obtain rfl:n=nn:=by omega
   exact ⟨fun z=>absurd hkn (by omega),fun _ D H' _ s1 hd=>q rfl D H' s1 hd⟩
  ·have hno':¬ h=[97,108,108]:=hno
   have hE:toldE ((h::rt)::rs')=0:=if_neg hno'
   have hLs:toldL ((h::rt)::rs')=toldW ((h::rt)::rs'):=if_neg hno'
   rw [hLs] at q
   refine itN (by rw [decide_eq_false hno'];exact Bool.false_ne_true) ?_
   refine ⟨(by show 0<=sizeLine;omega),fun D hD=>?_⟩
   have s0:=same_upd (o:=.lst []) hD
   have hd0:upd H D (.lst []) D=some (.lst []):=upd_same
   generalize upd H D (.lst [])=G at s0 hd0 ⊢
   refine ⟨_,rfl,p,rfl,⟨_,s0.seq hS⟩,?_⟩
   refine for_list (K:=K) (a:=p) (xs:=(b0::bs').map V.ref) (fun i σ H2=>Same H H2∧H2 D=some (.lst ((toldW (((h::rt)::rs').take i)).map T))∧∃ v:Option V,σ=[some (.ref p),none,none,some (.ref D),v]) ⟨s0,hd0,none,rfl⟩ (fun i σ H2 _ h=>h.1.seq hS) ?_ ?_
   ·rintro i x σ H2 hx ⟨s2,hd2,v,rfl⟩
    obtain ⟨b,r,rfl,hr',hb⟩:=lls_at hL hx
    obtain ⟨hrne,hrl,_⟩:=hok.2 r (List.mem_of_getElem? hr')
    have et:=toldW_snoc hr'
    have hle:=toldW_le (rs:=(h::rt)::rs') (i+1)
    obtain ⟨h2,rt2,rfl⟩:∃ h rt,r=h::rt:=by cases r with | nil=>exact absurd rfl hrne | cons a b=>exact ⟨a,b,rfl⟩
    refine ⟨_,rfl,b,_,_,_,rfl,rfl,s2.seq hb,atI_nat (j:=0) rfl,_,rfl,_,rfl,_,rfl,?_⟩
    refine ite2 (fun z0=>?_) (fun z0=>?_)
    ·rw [if_pos (show (h2::rt2).headD []=_ from of_decide_eq_true z0)] at et
     refine ⟨_,rfl,.inl ⟨rfl,_,SqL.of hd2⟩,_,rfl,_,rfl,b,_,rfl,s2.seq hb,fun c hc=>?_⟩
     rw [show cutV ((h2::rt2).map T) (some 1) none=rt2.map T from cutV_from (ls:=h2::rt2) (k:=1) (by show 1<=rt2.length+1;omega)]
     have s3:=same_upd (o:=.lst (rt2.map T)) hc
     have hc':upd H2 c (.lst (rt2.map T)) c=some (.lst (rt2.map T)):=upd_same
     generalize upd H2 c (.lst (rt2.map T))=G3 at s3 hc' ⊢
     rw [et,List.length_append,show (h2::rt2).drop 1=rt2 from rfl] at hle
     refine ⟨D,c,_,_,rfl,rfl,s3 D _ hd2,hc',(by rw [List.length_map,List.length_map];omega),fun e o z=>?_,?_,_,rfl⟩
     ·rw [upd_ne (ne_of_none z hD)]
      exact s3 e o (s2 e o z)
     ·rw [upd_same,et,List.map_append]
      rfl
    ·rw [if_neg (show ¬ (h2::rt2).headD []=_ from fun z=>z0 (decide_eq_true z)),List.append_nil] at et
     exact ⟨s2,by rw [et];exact hd2,_,rfl⟩
   ·rintro σ H2 ⟨s2,hd2,v,rfl⟩
    rw [List.length_map,<- lls_len hL,List.take_length] at hd2
    exact ⟨_,rfl,q hE D H2 s2 hd2⟩
def pageRows (t:List Nat):List (List (List Nat)):=(spl 10 t).map (spl 32)
def sub (a b:List Nat):Bool:=!(Builtin.Str.occurrences (tx b) (tx a) 0 (tx b).length 1).isEmpty
def barsOf (rs:List (List (List Nat))):List (List Nat):=(rs.filter fun r=>decide (r.headD []=[98,97,114])).map fun r=>r.getD 1 []
def keptW (rs:List (List (List Nat)))(ws:List (List Nat)):List (List Nat):=ws.filter fun w=>!(barsOf rs).any fun b=>sub b w
theorem bar_two:∀ {rs:List (List (List Nat))} {a:List Nat},chain a rs=true->∀ r∈rs,r.headD []=[98,97,114]->2<=r.length
 | [],_,_,r,hr,_=>by cases hr
 | r0::rs,a,h,r,hr,hb=>by
  unfold chain at h
  split at h
  ·rename_i k hk
   rw [Bool.and_eq_true] at h
   rcases List.mem_cons.mp hr with rfl | hr
   ·rcases Nat.lt_or_ge r.length 2 with z | z
    ·exfalso
     have hf:rowForm r=[]:=by
      unfold rowForm
      rw [List.drop_eq_nil_of_le (by omega)]
      rfl
     have ha:isAsk r=false:=by
      unfold isAsk
      rw [hb]
      rfl
     unfold kindOf at hk
     rw [ha,hb,hf] at hk
     simp at hk
    ·exact z
   ·exact bar_two h.2 r hr hb
  ·cases h
def unL (H:Hp)(v:V):List (List Nat):=(rdL H v).map unT
theorem unL_at {H:Hp}{b:Addr}{u:List (List Nat)}(h:H b=some (.lst (u.map T))):unL H (.ref b)=u:=by
 unfold unL
 rw [rdL_at h,List.map_map]
 exact (List.map_congr_left fun x _=>unT_T x).trans (List.map_id _)
theorem rows_read {H:Hp}{rs:List (List (List Nat))}{bs:List Addr}(h:Dt.R2 (fun r b=>H b=some (.lst (r.map T))) rs bs){α:Type}(p:List (List Nat)->Bool)(f:List (List Nat)->α):(((bs.map V.ref).filter fun v=>p (unL H v)).map fun v=>f (unL H v))=(rs.filter p).map f:=by
 induction h with
 | nil=>rfl
 | @cons r b rs bs h _ ih =>
  rw [List.map_cons,List.filter_cons,List.filter_cons,unL_at h]
  cases hp:p r with
  | true=>rw [if_pos rfl,if_pos rfl,List.map_cons,List.map_cons,unL_at h,ih]
  | false=>rw [if_neg Bool.false_ne_true,if_neg Bool.false_ne_true,ih]
theorem spl_len (c:Nat):∀ (t:List Nat),∀ x∈spl c t,x.length<=t.length
 | [],x,hx=>by
  rcases List.mem_singleton.mp hx with rfl
  exact Nat.le_refl _
 | a::t,x,hx=>by
  have ih:=spl_len c t
  unfold spl at hx
  split at hx
  ·rcases List.mem_cons.mp hx with rfl | hx
   ·exact Nat.zero_le _
   ·exact Nat.le_succ_of_le (ih x hx)
  ·split at hx
   ·rename_i h r e
    rcases List.mem_cons.mp hx with rfl | hx
    ·exact Nat.succ_le_succ (ih h (by rw [e];exact List.mem_cons_self ..))
    ·exact Nat.le_succ_of_le (ih x (by rw [e];exact List.mem_cons_of_mem _ hx))
   ·rcases List.mem_singleton.mp hx with rfl
    exact Nat.succ_le_succ (Nat.zero_le _)
theorem r2_rows {H H':Hp}{D:Addr}{ls:List (List Nat)}{bs:List Addr}(h:Dt.R2 (fun v b=>b≠D∧H b=none∧H' b=some (.lst ((spl 32 (unT v)).map T))) (ls.map T) bs):Dt.R2 (fun r b=>H' b=some (.lst (r.map T))) (ls.map (spl 32)) bs:=by
 induction ls generalizing bs with
 | nil=>cases h;exact .nil
 | cons x ls ih =>
  cases h with
  | cons a r=>exact .cons (by have:=a.2.2;rwa [unT_T] at this) (ih r)
theorem r2_lls {K:PySem.W.Frag}{H:Hp}{rs:List (List (List Nat))}{bs:List Addr}(h:Dt.R2 (fun r b=>H b=some (.lst (r.map T))) rs bs):LLs K H rs bs:=by
 unfold LLs
 induction h with
 | nil=>exact .nil
 | cons a _ ih=>exact .cons (SqL.of a) ih
theorem r2_same {H G:Hp}{rs:List (List (List Nat))}{bs:List Addr}(h:Dt.R2 (fun r b=>H b=some (.lst (r.map T))) rs bs)(s:Same H G):Dt.R2 (fun r b=>G b=some (.lst (r.map T))) rs bs:=by
 induction h with
 | nil=>exact .nil
 | cons a _ ih=>exact .cons (s _ _ a) ih
theorem r2_mem {H:Hp}{rs:List (List (List Nat))}{bs:List Addr}(h:Dt.R2 (fun r b=>H b=some (.lst (r.map T))) rs bs){v:V}(hv:v∈bs.map V.ref):∃ b r,v = .ref b∧r∈rs∧H b=some (.lst (r.map T)):=by
 induction h with
 | nil=>cases hv
 | cons a _ ih =>
  rcases List.mem_cons.mp hv with rfl | hv
  ·exact ⟨_,_,rfl,List.mem_cons_self ..,a⟩
  ·obtain ⟨b,r,e,hr,hb⟩:=ih hv
   exact ⟨b,r,e,List.mem_cons_of_mem _ hr,hb⟩
theorem spl_cnt (c:Nat):∀ t:List Nat,(spl c t).length<=t.length+1
 | []=>Nat.le_refl _
 | a::t=>by
  have ih:=spl_cnt c t
  unfold spl
  split
  ·rw [List.length_cons,List.length_cons];omega
  ·split
   ·rename_i h r e
    rw [e,List.length_cons] at ih
    rw [List.length_cons,List.length_cons];omega
   ·rw [List.length_singleton];omega
theorem spl_sum (c:Nat):∀ t:List Nat,((spl c t).map fun l=>l.length+1).sum=t.length+1
 | []=>rfl
 | a::t=>by
  have ih:=spl_sum c t
  obtain ⟨h,r,e⟩:=spl_ne c t
  unfold spl
  split
  ·rw [List.map_cons,List.sum_cons,ih,List.length_cons,List.length_nil];omega
  ·rw [e] at ih ⊢
   dsimp only
   rw [List.map_cons,List.sum_cons] at ih ⊢
   rw [List.length_cons,List.length_cons];omega
theorem page_cnt (t:List Nat):(pageRows t).flatten.length<=t.length+1:=by
 rw [<- spl_sum 10 t]
 unfold pageRows
 generalize spl 10 t=ls
 induction ls with
 | nil=>exact Nat.zero_le _
 | cons a ls ih =>
  rw [List.map_cons,List.flatten_cons,List.length_append,List.map_cons,List.sum_cons]
  have:=spl_cnt 32 a
  omega
theorem told_cnt:∀ rs:List (List (List Nat)),(toldW rs).length<=rs.flatten.length
 | []=>Nat.le_refl _
 | r::rs=>by
  have ih:=told_cnt rs
  unfold toldW at ih ⊢
  rw [List.filter_cons,List.flatten_cons,List.length_append]
  split
  ·rw [List.flatMap_cons,List.length_append,List.length_drop];omega
  ·omega
theorem told_mem {rs:List (List (List Nat))}{x:List Nat}(h:x∈toldW rs):∃ r∈rs,x∈r:=by
 unfold toldW at h
 obtain ⟨r,hr,hx⟩:=List.mem_flatMap.mp h
 exact ⟨r,(List.mem_filter.mp hr).1,List.mem_of_mem_drop hx⟩
theorem page_in {t:List Nat}{r:List (List Nat)}(hr:r∈pageRows t):r≠[]∧r.length<=t.length+1∧∀ x∈r,x.length<=t.length:=by
 unfold pageRows at hr
 obtain ⟨l,hl,rfl⟩:=List.mem_map.mp hr
 have h1:=spl_len 10 t l hl
 obtain ⟨h,r,e⟩:=spl_ne 32 l
 refine ⟨by rw [e];exact fun z=>(by cases z),Nat.le_trans (spl_cnt 32 l) (by omega),fun x hx=>Nat.le_trans (spl_len 32 l x hx) h1⟩
theorem page_ok {t:List Nat}(h:t.length<=900):RowsOk (pageRows t):=by
 refine ⟨?_,fun r hr=>?_⟩
 ·unfold pageRows
  rw [List.length_map]
  have:=spl_cnt 10 t
  omega
 ·obtain ⟨h1,h2,h3⟩:=page_in hr
  exact ⟨h1,by omega,fun x hx=>by have:=h3 x hx;omega⟩
def webO (ls:List (List Nat)):Nat:=if 64<ls.length then 3 else @ite _ (IsWeb ls) (Classical.propDecidable _) 0 2
def pageO (rs:List (List (List Nat))):Nat:=if toldE rs≠0 then toldE rs else webO (keptW rs (toldL rs))
theorem sizeO_ok {n k:Nat}(h:sizeO n k=0):(1<=k∧k<=6)∧(1<=n∧n<=8)∧k ^ n<=64:=by
 unfold sizeO at h
 split at h
 ·cases h
 ·split at h
  ·cases h
  ·split at h
   ·cases h
   ·rename_i h1 h2 h3
    exact ⟨Classical.not_not.mp h1,Classical.not_not.mp h2,by omega⟩
theorem kept_small {t:List Nat}(ht:t.length<=900)(h0:toldE (pageRows t)=0):(toldL (pageRows t)).length<=1000∧Small (keptW (pageRows t) (toldL (pageRows t))):=by
 have key:(toldL (pageRows t)).length<=1000∧∀ x∈toldL (pageRows t),x.length<=1000:=by
  unfold toldL
  unfold toldE at h0
  split
  ·rename_i hh
   rw [if_pos hh] at h0
   obtain ⟨h1,h2,h3⟩:=sizeO_ok h0
   refine ⟨by rw [Wd.allW_len];omega,fun x hx=>?_⟩
   have:=((Wd.mem_allW h1.1).mp hx).1
   omega
  ·refine ⟨?_,fun x hx=>?_⟩
   ·have h1:=told_cnt (pageRows t)
    have h2:=page_cnt t
    omega
   ·obtain ⟨r,hr,hx⟩:=told_mem hx
    have:=(page_in hr).2.2 x hx
    omega
 refine ⟨key.1,?_,fun x hx=>key.2 x (List.mem_filter.mp hx).1⟩
 exact Nat.le_trans (List.length_filter_le ..) key.1
def spReadX (K:PySem.W.Frag)(C:Addr)(ad:Adr):Sp:=fun vs H Q E=>∃ t:List Nat,vs=[T t]∧t.length<=900∧(bad [116,111,112] 0 (pageRows t)≠0->∀ dx H',Same H H'->H' dx=some (.xd [("at",.int (bad [116,111,112] 0 (pageRows t):Nat))])->E (.ref ad.BadText) (some dx) H') ∧
 (bad [116,111,112] 0 (pageRows t)=0->Refd ad E H (pageO (pageRows t))) ∧
 (bad [116,111,112] 0 (pageRows t)=0->pageO (pageRows t)=0->∀ (R x tp D:Addr) (n:Nat) (ms:List (List Nat)) (H':Hp),Same H H'->H' R=some (.tup [.ref x,.ref D])->WebAt C H' x tp n ms->ms.Perm (keptW (pageRows t) (toldL (pageRows t)))->Q (.ref R) H')
theorem ok_read_page {f:Addr}{fd:FuncData}(F:Fun K "read_page" "read_page" s_read_page f fd)(tt:Txt K mg ad)(C_looked_rows:Cal P w K mg base (CX2 P w) "looked_rows" 5 ["rows"] (spRowsX K ad))(C_told_words:Cal P w K mg base (CX2 P w) "told_words" 4 ["rows"] (spToldX K ad))(C_Web_init:Cam P w K mg base (CX2 P w) "Web" ad.Web 5 ["self", "words"] (spWebI K ad.Web ad)):FnOk P w K mg base (CX2 P w) 7 f fd ["text"] (spReadX K ad.Web ad):=by
 refine F.okX2 sc_read_page (fun vs H Q E h=>?_) (fun cdv A outer s H vs Q E hr h=>?_)
 ·obtain ⟨t,rfl,_⟩:=h
  rfl
 ·obtain ⟨t,rfl,ht,qb,qe,q⟩:=h
  have hok:=page_ok ht
  have hsm:=kept_small ht
  have hcnt:=Nat.le_trans (told_cnt (pageRows t)) (page_cnt t)
  have hs:sizeLine=16777216:=sizeLine_eq
  refine ⟨_,(pss_cons (ps_setComp (i:=1) cs_read_page_0 rfl (pi_list (pe_bm PySem.F.plainAttrs_str PySem.F.slot_str_split PySem.F.type_str_split mt_split (pv 0) (pa_cons (pe_strT [10] (by decide +kernel)) pa_nil))) (fun cl C s' H' fp=>(pe_bmK K rfl PySem.F.plainAttrs_str PySem.F.slot_str_split PySem.F.type_str_split mt_split (pv 0) (pa_cons (pe_strT [32] (by decide +kernel)) pa_nil))) sc_read_page.nd rfl rfl)
   (pss_cons (ps_expr (pe_cal C_looked_rows hr passX2 (pa_cons (pv 1) pa_nil)))
   (pss_cons (ps_set (i:=2) sc_read_page.nd rfl (Or.inr rfl) (pe_compf cs_read_page_1 rfl (pi_list (pv 1)) (fun cl C s' H' fp=>(pt_cmpR op_eq_T (pe_ix (ix_list_K K rfl) (pv 0) pe_int (fun _ _=>rfl)) (pe_strT [98,97,114] (by decide +kernel)) (nomark _))) (fun cl C s' H' fp=>(pe_ix (ix_list_K K rfl) (pv 0) pe_int (fun _ _=>rfl)))))
   (pss_cons (ps_setCompfC (i:=3) cs_read_page_2 rfl (pi_list (pe_cal C_told_words hr passX2 (pa_cons (pv 1) pa_nil))) (fun cl C s' H' fp=>(pt_not (pt_val (pe_callB (call_anyK K rfl rfl) (by rfl) tt.b_any PyProof.Rows.boot_any (pa_cons (pe_comp cs_read_page_3 rfl (pi_listK K rfl (pv 3)) (fun cl C s' H' fp=>(pe_cmpR op_in_str (pv 0) (pv 1) (by with_unfolding_all rfl)))) pa_nil))))) (fun cl C s' H' fp=>(pv 0)) sc_read_page.nd rfl rfl)
   (pss_one (ps_ret (pe_tup (pa_cons (pe_mak C_Web_init hr passX2 (pa_cons (pv 3) pa_nil)) (pa_cons (pe_compf cs_read_page_4 rfl (pi_list (pv 1)) (fun cl C s' H' fp=>(pt_cmpR (op_in_tabK K rfl) (pe_ix (ix_list_K K rfl) (pv 0) pe_int (fun _ _=>rfl)) (pe_glob (v:=.ref ad.ASKS) (by rfl) tt.m_ASKS rfl) (by with_unfolding_all rfl))) (fun cl C s' H' fp=>(pe_callTy (call_tupleK K rfl) (by rfl) tt.b_tuple (by decide +kernel) (pa_cons (pv 0) pa_nil)))) pa_nil))))))))),?_⟩
  (try rw [cxK2]);(try rw [cxK1])
  refine ⟨_,rfl,rfl,t,10,rfl,rfl,(by omega),(by omega),fun D0 hD0=>?_⟩
  have s0:=same_upd (o:=.lst ((spl 10 t).map T)) hD0
  have hd0:upd H D0 (.lst ((spl 10 t).map T)) D0=some (.lst ((spl 10 t).map T)):=upd_same
  generalize upd H D0 (.lst ((spl 10 t).map T))=H0 at s0 hd0 ⊢
  have hrl:(spl 10 t).length<=100000:=by have:=hok.1;unfold pageRows at this;rwa [List.length_map] at this
  refine ⟨D0,rfl,⟨_,SqL.of hd0⟩,compL (fun v=>(spl 32 (unT v)).map T) (reads_list (SqL.of hd0)) (by rw [List.length_map];omega) (fun v H1 hv s1 N hN=>?_) fun D bs H1 hD s1 hd hR=>?_⟩
  ·obtain ⟨x,hx,rfl⟩:=List.mem_map.mp hv
   have:=spl_len 10 t x hx
   refine ⟨_,rfl,rfl,x,32,rfl,rfl,(by omega),(by omega),fun c hc=>hN c _ (same_upd hc) hc ?_⟩
   rw [upd_same,unT_T]
  have hrs:=r2_rows hR
  rw [show (spl 10 t).map (spl 32)=pageRows t from rfl] at hrs
  generalize hpr:pageRows t=rs at hok hsm hcnt qb qe q hrs
  have hne:rs≠[]:=by
   obtain ⟨h,r,e⟩:=spl_ne 10 t
   rw [<- hpr]
   unfold pageRows
   rw [e]
   exact fun z=>by cases z
  have s2:=s0.trans s1
  refine ⟨_,rfl,D,bs,rs,rfl,SqL.of hd,r2_lls hrs,hok,fun hb0 H2 s3=>?_,fun hb dx H2 s3 hdx=>qb hb dx H2 (s2.trans s3) hdx⟩
  have hch:=bad_chain hb0
  have qe:=qe hb0
  have q:=q hb0
  have hrs:=r2_same hrs s3
  have hd:=s3 D _ hd
  have hbl:=(lls_len (K:=K) (r2_lls hrs))
  have hrl2:=hok.1
  refine ⟨_,rfl,D,rfl,⟨_,SqL.of hd⟩,compFG (fun v=>decide ((unL H2 v).headD []=[98,97,114])) (fun v=>T ((unL H2 v).getD 1 [])) (reads_list (SqL.of hd)) (by rw [List.length_map];omega) (fun v H3 hv s4 N hN=>?_) (fun v H3 hv hp s4 N hN=>?_) fun D3 H3 hD3 s4 hd3=>?_⟩
  ·obtain ⟨b,r,rfl,hr1,hb⟩:=r2_mem hrs hv
   have:=hN H3 (Same.refl _)
   rw [unL_at hb] at this
   obtain ⟨h,rt,rfl⟩:∃ h rt,r=h::rt:=by have:=(hok.2 r hr1).1;cases r with | nil=>exact absurd rfl this | cons a b=>exact ⟨a,b,rfl⟩
   exact ⟨_,rfl,b,_,_,_,rfl,rfl,SqL.of (s4 b _ hb),atI_nat (j:=0) rfl,_,rfl,_,rfl,_,rfl,this⟩
  ·obtain ⟨b,r,rfl,hr1,hb⟩:=r2_mem hrs hv
   have hN:=hN H3 (Same.refl _)
   rw [unL_at hb] at hN hp
   have h2:=bar_two hch r hr1 (of_decide_eq_true hp)
   refine ⟨_,rfl,b,_,_,_,rfl,rfl,SqL.of (s4 b _ hb),atI_nat (j:=1) (by rw [List.getElem?_map,List.getElem?_eq_getElem (show 1<r.length by omega)];rfl),?_⟩
   rw [List.getD_eq_getElem?_getD,List.getElem?_eq_getElem (show 1<r.length by omega)] at hN
   exact hN
  rw [rows_read hrs (fun r=>decide (r.headD []=[98,97,114])) (fun r=>T (r.getD 1 [])),show (rs.filter fun r=>decide (r.headD []=[98,97,114])).map (fun r=>T (r.getD 1 []))=(barsOf rs).map T by unfold barsOf;rw [List.map_map];rfl] at hd3
  have hrs:=r2_same hrs s4
  have hd:=s4 D _ hd
  have hbal:(barsOf rs).length<=100000:=by
   unfold barsOf
   rw [List.length_map]
   exact Nat.le_trans (List.length_filter_le ..) hrl2
  have s2d:=s2.trans (s3.trans s4)
  have hpo:toldE rs≠0->pageO rs=toldE rs:=fun z=>if_pos z
  refine ⟨_,rfl,D,bs,rs,rfl,SqL.of hd,r2_lls hrs,hok,hne,hch,(by omega),⟨fun z G sG=>qe.1 ((hpo (by omega)).trans z) G (s2d.trans sG),fun z G sG=>qe.2.1 ((hpo (by omega)).trans z) G (s2d.trans sG),fun z G sG=>qe.2.2 ((hpo (by omega)).trans z) G (s2d.trans sG)⟩,fun hE0 D4 H4 s5 hd4=>?_⟩
  obtain ⟨hwl,hsmall⟩:=hsm hE0
  have hpo2:pageO rs=webO (keptW rs (toldL rs)):=if_neg (fun z=>z hE0)
  generalize toldL rs=ws at hd4 hwl hsmall hpo2 q
  refine ⟨D4,rfl,⟨_,SqL.of hd4⟩,compFG (fun v=>!(barsOf rs).any fun b=>sub b (unT v)) (fun v=>v) (reads_list (SqL.of hd4)) (by rw [List.length_map];omega) (fun v H5 hv s6 N hN=>?_) (fun v H5 hv hp s6 N hN=>⟨_,rfl,hN H5 (Same.refl _)⟩) fun D6 H5 hD6 s6 hd6=>?_⟩
  ·obtain ⟨x,hx,rfl⟩:=List.mem_map.mp hv
   have hb5:=s6 D3 _ (s5 D3 _ hd3)
   refine ⟨_,rfl,D3,rfl,⟨_,SqL.of hb5⟩,compG (fun u=>.bl (sub (unT u) x)) (reads_list (SqL.of hb5)) (by rw [List.length_map];omega) (fun u H6 hu s7 N2 hN2=>?_) fun D7 H6 hD7 s7 hd7=>?_⟩
   ·obtain ⟨y,hy,rfl⟩:=List.mem_map.mp hu
    have:=hN2 H6 (Same.refl _)
    rw [unT_T] at this
    exact ⟨_,rfl,_,rfl,tx y,tx x,rfl,rfl,this⟩
   ·rw [map_unT (f:=fun u=>V.bl (sub u x)),show (barsOf rs).map (fun u=>V.bl (sub u x))=((barsOf rs).map fun u=>sub u x).map V.bl by rw [List.map_map];rfl] at hd7
    refine ⟨D7,_,rfl,SqL.of hd7,_,rfl,?_⟩
    have:=hN H6 s7
    rw [unT_T] at this
    rw [List.any_map]
    exact this
  have ek:(((ws.map T).filter fun v=>!(barsOf rs).any fun b=>sub b (unT v)).map fun v=>v)=(keptW rs ws).map T:=by
   rw [List.map_id',List.filter_map]
   congr 1
  rw [ek] at hd6
  have s7:=s3.trans (s4.trans (s5.trans s6))
  have hrs:=r2_same hrs (s5.trans s6)
  have hd:=s6 D _ (s5 D _ hd)
  refine ⟨_,rfl,?_⟩
  intro x dx nx ndx nex
  have s8:Same H5 (upd (upd H5 dx (.own x)) x (.ins ad.Web dx [])):=fun b o e=>by
   rw [upd_ne (ne_of_none e nx),upd_ne (ne_of_none e ndx)]
   exact e
  have s28:=(s2.trans s7).trans s8
  refine ⟨x,dx,D6,_,rfl,upd_same,SqL.of (s8 D6 _ hd6),hsmall,fun h64=>qe.2.2 (by rw [hpo2];unfold webO;rw [if_pos h64]) _ s28,fun h64 hnw G sG=>qe.2.1 (by rw [hpo2];unfold webO;rw [if_neg (by omega),if_neg hnw]) G (s28.trans sG),fun n tp ms H6 hW hpm hpw k2 hx2 ht2=>⟨rfl,?_⟩⟩
  have hp0:pageO rs=0:=by rw [hpo2];unfold webO;rw [if_neg (by have:=hW.2.1;omega),if_pos ⟨n,hW⟩]
  have s9:Same H5 H6:=fun b o e=>k2 b o (s8 b o e) (ne_of_none e nx)
  have hrs:=r2_same hrs s9
  have hd:=s9 D _ hd
  refine ⟨_,rfl,D,rfl,⟨_,SqL.of hd⟩,compFO (fun v=>(tabAt ((unL H6 v).headD []) asksD).isSome) (fun v=>.tup ((unL H6 v).map T)) (reads_list (SqL.of hd)) (by rw [List.length_map];omega) (fun v H7 hv s10 N hN=>?_) (fun v H7 hv hp s10 N hN=>?_) fun D8 as H7 hD8 s10 hd8 hR8=>?_⟩
  ·obtain ⟨b,r,rfl,hr1,hb⟩:=r2_mem hrs hv
   have:=hN H7 (Same.refl _)
   rw [unL_at hb] at this
   obtain ⟨h,rt,rfl⟩:∃ h rt,r=h::rt:=by have:=(hok.2 r hr1).1;cases r with | nil=>exact absurd rfl this | cons a b=>exact ⟨a,b,rfl⟩
   exact ⟨_,rfl,b,_,_,_,rfl,rfl,SqL.of (s10 b _ hb),atI_nat (j:=0) rfl,h,ad.ASKS,asksD,rfl,rfl,tt.k_asks,_,rfl,this⟩
  ·obtain ⟨b,r,rfl,hr1,hb⟩:=r2_mem hrs hv
   refine ⟨_,rfl,b,_,rfl,SqL.of (s10 b _ hb),fun c hc=>hN c _ (same_upd hc) hc ?_⟩
   rw [upd_same,unL_at hb]
  refine ⟨(by show 2<=sizeLine;omega),fun R hR'=>?_⟩
  have s11:=same_upd (o:=.tup [.ref x,.ref D8]) hR'
  exact q hp0 R x tp D8 n ms _ (s2.trans (s7.trans (s9.trans (s10.trans s11)))) upd_same (WebAt.on ⟨⟨dx,hx2⟩,ht2⟩ (s10.trans s11)) hpm
theorem if_join2 {c:Prop}[Decidable c]{A:Prop}{N:St->Hp->Prop}{σ:St}{G1:Hp}(S:St->Hp->Prop)(h1:∀ σ G,S σ G->N σ G)(hA:c->(∀ σ G,S σ G->N σ G)->A)(hB:¬ c->S σ G1):if c then A else N σ G1:=by
 by_cases h:c
 ·rw [if_pos h];exact hA h h1
 ·rw [if_neg h];exact h1 _ _ (hB h)
def nameO (o:Nat):List Nat:=match o with | 0=>[102,105,110,101] | 1=>[107,105,110,100,115] | 2=>[119,111,114,100] | _=>[109,97,110,121]
def hearN (t:List Nat):List Nat:=if bad [116,111,112] 0 (pageRows t)≠0 then [116,101,120,116] else nameO (pageO (pageRows t))
def hearC (t:List Nat):Nat:=if bad [116,111,112] 0 (pageRows t)=0∧pageO (pageRows t)=0 then (keptW (pageRows t) (toldL (pageRows t))).length else 0
def spHeard9:Sp:=fun vs H Q _=>∃ t:List Nat,vs=[T t]∧t.length<=900∧∀ (p:Addr) (H':Hp),Same H H'->H' p=some (.tup [T (hearN t),.int (hearC t:Nat)])->Q (.ref p) H'
theorem ok__law_heard {f:Addr}{fd:FuncData}(F:Fun K "_law_heard" "_law_heard" s__law_heard f fd)(tt:Txt K mg ad)(C_read_page:Cal P w K mg base (CX2 P w) "read_page" 7 ["text"] (spReadX K ad.Web ad)):FnOk P w K mg base (CX2 P w) 8 f fd ["text"] spHeard9:=by
 refine F.okX2 sc__law_heard (fun vs H Q E h=>?_) (fun cdv A outer s H vs Q E hr h=>?_)
 ·obtain ⟨t,rfl,_⟩:=h
  rfl
 ·obtain ⟨t,rfl,ht,q⟩:=h
  have hs:sizeLine=16777216:=sizeLine_eq
  refine ⟨_,(pss_cons (ps_set (i:=1) sc__law_heard.nd rfl (Or.inl rfl) (pe_tup (pa_cons (pe_strT [102,105,110,101] (by decide +kernel)) (pa_cons pe_int pa_nil))))
   (pss_cons (ps_try2 ownX (py_set2 (i:=1) sc__law_heard.nd rfl (Or.inl rfl) (pex_pair2 (pe_strT [102,105,110,101] (by decide +kernel)) (pex_callB2 call_len_seq (by rfl) tt.b_len PySem.boot_len (pex_fld2 (pex_ix2 ix_tup (pex_cal2 C_read_page hr (pa_cons (pv 0) pa_nil)) pe_int (fun _ _=>rfl)) rfl)))) (ph_as2H (i:=2) tt.m_OnceError sc__law_heard.nd rfl rfl (fun a=>(pss_cons (ps_set (i:=3) sc__law_heard.nd rfl (Or.inl rfl) (pe_lst (pa_cons (pe_callB (call_isinstD K rfl) (by rfl) tt.b_isinstance PyProof.Rows.boot_isinstance (pa_cons (pv 2) (pa_cons (pe_glob (v:=.ref ad.BadKinds) (by rfl) tt.m_BadKinds rfl) pa_nil))) (pa_cons (pe_callB (call_isinstD K rfl) (by rfl) tt.b_isinstance PyProof.Rows.boot_isinstance (pa_cons (pv 2) (pa_cons (pe_glob (v:=.ref ad.BadWord) (by rfl) tt.m_BadWord rfl) pa_nil))) (pa_cons (pe_callB (call_isinstD K rfl) (by rfl) tt.b_isinstance PyProof.Rows.boot_isinstance (pa_cons (pv 2) (pa_cons (pe_glob (v:=.ref ad.TooMany) (by rfl) tt.m_TooMany rfl) pa_nil))) (pa_cons (pe_callB (call_isinstD K rfl) (by rfl) tt.b_isinstance PyProof.Rows.boot_isinstance (pa_cons (pv 2) (pa_cons (pe_glob (v:=.ref ad.BadText) (by rfl) tt.m_BadText rfl) pa_nil))) pa_nil))))))
   (pss_cons (ps_set (i:=1) sc__law_heard.nd rfl (Or.inl rfl) (pe_tup (pa_cons (pe_strT [111,116,104,101,114] (by decide +kernel)) (pa_cons pe_int pa_nil))))
   (pss_cons (ps_if (pt_val (pe_callB (call_isinstDs K rfl) (by rfl) tt.b_isinstance PyProof.Rows.boot_isinstance (pa_cons (pv 2) (pa_cons (pe_tup (pa_cons (pe_glob (v:=.ref ad.NotOne) (by rfl) tt.m_NotOne rfl) (pa_cons (pe_glob (v:=.ref ad.NoSuch) (by rfl) tt.m_NoSuch rfl) (pa_cons (pe_glob (v:=.ref ad.NoRing) (by rfl) tt.m_NoRing rfl) (pa_cons (pe_glob (v:=.ref ad.BadRule) (by rfl) tt.m_BadRule rfl) (pa_cons (pe_glob (v:=.ref ad.BadDeed) (by rfl) tt.m_BadDeed rfl) pa_nil)))))) pa_nil)))) (pss_one (ps_set (i:=3) sc__law_heard.nd rfl (Or.inl rfl) (pe_lst pa_nil))) pss_nil)
   (pss_one (ps_if (pt_cmpR op_eq_I (pe_callB (call_len_K K rfl) (by rfl) tt.b_len PySem.boot_len (pa_cons (pe_compfH (e:=a) cs__law_heard_0 rfl (pi_listH (e:=a) K rfl (pv 3)) (fun cl C s' H' fp=>(pt_val (pv 0))) (fun cl C s' H' fp=>(pv 0))) pa_nil)) pe_int (nomark _)) (pss_one (ps_set (i:=1) sc__law_heard.nd rfl (Or.inl rfl) (pe_tup (pa_cons (pe_ix (ix_list_K K rfl) (pe_lst (pa_cons (pe_strT [107,105,110,100,115] (by decide +kernel)) (pa_cons (pe_strT [119,111,114,100] (by decide +kernel)) (pa_cons (pe_strT [109,97,110,121] (by decide +kernel)) (pa_cons (pe_strT [116,101,120,116] (by decide +kernel)) pa_nil))))) (pe_bmK K rfl PySem.F.plainAttrs_list PySem.F.slot_list_index PySem.F.type_list_index (mt_indexK K rfl) (pv 3) (pa_cons pe_bl pa_nil)) (fun _ _=>rfl)) (pa_cons pe_int pa_nil))))) pss_nil)))))) ph_nil2))
   (pss_one (ps_ret (pv 1))))),?_⟩
  (try rw [cxK2]);(try rw [cxK1])
  refine ⟨(by show 2<=sizeLine;omega),fun p0 hp0=>?_⟩
  have s0:=same_upd (o:=.tup [T [102,105,110,101],.int 0]) hp0
  generalize upd H p0 (.tup [T [102,105,110,101],.int 0])=H0 at s0 ⊢
  refine ⟨_,rfl,t,rfl,ht,fun h0 dx H1 s1 hdx=>?_,fun h0=>⟨fun ho H1 s1=>?_,fun ho H1 s1=>?_,fun ho H1 s1=>?_⟩,fun h0 ho R x tp D n ms H1 s1 hR hW hpm=>?_⟩
  ·refine .inl ⟨tt.o_T,fun a hna=>?_⟩
   have t1:=same_upd (o:=ExD a (.ref ad.BadText) (some dx)) hna
   have hA:upd H1 a (ExD a (.ref ad.BadText) (some dx)) a=some (ExD a (.ref ad.BadText) (some dx)):=upd_same
   generalize upd H1 a (ExD a (.ref ad.BadText) (some dx))=H2 at t1 hA ⊢
   refine ⟨_,rfl,a,ad.BadText,(some dx),.ref ad.BadKinds,.ref ad.BadKinds,false,rfl,rfl,hA,tt.n_BadText,tt.c_TK,_,rfl,a,ad.BadText,(some dx),.ref ad.BadWord,.ref ad.BadWord,false,rfl,rfl,hA,tt.n_BadText,tt.c_TW,_,rfl,a,ad.BadText,(some dx),.ref ad.TooMany,.ref ad.TooMany,false,rfl,rfl,hA,tt.n_BadText,tt.c_TM,_,rfl,a,ad.BadText,(some dx),.ref ad.BadText,.ref ad.BadText,true,rfl,rfl,hA,tt.n_BadText,tt.c_TT,(by show 4<=sizeLine;omega),fun p1 hp1=>?_⟩
   have t2:=same_upd (o:=.lst [.bl false,.bl false,.bl false,.bl true]) hp1
   have l2:upd H2 p1 (.lst [.bl false,.bl false,.bl false,.bl true]) p1=some (.lst [.bl false,.bl false,.bl false,.bl true]):=upd_same
   generalize upd H2 p1 (.lst [.bl false,.bl false,.bl false,.bl true])=H3 at t2 l2 ⊢
   refine ⟨(by show 2<=sizeLine;omega),fun p2 hp2=>?_⟩
   have t3:=same_upd (o:=.tup [T [111,116,104,101,114],.int 0]) hp2
   generalize upd H3 p2 (.tup [T [111,116,104,101,114],.int 0])=H4 at t3 ⊢
   refine ⟨_,rfl,(by show 5<=sizeLine;omega),fun u hu=>?_⟩
   have t4:=same_upd (o:=.tup [.ref ad.NotOne,.ref ad.NoSuch,.ref ad.NoRing,.ref ad.BadRule,.ref ad.BadDeed]) hu
   refine ⟨a,ad.BadText,u,(some dx),[ad.NotOne,ad.NoSuch,ad.NoRing,ad.BadRule,ad.BadDeed],false,rfl,upd_same,t4 _ _ (t3 _ _ (t2 _ _ hA)),tt.n_BadText,tt.a_T,_,rfl,itN Bool.false_ne_true ?_⟩
   generalize upd H4 u (.tup [.ref ad.NotOne,.ref ad.NoSuch,.ref ad.NoRing,.ref ad.BadRule,.ref ad.BadDeed])=H5 at t4 ⊢
   have l5:=t4 _ _ (t3 _ _ l2)
   refine ⟨_,rfl,p1,rfl,⟨_,SqL.of l5⟩,compFG (fun v=>eqV v (.bl true)) (fun v=>v) (reads_listH (SqL.of l5) (t4 _ _ (t3 _ _ (t2 _ _ hA)))) (by show 4<=sizeLine;omega) (fun v G hv sG N hN=>?_) (fun v G hv hp sG N hN=>⟨_,rfl,hN G (Same.refl _)⟩) fun D6 H6 hD6 s6 hd6=>?_⟩
   ·have:=hN G (Same.refl _)
    have hv2:v = .bl true∨v = .bl false:=by simp at hv;rcases hv with h | h <;> simp_all
    rcases hv2 with rfl | rfl
    ·exact ⟨_,rfl,_,rfl,this⟩
    ·exact ⟨_,rfl,_,rfl,this⟩
   refine ⟨D6,_,rfl,.inl (SqL.of hd6),_,rfl,_,rfl,_,rfl,itP (by decide) ?_⟩
   refine ⟨(by show 4<=sizeLine;omega),fun p3 hp3=>?_⟩
   have t7:=same_upd (o:=.lst [T [107,105,110,100,115],T [119,111,114,100],T [109,97,110,121],T [116,101,120,116]]) hp3
   have l7:upd H6 p3 (.lst [T [107,105,110,100,115],T [119,111,114,100],T [109,97,110,121],T [116,101,120,116]]) p3=some (.lst [T [107,105,110,100,115],T [119,111,114,100],T [109,97,110,121],T [116,101,120,116]]):=upd_same
   generalize upd H6 p3 (.lst [T [107,105,110,100,115],T [119,111,114,100],T [109,97,110,121],T [116,101,120,116]])=H7 at t7 l7 ⊢
   have l8:=t7 _ _ (s6 _ _ l5)
   refine ⟨_,rfl,.inl ⟨rfl,_,SqL.of l8⟩,p1,_,.bl true,.bl true,3,rfl,rfl,SqL.of l8,rfl,rfl,rfl,rfl,?_,p3,_,_,T [116,101,120,116],rfl,rfl,SqL.of l7,atI_nat (j:=3) rfl,(by show 2<=sizeLine;omega),fun p4 hp4=>?_⟩
   ·intro i z hi hz
    match i,hi with
    | 0,_=>cases hz;rfl
    | 1,_=>cases hz;rfl
    | 2,_=>cases hz;rfl
   refine ⟨_,rfl,q p4 _ (s0.trans (s1.trans (t1.trans (t2.trans (t3.trans (t4.trans (s6.trans (t7.trans (same_upd hp4))))))))) ?_⟩
   rw [upd_same]
   unfold hearN hearC
   rw [if_pos h0,if_neg (fun z=>h0 z.1)]
   rfl
  ·refine .inl ⟨tt.o_K,fun a hna=>?_⟩
   have t1:=same_upd (o:=ExD a (.ref ad.BadKinds) none) hna
   have hA:upd H1 a (ExD a (.ref ad.BadKinds) none) a=some (ExD a (.ref ad.BadKinds) none):=upd_same
   generalize upd H1 a (ExD a (.ref ad.BadKinds) none)=H2 at t1 hA ⊢
   refine ⟨_,rfl,a,ad.BadKinds,none,.ref ad.BadKinds,.ref ad.BadKinds,true,rfl,rfl,hA,tt.n_BadKinds,tt.c_KK,_,rfl,a,ad.BadKinds,none,.ref ad.BadWord,.ref ad.BadWord,false,rfl,rfl,hA,tt.n_BadKinds,tt.c_KW,_,rfl,a,ad.BadKinds,none,.ref ad.TooMany,.ref ad.TooMany,false,rfl,rfl,hA,tt.n_BadKinds,tt.c_KM,_,rfl,a,ad.BadKinds,none,.ref ad.BadText,.ref ad.BadText,false,rfl,rfl,hA,tt.n_BadKinds,tt.c_KT,(by show 4<=sizeLine;omega),fun p1 hp1=>?_⟩
   have t2:=same_upd (o:=.lst [.bl true,.bl false,.bl false,.bl false]) hp1
   have l2:upd H2 p1 (.lst [.bl true,.bl false,.bl false,.bl false]) p1=some (.lst [.bl true,.bl false,.bl false,.bl false]):=upd_same
   generalize upd H2 p1 (.lst [.bl true,.bl false,.bl false,.bl false])=H3 at t2 l2 ⊢
   refine ⟨(by show 2<=sizeLine;omega),fun p2 hp2=>?_⟩
   have t3:=same_upd (o:=.tup [T [111,116,104,101,114],.int 0]) hp2
   generalize upd H3 p2 (.tup [T [111,116,104,101,114],.int 0])=H4 at t3 ⊢
   refine ⟨_,rfl,(by show 5<=sizeLine;omega),fun u hu=>?_⟩
   have t4:=same_upd (o:=.tup [.ref ad.NotOne,.ref ad.NoSuch,.ref ad.NoRing,.ref ad.BadRule,.ref ad.BadDeed]) hu
   refine ⟨a,ad.BadKinds,u,none,[ad.NotOne,ad.NoSuch,ad.NoRing,ad.BadRule,ad.BadDeed],false,rfl,upd_same,t4 _ _ (t3 _ _ (t2 _ _ hA)),tt.n_BadKinds,tt.a_K,_,rfl,itN Bool.false_ne_true ?_⟩
   generalize upd H4 u (.tup [.ref ad.NotOne,.ref ad.NoSuch,.ref ad.NoRing,.ref ad.BadRule,.ref ad.BadDeed])=H5 at t4 ⊢
   have l5:=t4 _ _ (t3 _ _ l2)
   refine ⟨_,rfl,p1,rfl,⟨_,SqL.of l5⟩,compFG (fun v=>eqV v (.bl true)) (fun v=>v) (reads_listH (SqL.of l5) (t4 _ _ (t3 _ _ (t2 _ _ hA)))) (by show 4<=sizeLine;omega) (fun v G hv sG N hN=>?_) (fun v G hv hp sG N hN=>⟨_,rfl,hN G (Same.refl _)⟩) fun D6 H6 hD6 s6 hd6=>?_⟩
   ·have:=hN G (Same.refl _)
    have hv2:v = .bl true∨v = .bl false:=by simp at hv;rcases hv with h | h <;> simp_all
    rcases hv2 with rfl | rfl
    ·exact ⟨_,rfl,_,rfl,this⟩
    ·exact ⟨_,rfl,_,rfl,this⟩
   refine ⟨D6,_,rfl,.inl (SqL.of hd6),_,rfl,_,rfl,_,rfl,itP (by decide) ?_⟩
   refine ⟨(by show 4<=sizeLine;omega),fun p3 hp3=>?_⟩
   have t7:=same_upd (o:=.lst [T [107,105,110,100,115],T [119,111,114,100],T [109,97,110,121],T [116,101,120,116]]) hp3
   have l7:upd H6 p3 (.lst [T [107,105,110,100,115],T [119,111,114,100],T [109,97,110,121],T [116,101,120,116]]) p3=some (.lst [T [107,105,110,100,115],T [119,111,114,100],T [109,97,110,121],T [116,101,120,116]]):=upd_same
   generalize upd H6 p3 (.lst [T [107,105,110,100,115],T [119,111,114,100],T [109,97,110,121],T [116,101,120,116]])=H7 at t7 l7 ⊢
   have l8:=t7 _ _ (s6 _ _ l5)
   refine ⟨_,rfl,.inl ⟨rfl,_,SqL.of l8⟩,p1,_,.bl true,.bl true,0,rfl,rfl,SqL.of l8,rfl,rfl,rfl,rfl,?_,p3,_,_,T [107,105,110,100,115],rfl,rfl,SqL.of l7,atI_nat (j:=0) rfl,(by show 2<=sizeLine;omega),fun p4 hp4=>?_⟩
   ·intro i z hi hz
    omega
   refine ⟨_,rfl,q p4 _ (s0.trans (s1.trans (t1.trans (t2.trans (t3.trans (t4.trans (s6.trans (t7.trans (same_upd hp4))))))))) ?_⟩
   rw [upd_same]
   unfold hearN hearC
   rw [if_neg (fun z=>z h0),ho,if_neg (fun z=>by cases z.2)]
   rfl
  ·refine .inl ⟨tt.o_W,fun a hna=>?_⟩
   have t1:=same_upd (o:=ExD a (.ref ad.BadWord) none) hna
   have hA:upd H1 a (ExD a (.ref ad.BadWord) none) a=some (ExD a (.ref ad.BadWord) none):=upd_same
   generalize upd H1 a (ExD a (.ref ad.BadWord) none)=H2 at t1 hA ⊢
   refine ⟨_,rfl,a,ad.BadWord,none,.ref ad.BadKinds,.ref ad.BadKinds,false,rfl,rfl,hA,tt.n_BadWord,tt.c_WK,_,rfl,a,ad.BadWord,none,.ref ad.BadWord,.ref ad.BadWord,true,rfl,rfl,hA,tt.n_BadWord,tt.c_WW,_,rfl,a,ad.BadWord,none,.ref ad.TooMany,.ref ad.TooMany,false,rfl,rfl,hA,tt.n_BadWord,tt.c_WM,_,rfl,a,ad.BadWord,none,.ref ad.BadText,.ref ad.BadText,false,rfl,rfl,hA,tt.n_BadWord,tt.c_WT,(by show 4<=sizeLine;omega),fun p1 hp1=>?_⟩
   have t2:=same_upd (o:=.lst [.bl false,.bl true,.bl false,.bl false]) hp1
   have l2:upd H2 p1 (.lst [.bl false,.bl true,.bl false,.bl false]) p1=some (.lst [.bl false,.bl true,.bl false,.bl false]):=upd_same
   generalize upd H2 p1 (.lst [.bl false,.bl true,.bl false,.bl false])=H3 at t2 l2 ⊢
   refine ⟨(by show 2<=sizeLine;omega),fun p2 hp2=>?_⟩
   have t3:=same_upd (o:=.tup [T [111,116,104,101,114],.int 0]) hp2
   generalize upd H3 p2 (.tup [T [111,116,104,101,114],.int 0])=H4 at t3 ⊢
   refine ⟨_,rfl,(by show 5<=sizeLine;omega),fun u hu=>?_⟩
   have t4:=same_upd (o:=.tup [.ref ad.NotOne,.ref ad.NoSuch,.ref ad.NoRing,.ref ad.BadRule,.ref ad.BadDeed]) hu
   refine ⟨a,ad.BadWord,u,none,[ad.NotOne,ad.NoSuch,ad.NoRing,ad.BadRule,ad.BadDeed],false,rfl,upd_same,t4 _ _ (t3 _ _ (t2 _ _ hA)),tt.n_BadWord,tt.a_W,_,rfl,itN Bool.false_ne_true ?_⟩
   generalize upd H4 u (.tup [.ref ad.NotOne,.ref ad.NoSuch,.ref ad.NoRing,.ref ad.BadRule,.ref ad.BadDeed])=H5 at t4 ⊢
   have l5:=t4 _ _ (t3 _ _ l2)
   refine ⟨_,rfl,p1,rfl,⟨_,SqL.of l5⟩,compFG (fun v=>eqV v (.bl true)) (fun v=>v) (reads_listH (SqL.of l5) (t4 _ _ (t3 _ _ (t2 _ _ hA)))) (by show 4<=sizeLine;omega) (fun v G hv sG N hN=>?_) (fun v G hv hp sG N hN=>⟨_,rfl,hN G (Same.refl _)⟩) fun D6 H6 hD6 s6 hd6=>?_⟩
   ·have:=hN G (Same.refl _)
    have hv2:v = .bl true∨v = .bl false:=by simp at hv;rcases hv with h | h <;> simp_all
    rcases hv2 with rfl | rfl
    ·exact ⟨_,rfl,_,rfl,this⟩
    ·exact ⟨_,rfl,_,rfl,this⟩
   refine ⟨D6,_,rfl,.inl (SqL.of hd6),_,rfl,_,rfl,_,rfl,itP (by decide) ?_⟩
   refine ⟨(by show 4<=sizeLine;omega),fun p3 hp3=>?_⟩
   have t7:=same_upd (o:=.lst [T [107,105,110,100,115],T [119,111,114,100],T [109,97,110,121],T [116,101,120,116]]) hp3
   have l7:upd H6 p3 (.lst [T [107,105,110,100,115],T [119,111,114,100],T [109,97,110,121],T [116,101,120,116]]) p3=some (.lst [T [107,105,110,100,115],T [119,111,114,100],T [109,97,110,121],T [116,101,120,116]]):=upd_same
   generalize upd H6 p3 (.lst [T [107,105,110,100,115],T [119,111,114,100],T [109,97,110,121],T [116,101,120,116]])=H7 at t7 l7 ⊢
   have l8:=t7 _ _ (s6 _ _ l5)
   refine ⟨_,rfl,.inl ⟨rfl,_,SqL.of l8⟩,p1,_,.bl true,.bl true,1,rfl,rfl,SqL.of l8,rfl,rfl,rfl,rfl,?_,p3,_,_,T [119,111,114,100],rfl,rfl,SqL.of l7,atI_nat (j:=1) rfl,(by show 2<=sizeLine;omega),fun p4 hp4=>?_⟩
   ·intro i z hi hz
    match i,hi with
    | 0,_=>cases hz;rfl
   refine ⟨_,rfl,q p4 _ (s0.trans (s1.trans (t1.trans (t2.trans (t3.trans (t4.trans (s6.trans (t7.trans (same_upd hp4))))))))) ?_⟩
   rw [upd_same]
   unfold hearN hearC
   rw [if_neg (fun z=>z h0),ho,if_neg (fun z=>by cases z.2)]
   rfl
  ·refine .inl ⟨tt.o_M,fun a hna=>?_⟩
   have t1:=same_upd (o:=ExD a (.ref ad.TooMany) none) hna
   have hA:upd H1 a (ExD a (.ref ad.TooMany) none) a=some (ExD a (.ref ad.TooMany) none):=upd_same
   generalize upd H1 a (ExD a (.ref ad.TooMany) none)=H2 at t1 hA ⊢
   refine ⟨_,rfl,a,ad.TooMany,none,.ref ad.BadKinds,.ref ad.BadKinds,false,rfl,rfl,hA,tt.n_TooMany,tt.c_MK,_,rfl,a,ad.TooMany,none,.ref ad.BadWord,.ref ad.BadWord,false,rfl,rfl,hA,tt.n_TooMany,tt.c_MW,_,rfl,a,ad.TooMany,none,.ref ad.TooMany,.ref ad.TooMany,true,rfl,rfl,hA,tt.n_TooMany,tt.c_MM,_,rfl,a,ad.TooMany,none,.ref ad.BadText,.ref ad.BadText,false,rfl,rfl,hA,tt.n_TooMany,tt.c_MT,(by show 4<=sizeLine;omega),fun p1 hp1=>?_⟩
   have t2:=same_upd (o:=.lst [.bl false,.bl false,.bl true,.bl false]) hp1
   have l2:upd H2 p1 (.lst [.bl false,.bl false,.bl true,.bl false]) p1=some (.lst [.bl false,.bl false,.bl true,.bl false]):=upd_same
   generalize upd H2 p1 (.lst [.bl false,.bl false,.bl true,.bl false])=H3 at t2 l2 ⊢
   refine ⟨(by show 2<=sizeLine;omega),fun p2 hp2=>?_⟩
   have t3:=same_upd (o:=.tup [T [111,116,104,101,114],.int 0]) hp2
   generalize upd H3 p2 (.tup [T [111,116,104,101,114],.int 0])=H4 at t3 ⊢
   refine ⟨_,rfl,(by show 5<=sizeLine;omega),fun u hu=>?_⟩
   have t4:=same_upd (o:=.tup [.ref ad.NotOne,.ref ad.NoSuch,.ref ad.NoRing,.ref ad.BadRule,.ref ad.BadDeed]) hu
   refine ⟨a,ad.TooMany,u,none,[ad.NotOne,ad.NoSuch,ad.NoRing,ad.BadRule,ad.BadDeed],false,rfl,upd_same,t4 _ _ (t3 _ _ (t2 _ _ hA)),tt.n_TooMany,tt.a_M,_,rfl,itN Bool.false_ne_true ?_⟩
   generalize upd H4 u (.tup [.ref ad.NotOne,.ref ad.NoSuch,.ref ad.NoRing,.ref ad.BadRule,.ref ad.BadDeed])=H5 at t4 ⊢
   have l5:=t4 _ _ (t3 _ _ l2)
   refine ⟨_,rfl,p1,rfl,⟨_,SqL.of l5⟩,compFG (fun v=>eqV v (.bl true)) (fun v=>v) (reads_listH (SqL.of l5) (t4 _ _ (t3 _ _ (t2 _ _ hA)))) (by show 4<=sizeLine;omega) (fun v G hv sG N hN=>?_) (fun v G hv hp sG N hN=>⟨_,rfl,hN G (Same.refl _)⟩) fun D6 H6 hD6 s6 hd6=>?_⟩
   ·have:=hN G (Same.refl _)
    have hv2:v = .bl true∨v = .bl false:=by simp at hv;rcases hv with h | h <;> simp_all
    rcases hv2 with rfl | rfl
    ·exact ⟨_,rfl,_,rfl,this⟩
    ·exact ⟨_,rfl,_,rfl,this⟩
   refine ⟨D6,_,rfl,.inl (SqL.of hd6),_,rfl,_,rfl,_,rfl,itP (by decide) ?_⟩
   refine ⟨(by show 4<=sizeLine;omega),fun p3 hp3=>?_⟩
   have t7:=same_upd (o:=.lst [T [107,105,110,100,115],T [119,111,114,100],T [109,97,110,121],T [116,101,120,116]]) hp3
   have l7:upd H6 p3 (.lst [T [107,105,110,100,115],T [119,111,114,100],T [109,97,110,121],T [116,101,120,116]]) p3=some (.lst [T [107,105,110,100,115],T [119,111,114,100],T [109,97,110,121],T [116,101,120,116]]):=upd_same
   generalize upd H6 p3 (.lst [T [107,105,110,100,115],T [119,111,114,100],T [109,97,110,121],T [116,101,120,116]])=H7 at t7 l7 ⊢
   have l8:=t7 _ _ (s6 _ _ l5)
   refine ⟨_,rfl,.inl ⟨rfl,_,SqL.of l8⟩,p1,_,.bl true,.bl true,2,rfl,rfl,SqL.of l8,rfl,rfl,rfl,rfl,?_,p3,_,_,T [109,97,110,121],rfl,rfl,SqL.of l7,atI_nat (j:=2) rfl,(by show 2<=sizeLine;omega),fun p4 hp4=>?_⟩
   ·intro i z hi hz
    match i,hi with
    | 0,_=>cases hz;rfl
    | 1,_=>cases hz;rfl
   refine ⟨_,rfl,q p4 _ (s0.trans (s1.trans (t1.trans (t2.trans (t3.trans (t4.trans (s6.trans (t7.trans (same_upd hp4))))))))) ?_⟩
   rw [upd_same]
   unfold hearN hearC
   rw [if_neg (fun z=>z h0),ho,if_neg (fun z=>by cases z.2)]
   rfl
  ·obtain ⟨⟨dw,hx⟩,htp⟩:=hW
   refine ⟨R,_,_,.ref x,rfl,rfl,SqT.of hR,rfl,x,ad.Web,dw,_,.ref tp,rfl,hx,tt.cl_Web,tt.na_Web_words,flds_w _ _,tp,_,rfl,.inr (SqT.of htp),fun p hp=>?_⟩
   refine ⟨_,rfl,q p _ (s0.trans (s1.trans (same_upd hp))) ?_⟩
   rw [upd_same,List.length_map]
   unfold hearN hearC
   rw [if_neg (fun z=>z h0),ho,if_pos ⟨h0,rfl⟩,hpm.length_eq]
   rfl
theorem num_form {m:Nat}(h:m<10 ^ 60):formOf (dgI (m:Nat))=[110]:=by
 unfold formOf
 rw [if_pos]
 unfold isNum madeOf
 rw [decide_eq_true (List.length_pos_iff.mpr (dg_ne m)),decide_eq_true (dg_len (k:=59) h),show ((dgI (m:Nat)).all fun c=>decide (c∈figs))=true from List.all_eq_true.mpr fun c hc=>decide_eq_true ?_]
 ·by_cases h0:m=0
  ·subst h0
   rfl
  ·rw [show decide ((dgI (m:Nat)).take 1≠[48])=true from decide_eq_true (dg_head m (by omega)),Bool.or_true]
   rfl
 ·obtain ⟨a,b⟩:=dg_all m c hc
  have:c-48<10:=by omega
  obtain ⟨d,hd,rfl⟩:∃ d,d<10∧c=48+d:=⟨c-48,by omega,by omega⟩
  clear hc a b this
  revert d
  decide
theorem txt_form {t:List Nat}(h0:t≠[])(h1:t.length<=200)(h2:∀ c∈t,97<=c∧c<103):formOf t=[116]:=by
 have hn:isNum t=false:=by
  unfold isNum madeOf
  rw [show (t.all fun c=>decide (c∈figs))=false from ?_,Bool.and_false,Bool.and_false,Bool.false_and]
  cases t with
  | nil=>exact absurd rfl h0
  | cons c t =>
   rw [List.all_cons,decide_eq_false,Bool.false_and]
   intro z
   have:=h2 c (List.mem_cons_self ..)
   have hz:∀ x∈figs,x<58:=by decide
   have:=hz c z
   omega
 have ht:isTxt t=true:=by
  unfold isTxt madeOf
  rw [decide_eq_true (List.length_pos_iff.mpr h0),decide_eq_true h1,show (t.all fun c=>decide (c∈lets))=true from List.all_eq_true.mpr fun c hc=>decide_eq_true ?_]
  ·rfl
  ·have h3:=h2 c hc
   obtain ⟨d,hd,rfl⟩:∃ d,d<6∧c=97+d:=⟨c-97,by omega,by omega⟩
   revert hd
   clear h3 hc
   revert d
   decide
 unfold formOf
 rw [hn,ht]
 rfl
def BarT (t:List Nat):Prop:=t≠[]∧t.length<=3∧∀ c∈t,97<=c∧c<103
def barRow (t:List Nat):List (List Nat):=[[98,97,114],t]
def noBar (tb ws:List (List Nat)):List (List Nat):=ws.filter fun w=>!tb.any fun b=>sub b w
theorem noBar_nil (ws:List (List Nat)):noBar [] ws=ws:=List.filter_eq_self.mpr fun _ _=>rfl
theorem all_nd {k n:Nat}(hk:0<k):(Wd.allW k n).Nodup:=(Wd.allW_sorted hk).imp fun h e=>by subst e;exact List.lt_irrefl _ h
theorem kind_ask {r:List (List Nat)}(h:isAsk r=true):kindOf r=some [97,115,107]:=by
 unfold kindOf
 rw [if_pos h]
theorem rep_form:∀ {us:List (List Nat)},(∀ u∈us,formOf u=[116])->(us.map formOf).flatten=Wd.rep us.length [116]
 | [],_=>rfl
 | u::us,h=>by
  rw [List.map_cons,List.flatten_cons,List.length_cons,Wd.rep_succ,h u (List.mem_cons_self ..),rep_form fun x hx=>h x (List.mem_cons_of_mem _ hx)]
theorem rep_ln (n:Nat):(Wd.rep n [116]).length=n:=by
 induction n with
 | zero=>rfl
 | succ n ih=>rw [Wd.rep_succ,List.length_append,ih,List.length_singleton,Nat.add_comm]
theorem kind_words {us:List (List Nat)}(h0:us≠[])(h:∀ u∈us,formOf u=[116]):kindOf ([119,111,114,100,115]::us)=some [119,111,114,100,115]:=by
 have hf:rowForm ([119,111,114,100,115]::us)=Wd.rep us.length [116]:=rep_form h
 have ha:isAsk ([119,111,114,100,115]::us)=false:=rfl
 unfold kindOf
 rw [ha,hf,if_neg Bool.false_ne_true,if_neg (fun z=>by cases z.1),if_neg (fun z=>by cases z.1),if_pos]
 refine ⟨rfl,fun z=>h0 (List.length_eq_zero_iff.mp ?_),?_⟩
 ·have:=congrArg List.length z
  rwa [rep_ln] at this
 ·rw [rep_ln]
theorem kind_bar {t:List Nat}(h:formOf t=[116]):kindOf (barRow t)=some [98,97,114]:=by
 have hf:rowForm (barRow t)=[116]:=by
  show (([t].map formOf).flatten)=_
  rw [List.map_cons,h]
  rfl
 have ha:isAsk (barRow t)=false:=rfl
 unfold kindOf
 rw [ha,hf,if_neg Bool.false_ne_true,if_neg (fun z=>by cases z.1),if_pos ⟨rfl,rfl⟩]
theorem kind_all {a b:List Nat}(h1:formOf a=[110])(h2:formOf b=[110]):kindOf [[97,108,108],a,b]=some [97,108,108]:=by
 have hf:rowForm [[97,108,108],a,b]=[110,110]:=by
  show (([a,b].map formOf).flatten)=_
  rw [List.map_cons,List.map_cons,h1,h2]
  rfl
 have ha:isAsk [[97,108,108],a,b]=false:=rfl
 unfold kindOf
 rw [ha,hf,if_neg Bool.false_ne_true,if_pos ⟨rfl,rfl⟩]
theorem chain_cons {a k:List Nat}{r:List (List Nat)}{rs:List (List (List Nat))}(hk:kindOf r=some k)(hm:a∈(tabAt k aheadD).getD [])(h:chain k rs=true):chain a (r::rs)=true:=by
 unfold chain
 rw [hk]
 dsimp only
 rw [decide_eq_true hm,h]
 rfl
def aks:List (List Nat):=[[97,108,108],[119,111,114,100,115],[98,97,114],[97,115,107]]
theorem chain_asks:∀ {rs:List (List (List Nat))} {a:List Nat},(∀ r∈rs,isAsk r=true)->a∈aks->chain a rs=true
 | [],_,_,_=>rfl
 | r::rs,a,h,ha=>chain_cons (kind_ask (h r (List.mem_cons_self ..))) ha (chain_asks (fun x hx=>h x (List.mem_cons_of_mem _ hx)) (by decide))
theorem chain_bars {as:List (List (List Nat))}(hq:∀ r∈as,isAsk r=true):∀ {tb:List (List Nat)} {a:List Nat},(∀ t∈tb,BarT t)->a∈aks.take 3->chain a (tb.map barRow++as)=true
 | [],a,_,ha=>chain_asks hq (List.mem_of_mem_take ha)
 | t::tb,a,h,ha=>by
  obtain ⟨h0,h1,h2⟩:=h t (List.mem_cons_self ..)
  exact chain_cons (kind_bar (txt_form h0 (by omega) h2)) ha (chain_bars hq (fun x hx=>h x (List.mem_cons_of_mem _ hx)) (by decide))
theorem ask_head {r:List (List Nat)}(h:isAsk r=true):(tabAt (r.headD []) asksD).isSome=true:=by
 unfold isAsk at h
 split at h
 ·rename_i e
  rw [e]
  rfl
 ·cases h
theorem ask_not {r:List (List Nat)}(h:isAsk r=true){k:List Nat}(hk:tabAt k asksD=none):r.headD []≠k:=fun z=>by
 have:=ask_head h
 rw [z,hk] at this
 cases this
theorem numV_dg (m:Nat):numV (dgI (m:Nat))=m:=by
 unfold numV
 rw [dg_nat]
 exact PySem.W.KIN.val_back m
theorem chain_bad:∀ {rs:List (List (List Nat))} {a:List Nat} {i:Nat},chain a rs=true->bad a i rs=0
 | [],_,_,_=>rfl
 | r::rs,a,i,h=>by
  unfold chain at h
  unfold bad
  split at h
  ·rename_i k hk
   rw [Bool.and_eq_true] at h
   rw [if_pos (of_decide_eq_true h.1),chain_bad h.2]
  ·cases h
theorem bad_none:∀ {rs:List (List (List Nat))} {a:List Nat} {i:Nat},(∃ r∈rs,kindOf r=none)->bad a i rs≠0
 | [],_,_,h=>by obtain ⟨r,h,_⟩:=h;cases h
 | r::rs,a,i,h=>by
  unfold bad
  cases hk:kindOf r with
  | none=>exact Nat.succ_ne_zero _
  | some k =>
   dsimp only
   split
   ·refine bad_none ?_
    obtain ⟨r',h1,h2⟩:=h
    rcases List.mem_cons.mp h1 with rfl | h1
    ·rw [hk] at h2;cases h2
    ·exact ⟨r',h1,h2⟩
   ·exact Nat.succ_ne_zero _
theorem pg_page {rs tl:List (List (List Nat))}(h0:rs≠[])(h:∀ r∈tl,isAsk r=true):pageO (rs++tl)=pageO rs∧keptW (rs++tl) (toldL (rs++tl))=keptW rs (toldL rs):=by
 have nob:∀ k:List Nat,tabAt k asksD=none->(tl.filter fun r=>decide (r.headD []=k))=[]:=fun k hk=>List.filter_eq_nil_iff.mpr fun r hr z=>ask_not (h r hr) hk (of_decide_eq_true z)
 have hb:barsOf (rs++tl)=barsOf rs:=by
  unfold barsOf
  rw [List.filter_append,nob [98,97,114] rfl,List.append_nil]
 have hw:toldW (rs++tl)=toldW rs:=by
  unfold toldW
  rw [List.filter_append,nob [119,111,114,100,115] rfl,List.append_nil]
 have hh:(rs++tl).headD []=rs.headD []:=by
  cases rs with
  | nil=>exact absurd rfl h0
  | cons r rs=>rfl
 have hl:toldL (rs++tl)=toldL rs:=by unfold toldL;rw [hh,hw]
 have he:toldE (rs++tl)=toldE rs:=by unfold toldE;rw [hh]
 have hk:keptW (rs++tl) (toldL (rs++tl))=keptW rs (toldL rs):=by unfold keptW;rw [hb,hl]
 exact ⟨by unfold pageO;rw [he,hk],hk⟩
theorem jn_ln {c:Nat}:∀ ls:List (List Nat),(jnS [c] ls).length<=ls.flatten.length+ls.length
 | []=>Nat.zero_le _
 | [l]=>by show l.length<=_;rw [List.flatten_cons,List.length_append];omega
 | l::m::r=>by
  show (l++[c]++jnS [c] (m::r)).length<=_
  have:=jn_ln (c:=c) (m::r)
  rw [List.length_append,List.length_append,List.flatten_cons,List.length_append,List.length_cons,List.length_cons,List.length_nil]
  rw [List.length_cons] at this
  rw [List.length_cons]
  omega
def PgOk (rs:List (List (List Nat)))(o m:Nat):Prop :=
 rs≠[]∧(∀ r∈rs,r≠[]∧∀ x∈r,10∉x∧32∉x)∧(rs.map (jnS [32])).flatten.length+rs.length<=800∧(∀ tl,(∀ r∈tl,isAsk r=true)->chain [116,111,112] (rs++tl)=true)∧pageO rs=o∧(o=0->(keptW rs (toldL rs)).length=m)
theorem PgOk.heard {rs tl:List (List (List Nat))}{o m:Nat}(h:PgOk rs o m)(ht:∀ r∈tl,r≠[]∧∀ x∈r,10∉x∧32∉x)(hl:(tl.map (jnS [32])).flatten.length+tl.length<=20):(jnS [10] ((rs++tl).map (jnS [32]))).length<=900∧pageRows (jnS [10] ((rs++tl).map (jnS [32])))=rs++tl:=by
 obtain ⟨h0,h1,h2,h3,h4,h5⟩:=h
 refine ⟨?_,?_⟩
 ·have:=jn_ln (c:=10) ((rs++tl).map (jnS [32]))
  rw [List.map_append,List.flatten_append,List.length_append,List.length_append,List.length_map,List.length_map] at this
  rw [List.map_append]
  omega
 ·unfold pageRows
  refine rows_jn (fun z=>h0 (List.append_eq_nil_iff.mp z).1) fun r hr=>?_
  rcases List.mem_append.mp hr with z | z
  ·exact h1 r z
  ·exact ht r z
theorem PgOk.fine {rs:List (List (List Nat))}{o m:Nat}(h:PgOk rs o m):(jnS [10] ((rs++[[[114,105,110,103,115]]]).map (jnS [32]))).length<=900∧hearN (jnS [10] ((rs++[[[114,105,110,103,115]]]).map (jnS [32])))=nameO o∧hearC (jnS [10] ((rs++[[[114,105,110,103,115]]]).map (jnS [32])))=if o=0 then m else 0:=by
 obtain ⟨a1,a2⟩:=h.heard (tl:=[[[114,105,110,103,115]]]) (by decide) (by decide)
 have hq:∀ r∈[[[114,105,110,103,115]]],isAsk r=true:=by decide
 obtain ⟨b1,b2⟩:=pg_page h.1 hq
 have hb:bad [116,111,112] 0 (rs++[[[114,105,110,103,115]]])=0:=chain_bad (h.2.2.2.1 _ hq)
 refine ⟨a1,?_,?_⟩
 ·unfold hearN
  rw [a2,hb,if_neg (fun z=>z rfl),b1,h.2.2.2.2.1]
 ·unfold hearC
  rw [a2,hb,b1,b2,h.2.2.2.2.1]
  by_cases e:o=0
  ·rw [if_pos ⟨rfl,e⟩,if_pos e,h.2.2.2.2.2 e]
  ·rw [if_neg (fun z=>e z.2),if_neg e]
theorem PgOk.spoilt {rs:List (List (List Nat))}{o m:Nat}(h:PgOk rs o m):(jnS [10] ((rs++[[[114,105,110,103]],[[114,105,110,113]]]).map (jnS [32]))).length<=900∧hearN (jnS [10] ((rs++[[[114,105,110,103]],[[114,105,110,113]]]).map (jnS [32])))=[116,101,120,116]∧hearC (jnS [10] ((rs++[[[114,105,110,103]],[[114,105,110,113]]]).map (jnS [32])))=0:=by
 obtain ⟨a1,a2⟩:=h.heard (tl:=[[[114,105,110,103]],[[114,105,110,113]]]) (by decide) (by decide)
 have hb:bad [116,111,112] 0 (rs++[[[114,105,110,103]],[[114,105,110,113]]])≠0:=bad_none ⟨[[114,105,110,113]],List.mem_append_right _ (by decide),by decide⟩
 refine ⟨a1,?_,?_⟩
 ·unfold hearN
  rw [a2,if_pos hb]
 ·unfold hearC
  rw [a2,if_neg (fun z=>hb z.1)]
def prs:List (Nat×Nat):=[(1,1),(1,2),(1,3),(1,4),(1,5),(1,6),(2,1),(2,2),(2,3),(2,4),(2,5),(2,6),(3,1),(3,2),(3,3),(3,4),(4,1),(4,2),(5,1),(5,2),(6,1),(6,2),(7,1),(8,1)]
theorem prs_chk:(List.range 6).all (fun b=>prs.all fun p=>decide (((Wd.allW p.2 p.1).filter (fun w=>!sub [97+b] w)).length=(if b<p.2 then p.2-1 else p.2) ^ p.1))=true:=by decide +kernel
theorem prs_has:((List.range 9).all fun n=>(List.range 7).all fun k=>decide (n=0)||(decide (k=0)||(decide (64<k ^ n)||decide ((n,k)∈prs))))=true:=by decide +kernel
theorem prs_in {n k:Nat}(h1:1<=n∧n<=8)(h2:1<=k∧k<=6)(h3:¬ 64<k ^ n):(n,k)∈prs:=by
 have:=List.all_eq_true.mp (List.all_eq_true.mp prs_has n (List.mem_range.mpr (by omega))) k (List.mem_range.mpr (by omega))
 rw [decide_eq_false (by omega:¬ n=0),decide_eq_false (by omega:¬ k=0),decide_eq_false h3] at this
 exact of_decide_eq_true this
def leftK (k:Nat):Option Nat->Nat
 | none=>k
 | some b=>if b<k then k-1 else k
def barsO:Option Nat->List (List Nat)
 | none=>[]
 | some b=>[[97+b]]
theorem webO_ok {ls:List (List Nat)}{n:Nat}(h:WebOk ls n):webO ls=0:=by
 unfold webO
 rw [if_neg (by have:=h.2.1;omega),if_pos ⟨n,h⟩]
theorem webO_no {ls:List (List Nat)}(h1:ls.length<=64)(h:¬ IsWeb ls):webO ls=2:=by
 unfold webO
 rw [if_neg (by omega),if_neg h]
theorem webO_many {ls:List (List Nat)}(h1:64<ls.length):webO ls=3:=by
 unfold webO
 rw [if_pos h1]
theorem all_pg {n k:Nat}{ob:Option Nat}(hn:n<10 ^ 50)(hk:k<10 ^ 50)(hb:∀ b,ob=some b->b<6):PgOk ([[[97,108,108],dgI (n:Nat),dgI (k:Nat)]]++(barsO ob).map barRow) (if sizeO n k≠0 then sizeO n k else if leftK k ob ^ n=0 then 2 else 0) (leftK k ob ^ n):=by
 have hbt:∀ t∈barsO ob,BarT t:=fun t ht=>by
  cases ob with
  | none=>cases ht
  | some b =>
   obtain rfl:=List.mem_singleton.mp ht
   have:=hb b rfl
   exact ⟨fun z=>(by cases z),by show 1<=3;decide,fun c hc=>by have hc:c=97+b:=List.mem_singleton.mp hc;omega⟩
 have hbl:(barsO ob).length<=1:=by cases ob <;> simp [barsO]
 have dg_no:∀ m:Nat,∀ c:Nat,c<48->c∉dgI (m:Nat):=fun m c hc z=>by have:=dg_all m c z;omega
 have l1:=dg_len (k:=49) (m:=n) hn
 have l2:=dg_len (k:=49) (m:=k) hk
 refine ⟨fun z=>(by cases z),fun r hr=>?_,?_,fun tl htl=>?_,?_⟩
 ·rcases List.mem_append.mp hr with z | z
  ·obtain rfl:=List.mem_singleton.mp z
   refine ⟨fun z=>(by cases z),fun x hx=>?_⟩
   rcases List.mem_cons.mp hx with rfl | hx
   ·decide
   ·rcases List.mem_cons.mp hx with rfl | hx
    ·exact ⟨dg_no _ _ (by decide),dg_no _ _ (by decide)⟩
    ·obtain rfl:=List.mem_singleton.mp hx
     exact ⟨dg_no _ _ (by decide),dg_no _ _ (by decide)⟩
  ·obtain ⟨t,ht,rfl⟩:=List.mem_map.mp z
   refine ⟨fun z=>(by cases z),fun x hx=>?_⟩
   rcases List.mem_cons.mp hx with rfl | hx
   ·decide
   ·obtain rfl:=List.mem_singleton.mp hx
    obtain ⟨_,_,hc⟩:=hbt x ht
    exact ⟨fun z=>by have:=hc 10 z;omega,fun z=>by have:=hc 32 z;omega⟩
 ·cases ob with
  | none =>
   show (([[[97,108,108],dgI (n:Nat),dgI (k:Nat)]].map (jnS [32])).flatten).length+1<=800
   show (([97,108,108]++[32]++(dgI (n:Nat)++[32]++dgI (k:Nat)))++[]).length+1<=800
   simp only [List.length_append,List.length_cons,List.length_nil]
   omega
  | some b =>
   show (([97,108,108]++[32]++(dgI (n:Nat)++[32]++dgI (k:Nat)))++(([98,97,114]++[32]++[97+b])++[])).length+2<=800
   simp only [List.length_append,List.length_cons,List.length_nil]
   omega
 ·rw [List.append_assoc]
  exact chain_cons (kind_all (num_form (Nat.lt_of_lt_of_le hn (by decide))) (num_form (Nat.lt_of_lt_of_le hk (by decide)))) (by decide) (chain_bars htl hbt (by decide))
 ·generalize hrs:[[[97,108,108],dgI (n:Nat),dgI (k:Nat)]]++(barsO ob).map barRow=rs
  have hE:toldE rs=sizeO n k:=by
   rw [<- hrs]
   show sizeO (numV (dgI (n:Nat))) (numV (dgI (k:Nat)))=_
   rw [numV_dg,numV_dg]
  have hL:toldL rs=Wd.allW k n:=by
   rw [<- hrs]
   show Wd.allW (numV (dgI (k:Nat))) (numV (dgI (n:Nat)))=_
   rw [numV_dg,numV_dg]
  by_cases e:sizeO n k=0
  case neg =>
   rw [if_pos e]
   exact ⟨by unfold pageO;rw [hE,if_pos e],fun z=>absurd z e⟩
  rw [if_neg (fun z=>z e)]
  have hsz:(1<=k∧k<=6)∧(1<=n∧n<=8)∧¬ 64<k ^ n:=by
   unfold sizeO at e
   split at e
   ·cases e
   ·split at e
    ·cases e
    ·split at e
     ·cases e
     ·exact ⟨by omega,by omega,by assumption⟩
  obtain ⟨hk6,hn8,h64⟩:=hsz
  have hbars:barsOf rs=barsO ob:=by
   rw [<- hrs]
   cases ob <;> rfl
  have hkl:(keptW rs (toldL rs)).length=leftK k ob ^ n:=by
   unfold keptW
   rw [hbars,hL]
   cases ob with
   | none=>rw [show ((Wd.allW k n).filter fun w=>!(barsO none).any fun b=>sub b w)=Wd.allW k n from List.filter_eq_self.mpr fun _ _=>rfl,Wd.allW_len];rfl
   | some b =>
    have:=of_decide_eq_true (List.all_eq_true.mp (List.all_eq_true.mp prs_chk b (List.mem_range.mpr (hb b rfl))) (n,k) (prs_in hn8 hk6 h64))
    rw [show ((Wd.allW k n).filter fun w=>!(barsO (some b)).any fun t=>sub t w)=(Wd.allW k n).filter fun w=>!sub [97+b] w from List.filter_congr fun w _=>by show (!(sub [97+b] w||false))=_;rw [Bool.or_false]]
    exact this
  have hle:leftK k ob ^ n<=k ^ n:=Nat.pow_le_pow_left (by cases ob with | none=>exact Nat.le_refl _ | some b=>show (if b<k then k-1 else k)<=k;split <;> omega) n
  have hpg:pageO rs=webO (keptW rs (toldL rs)):=by unfold pageO;rw [hE,e,if_neg (fun z=>z rfl)]
  by_cases hz:leftK k ob ^ n=0
  ·rw [if_pos hz]
   refine ⟨?_,fun z=>by cases z⟩
   rw [hpg]
   refine webO_no (by omega) fun ⟨m,hm⟩=>hm.1 (List.length_eq_zero_iff.mp (by omega))
  ·rw [if_neg hz]
   refine ⟨?_,fun _=>hkl⟩
   rw [hpg]
   have hmem:∀ x∈keptW rs (toldL rs),x∈Wd.allW k n:=fun x hx=>by rw [<- hL];exact (List.mem_filter.mp hx).1
   refine webO_ok (n:=n) ⟨fun z=>hz (by rw [<- hkl,z];rfl),by omega,hn8,fun x hx=>?_,?_⟩
   ·obtain ⟨h1,h2⟩:=(Wd.mem_allW hk6.1).mp (hmem x hx)
    exact ⟨h1,fun c hc=>by have:=h2 c hc;omega⟩
   ·unfold keptW
    rw [hL]
    exact (all_nd hk6.1).filter _
def laidR (ws:List (List Nat))(c:Nat):List (List (List Nat)):=([119,111,114,100,115]::ws.take c)::if c<ws.length then [[119,111,114,100,115]::ws.drop c] else []
theorem words_len:∀ ws:List (List Nat),(jnS [32] ([119,111,114,100,115]::ws)).length<=6+ws.flatten.length+ws.length
 | []=>by decide
 | w::ws=>by
  show ([119,111,114,100,115]++[32]++jnS [32] (w::ws)).length<=_
  have:=jn_ln (c:=32) (w::ws)
  rw [List.length_append,List.length_append]
  show 5+1+_<=_
  omega
theorem flat9:∀ {ws:List (List Nat)},(∀ w∈ws,w.length<=9)->ws.flatten.length<=9*ws.length
 | [],_=>Nat.le_refl _
 | w::ws,h=>by
  have h1:=h w (List.mem_cons_self ..)
  have h2:=flat9 fun x hx=>h x (List.mem_cons_of_mem _ hx)
  rw [List.flatten_cons,List.length_append,List.length_cons]
  omega
theorem bars_tb (tb:List (List Nat)):barsOf (tb.map barRow)=tb:=by
 unfold barsOf
 rw [List.filter_eq_self.mpr fun r hr=>by obtain ⟨t,_,rfl⟩:=List.mem_map.mp hr;rfl,List.map_map]
 exact List.map_id _
theorem told_pg {ws tb:List (List Nat)}{c:Nat}(hw:∀ w∈ws,w≠[]∧w.length<=9∧∀ d∈w,97<=d∧d<103)(hl:ws.length<=67)(hb:∀ t∈tb,BarT t)(hbl:tb.length<=1)(hc:1<=c∧c<=ws.length):PgOk (laidR ws c++tb.map barRow) (webO (noBar tb ws)) (noBar tb ws).length:=by
 have htk:∀ w∈ws.take c,w∈ws:=fun w h=>List.mem_of_mem_take h
 have hdk:∀ w∈ws.drop c,w∈ws:=fun w h=>List.mem_of_mem_drop h
 have hft:∀ w∈ws,formOf w=[116]:=fun w h=>let ⟨h0,h1,h2⟩:=hw w h;txt_form h0 (by omega) h2
 have hsign:∀ w∈ws,10∉w∧32∉w:=fun w h=>⟨fun z=>by have:=(hw w h).2.2 10 z;omega,fun z=>by have:=(hw w h).2.2 32 z;omega⟩
 have h1ne:ws.take c≠[]:=fun z=>by have:=congrArg List.length z;rw [List.length_take,List.length_nil] at this;omega
 have hrow:∀ us:List (List Nat),(∀ w∈us,w∈ws)->([119,111,114,100,115]::us)≠[]∧∀ x∈[119,111,114,100,115]::us,10∉x∧32∉x:=fun us hu=>⟨List.cons_ne_nil _ _,fun x hx=>by
  rcases List.mem_cons.mp hx with rfl | hx
  ·decide
  ·exact hsign x (hu x hx)⟩
 have hF:=flat9 fun w h=>(hw w h).2.1
 have hF2:(ws.take c).flatten.length+(ws.drop c).flatten.length=ws.flatten.length:=by rw [<- List.length_append,<- List.flatten_append,List.take_append_drop]
 have hbar:((tb.map barRow).map (jnS [32])).flatten.length<=7:=by
  cases tb with
  | nil=>exact Nat.zero_le _
  | cons t tb =>
   cases tb with
   | nil =>
    have:=(hb t (List.mem_cons_self ..)).2.1
    show (([98,97,114]++[32]++t)++[]).length<=7
    simp only [List.length_append,List.length_cons,List.length_nil]
    omega
   | cons _ _=>rw [List.length_cons,List.length_cons] at hbl;omega
 have w1:=words_len (ws.take c)
 have w2:=words_len (ws.drop c)
 rw [List.length_take] at w1
 rw [List.length_drop] at w2
 refine ⟨fun z=>(by cases z),fun r hr=>?_,?_,fun tl htl=>?_,?_⟩
 ·rcases List.mem_append.mp hr with z | z
  ·rcases List.mem_cons.mp z with rfl | z
   ·exact hrow _ htk
   ·split at z
    ·obtain rfl:=List.mem_singleton.mp z
     exact hrow _ hdk
    ·cases z
  ·obtain ⟨t,ht,rfl⟩:=List.mem_map.mp z
   obtain ⟨_,_,h3⟩:=hb t ht
   refine ⟨fun z=>(by cases z),fun x hx=>?_⟩
   rcases List.mem_cons.mp hx with rfl | hx
   ·decide
   ·obtain rfl:=List.mem_singleton.mp hx
    exact ⟨fun z=>by have:=h3 10 z;omega,fun z=>by have:=h3 32 z;omega⟩
 ·rw [List.map_append,List.flatten_append,List.length_append,List.length_append,List.length_map]
  unfold laidR
  split
  ·rw [List.map_cons,List.map_cons,List.map_nil,List.flatten_cons,List.flatten_cons,List.flatten_nil,List.append_nil,List.length_append,List.length_cons,List.length_cons,List.length_nil]
   omega
  ·rw [List.map_cons,List.map_nil,List.flatten_cons,List.flatten_nil,List.append_nil,List.length_cons,List.length_nil]
   omega
 ·rw [List.append_assoc]
  unfold laidR
  refine chain_cons (kind_words h1ne fun u hu=>hft u (htk u hu)) (by decide) ?_
  split
  ·rename_i hlt
   refine chain_cons (kind_words (fun z=>by have:=congrArg List.length z;rw [List.length_drop,List.length_nil] at this;omega) fun u hu=>hft u (hdk u hu)) (by decide) (chain_bars htl hb (by decide))
  ·exact chain_bars htl hb (by decide)
 ·have hW:toldW (laidR ws c++tb.map barRow)=ws:=by
   have hno:((tb.map barRow).filter fun r=>decide (r.headD []=[119,111,114,100,115]))=[]:=by
    refine List.filter_eq_nil_iff.mpr fun r hr z=>?_
    obtain ⟨t,_,rfl⟩:=List.mem_map.mp hr
    exact absurd (of_decide_eq_true z) (by show ¬ [98,97,114]=_;decide)
   unfold toldW
   rw [List.filter_append,hno,List.append_nil]
   unfold laidR
   split
   ·show ws.take c++(ws.drop c++[])=ws
    rw [List.append_nil,List.take_append_drop]
   ·show ws.take c++[]=ws
    rw [List.append_nil,List.take_of_length_le (by omega)]
  have hB:barsOf (laidR ws c++tb.map barRow)=tb:=by
   have h1:barsOf (laidR ws c)=[]:=by
    unfold laidR barsOf
    split <;> rfl
   have h2:=bars_tb tb
   unfold barsOf at h1 h2 ⊢
   rw [List.filter_append,List.map_append,h1,h2]
   rfl
  have hL:toldL (laidR ws c++tb.map barRow)=ws:=by
   unfold toldL
   rw [if_neg (show ¬ ((laidR ws c++tb.map barRow).headD []).headD []=[97,108,108] by show ¬ [119,111,114,100,115]=_;decide),hW]
  have hE:toldE (laidR ws c++tb.map barRow)=0:=by
   unfold toldE
   rw [if_neg (show ¬ ((laidR ws c++tb.map barRow).headD []).headD []=[97,108,108] by show ¬ [119,111,114,100,115]=_;decide)]
  have hK:keptW (laidR ws c++tb.map barRow) (toldL (laidR ws c++tb.map barRow))=noBar tb ws:=by
   unfold keptW noBar
   rw [hB,hL]
  exact ⟨by unfold pageO;rw [hE,if_neg (fun z=>z rfl),hK],fun _=>by rw [hK]⟩
theorem tOr_is {t u:TT}{σ:St}{H:Hp}{Q:Bool->Hp->Prop}(a b:Bool)(hA:∀ N:Bool->Hp->Prop,N a H->t σ H N)(hB:a=false->∀ N:Bool->Hp->Prop,N b H->u σ H N)(h:Q (a||b) H):tOr t u σ H Q:=by
 refine hA _ ?_
 cases a with
 | true=>rw [if_pos rfl];exact h
 | false=>rw [if_neg Bool.false_ne_true];exact hB rfl _ h
def spCnt:Sp:=fun vs H Q _=>∃ n k:Nat,vs=[.int (n:Nat),.int (k:Nat)]∧(n<=8∧k<=6)∧Q (.int ((k ^ n:Nat):Int)) H
theorem ok__law_count {f:Addr}{fd:FuncData}(F:Fun K "_law_count" "_law_count" s__law_count f fd)(tt:Txt K mg ad):FnOk P w K mg base (CX2 P w) 1 f fd ["length", "kinds"] spCnt:=by
 refine F.okN2 sc__law_count (fun vs H Q E h=>?_) (fun cdv A outer s H vs Q E hr h=>?_)
 ·obtain ⟨n,k,rfl,_⟩:=h
  rfl
 ·obtain ⟨n,k,rfl,hn,q⟩:=h
  refine ⟨_,(pss_cons (ps_set (i:=2) sc__law_count.nd rfl (Or.inl rfl) pe_int)
   (pss_cons (ps_for PassesOwn.never rfl (pi_range1 (by rfl) tt.b_range (pa_cons (pv 0) pa_nil)) (pg_name (i:=3) sc__law_count.nd rfl (Or.inl rfl)) (pss_one (ps_set (i:=2) sc__law_count.nd rfl (Or.inl rfl) (pe_op op_mul (pv 2) (pv 1)))))
   (pss_one (ps_ret (pv 2))))),?_⟩
  (try rw [cxK2]);(try rw [cxK1])
  refine ⟨_,rfl,_,rfl,by omega,by omega,?_⟩
  rw [Int.toNat_natCast]
  refine for_range (fun i σ H2=>H2=H∧∃ v,σ=[some (.int (n:Nat)),some (.int (k:Nat)),some (.int ((k ^ i:Nat):Int)),v]) ⟨rfl,none,rfl⟩ ?_ ?_
  ·rintro i σ H2 hi ⟨rfl,v,rfl⟩
   refine ⟨_,rfl,_,rfl,_,_,rfl,rfl,.inr ⟨by omega,by omega⟩,?_⟩
   refine ⟨rfl,some (.int (0+(i:Int))),?_⟩
   rw [Nat.pow_succ,Int.natCast_mul]
   rfl
  ·rintro σ H2 ⟨rfl,v,rfl⟩
   exact ⟨_,rfl,q⟩
theorem lgb {m:Nat}(h:m<10 ^ 50):m.log2<1920:=by
 by_cases h0:m=0
 ·rw [h0]
  decide
 ·exact (Nat.log2_lt h0).mpr (Nat.lt_of_lt_of_le h (by decide))
theorem pick9 {xs:List Nat}{i:Nat}(hi:i<xs.length)(h:∀ x∈xs,x<10 ^ 50):∃ L:Nat,atI (xs.map fun z:Nat=>V.int (z:Nat)) (i:Int)=some (.int (L:Nat))∧L<10 ^ 50 :=
 ⟨xs[i],atI_nat (by rw [List.getElem?_map,List.getElem?_eq_getElem hi];rfl),h _ (List.getElem_mem hi)⟩
theorem PgOk.any {rs:List (List (List Nat))}{o m m':Nat}(h:PgOk rs o m)(ho:o≠0):PgOk rs o m':=⟨h.1,h.2.1,h.2.2.1,h.2.2.2.1,h.2.2.2.2.1,fun z=>absurd z ho⟩
theorem name_fine {o:Nat}(h:o≠0):nameO o≠[102,105,110,101]:=by
 match o,h with
 | 1,_=>decide
 | 2,_=>decide
 | n+3,_=>exact (by decide:¬ [109,97,110,121]=[102,105,110,101])
theorem six_ix (z:Int):∃ b:Nat,z % 6=(b:Nat)∧b<6∧atI [97,98,99,100,101,102] (z % 6)=some (97+b):=by
 obtain ⟨b,e,h⟩:=mod_nat z 6 (by decide)
 have hb:b<6:=by omega
 refine ⟨b,e,hb,?_⟩
 rw [e]
 clear e h
 revert b
 decide
def spPg9:Sp:=fun vs H Q _=>∃ n:Nat,vs=[.int (n:Nat)]∧∀ (tp R:Addr) (rs:List (List (List Nat))) (o m:Nat) (H':Hp),Same H H'->H' tp=some (.tup [.ref R,T (nameO o),.int (m:Nat)])->H' R=some (.lst ((rs.map (jnS [32])).map T))->PgOk rs o m->Q (.ref tp) H'
theorem ok__law_all {f:Addr}{fd:FuncData}(F:Fun K "_law_all" "_law_all" s__law_all f fd)(tt:Txt K mg ad)(C__law_count:Cal P w K mg base (CX2 P w) "_law_count" 1 ["length", "kinds"] spCnt):FnOk P w K mg base (CX2 P w) 2 f fd ["n"] spPg9:=by
 refine F.okN2 sc__law_all (fun vs H Q E h=>?_) (fun cdv A outer s H vs Q E hr h=>?_)
 ·obtain ⟨n,rfl,_⟩:=h
  rfl
 ·obtain ⟨n,rfl,q⟩:=h
  have hs:sizeLine=16777216:=sizeLine_eq
  refine ⟨_,(pss_cons (ps_set (i:=1) sc__law_all.nd rfl (Or.inl rfl) (pe_op op_mul (pe_op op_mod (pe_op op_fdiv (pv 0) pe_int) (pe_op op_pow pe_int pe_int)) (pe_op op_pow pe_int pe_int)))
   (pss_cons (ps_set (i:=2) sc__law_all.nd rfl (Or.inl rfl) (pe_ix ix_list (pe_lst (pa_cons pe_int (pa_cons pe_int (pa_cons pe_int (pa_cons pe_int (pa_cons pe_int (pa_cons pe_int (pa_cons pe_int (pa_cons pe_int (pa_cons pe_int (pa_cons pe_int (pa_cons (pv 1) (pa_cons pe_int pa_nil))))))))))))) (pe_op op_mod (pv 0) pe_int) (fun _ _=>rfl)))
   (pss_cons (ps_set (i:=3) sc__law_all.nd rfl (Or.inl rfl) (pe_ix ix_list (pe_lst (pa_cons pe_int (pa_cons pe_int (pa_cons pe_int (pa_cons pe_int (pa_cons pe_int (pa_cons pe_int (pa_cons pe_int (pa_cons pe_int (pa_cons pe_int (pa_cons pe_int (pa_cons pe_int (pa_cons (pv 1) pa_nil))))))))))))) (pe_op op_mod (pe_op op_fdiv (pv 0) pe_int) pe_int) (fun _ _=>rfl)))
   (pss_cons (ps_set (i:=4) sc__law_all.nd rfl (Or.inl rfl) (pe_strT [102,105,110,101] (by decide +kernel)))
   (pss_cons (ps_wk (t':=(fun D σ H=>∃ n F L k:Nat,σ=[some (.int (n:Nat)),some (.int (F:Nat)),some (.int (L:Nat)),some (.int (k:Nat)),some (T [102,105,110,101]),none,none,none]∧D.nx [some (.int (n:Nat)),some (.int (F:Nat)),some (.int (L:Nat)),some (.int (k:Nat)),some (T (nameO (sizeO L k))),none,none,none] H)) (ps_if (PW.pt (pw_or (pt_cmpR op_lt (pv 3) pe_int (nomark _)) (pw_or1 (pt_cmpR op_gt (pv 3) pe_int (nomark _))))) (pss_one (ps_set (i:=4) sc__law_all.nd rfl (Or.inl rfl) (pe_strT [107,105,110,100,115] (by decide +kernel)))) (pss_one (ps_if (PW.pt (pw_or (pt_cmpR op_lt (pv 2) pe_int (nomark _)) (pw_or1 (pt_cmpR op_gt (pv 2) pe_int (nomark _))))) (pss_one (ps_set (i:=4) sc__law_all.nd rfl (Or.inl rfl) (pe_strT [119,111,114,100] (by decide +kernel)))) (pss_one (ps_if (pt_cmpR op_gt (pe_cal C__law_count hr pass2 (pa_cons (pv 2) (pa_cons (pv 3) pa_nil))) pe_int (nomark _)) (pss_one (ps_set (i:=4) sc__law_all.nd rfl (Or.inl rfl) (pe_strT [109,97,110,121] (by decide +kernel)))) pss_nil))))) ?r5)
   (pss_cons (ps_set (i:=5) sc__law_all.nd rfl (Or.inl rfl) (pe_lst (pa_cons (pe_op op_add_T (pe_op op_add_T (pe_op op_add_T (pe_strT [97,108,108,32] (by decide +kernel)) (pe_callTy call_strI (by rfl) tt.b_str (by decide +kernel) (pa_cons (pv 2) pa_nil))) (pe_strT [32] (by decide +kernel))) (pe_callTy call_strI (by rfl) tt.b_str (by decide +kernel) (pa_cons (pv 3) pa_nil))) pa_nil)))
   (pss_cons (ps_set (i:=6) sc__law_all.nd rfl (Or.inl rfl) (pv 3))
   (pss_cons (ps_if (pt_cmpR op_eq_I (pe_op op_mod (pe_op op_fdiv (pv 0) pe_int) pe_int) pe_int (nomark _)) (pss_cons (ps_expr (pe_bm PySem.F.plainAttrs_list PySem.F.slot_list_append PySem.F.type_list_append mt_append (pv 5) (pa_cons (pe_op op_add_T (pe_strT [98,97,114,32] (by decide +kernel)) (pe_ix ix_T (pe_strT [97,98,99,100,101,102] (by decide +kernel)) (pe_op op_mod (pe_op op_fdiv (pv 0) pe_int) pe_int) (fun _ _=>rfl))) pa_nil)))
   (pss_one (ps_set (i:=6) sc__law_all.nd rfl (Or.inl rfl) (pe_op op_sub (pv 3) (pe_callTy call_intB (by rfl) tt.b_int (by decide +kernel) (pa_cons (pe_cmpR op_lt (pe_op op_mod (pe_op op_fdiv (pv 0) pe_int) pe_int) (pv 3) (nomark _)) pa_nil)))))) pss_nil)
   (pss_cons (ps_set (i:=7) sc__law_all.nd rfl (Or.inl rfl) pe_int)
   (pss_cons (ps_if (pt_cmpR op_eq_T (pv 4) (pe_strT [102,105,110,101] (by decide +kernel)) (nomark _)) (pss_cons (ps_set (i:=7) sc__law_all.nd rfl (Or.inl rfl) (pe_cal C__law_count hr pass2 (pa_cons (pv 2) (pa_cons (pv 6) pa_nil))))
   (pss_one (ps_set (i:=4) sc__law_all.nd rfl (Or.inl rfl) (pe_ix ix_list (pe_lst (pa_cons (pe_strT [102,105,110,101] (by decide +kernel)) (pa_cons (pe_strT [119,111,114,100] (by decide +kernel)) pa_nil))) (pe_callTy call_intB (by rfl) tt.b_int (by decide +kernel) (pa_cons (pe_cmpR op_eq_I (pv 7) pe_int (nomark _)) pa_nil)) (fun _ _=>rfl))))) pss_nil)
   (pss_one (ps_ret (pe_tup (pa_cons (pv 5) (pa_cons (pv 4) (pa_cons (pv 7) pa_nil)))))))))))))))),?_⟩
  (try rw [cxK2]);(try rw [cxK1])
  case r5 =>
   rintro D σ H ⟨n,F,L,k,rfl,hD⟩
   (try dsimp only [gName,tSeq,tIfS,tNext])
   refine tOr_is (decide ((k:Int)<1)) (decide (6<(k:Int))) (fun N hN=>⟨_,rfl,_,_,rfl,rfl,_,rfl,hN⟩) (fun _ N hN=>⟨_,rfl,_,_,rfl,rfl,_,rfl,hN⟩) ?_
   refine ite2 (fun h=>?_) (fun h=>?_)
   ·have:sizeO L k=1:=if_pos (fun z=>by rw [decide_eq_false (by omega),decide_eq_false (by omega)] at h;cases h)
    rw [this] at hD
    exact hD
   have hk:1<=k∧k<=6:=by
    rw [Bool.or_eq_true,decide_eq_true_iff,decide_eq_true_iff] at h
    omega
   refine tOr_is (decide ((L:Int)<1)) (decide (8<(L:Int))) (fun N hN=>⟨_,rfl,_,_,rfl,rfl,_,rfl,hN⟩) (fun _ N hN=>⟨_,rfl,_,_,rfl,rfl,_,rfl,hN⟩) ?_
   refine ite2 (fun h2=>?_) (fun h2=>?_)
   ·have:sizeO L k=2:=by
     unfold sizeO
     rw [if_neg (fun z=>z hk),if_pos (fun z=>by rw [decide_eq_false (by omega),decide_eq_false (by omega)] at h2;cases h2)]
    rw [this] at hD
    exact hD
   have hL:1<=L∧L<=8:=by
    rw [Bool.or_eq_true,decide_eq_true_iff,decide_eq_true_iff] at h2
    omega
   refine ⟨_,rfl,_,rfl,L,k,rfl,⟨hL.2,hk.2⟩,_,_,rfl,rfl,_,rfl,?_⟩
   refine ite2 (fun h3=>?_) (fun h3=>?_)
   ·have h3:=of_decide_eq_true h3
    have:sizeO L k=3:=by
     unfold sizeO
     rw [if_neg (fun z=>z hk),if_neg (fun z=>z hL),if_pos (by omega)]
    rw [this] at hD
    exact hD
   ·have h3:¬ 64<k ^ L:=fun z=>h3 (decide_eq_true (by omega))
    have:sizeO L k=0:=by
     unfold sizeO
     rw [if_neg (fun z=>z hk),if_neg (fun z=>z hL),if_neg h3]
    rw [this] at hD
    exact hD
  refine ⟨_,rfl,_,_,rfl,rfl,⟨by decide,by decide⟩,_,_,rfl,rfl,⟨by decide,by decide,by decide⟩,_,_,rfl,rfl,(by show (0:Int)<10 ^ (9:Int).toNat;decide),_,_,rfl,rfl,⟨by decide,by decide,by decide⟩,_,_,rfl,rfl,.inl ?cm,?_⟩
  case cm =>
   have h1:=Int.emod_nonneg (n/1000:Int) (show (10:Int) ^ (9:Int).toNat≠0 by decide)
   have h2:=Int.emod_lt_of_pos (n/1000:Int) (show 0<(10:Int) ^ (9:Int).toNat by decide)
   have h3:(10:Int) ^ (9:Int).toNat=1000000000:=by decide
   exact ⟨by omega,by omega⟩
  dsimp only
  obtain ⟨F0,eF,hF⟩:∃ F0:Nat,(n:Int)/1000 % 10 ^ (9:Int).toNat*10 ^ (40:Int).toNat=(F0:Nat)∧F0<10 ^ 50:=by
   refine ⟨n/1000 % 10 ^ 9*10 ^ 40,by rw [Int.natCast_mul,Int.natCast_emod,Int.natCast_ediv];rfl,?_⟩
   have:=Nat.mod_lt (n/1000) (show 10 ^ 9>0 by decide)
   exact Nat.lt_of_lt_of_le (Nat.mul_lt_mul_of_pos_right this (by decide)) (by decide)
  rw [eF]
  obtain ⟨L,eL,hL⟩:=pick9 (xs:=[1,2,3,4,5,6,7,8,0,9,F0,24]) (i:=n % 12) (Nat.mod_lt _ (by decide)) (fun x hx=>by simp only [List.mem_cons,List.not_mem_nil,or_false] at hx;omega)
  obtain ⟨k,ek,hk⟩:=pick9 (xs:=[1,2,3,4,5,6,2,2,1,0,7,F0]) (i:=n/12 % 12) (Nat.mod_lt _ (by decide)) (fun x hx=>by simp only [List.mem_cons,List.not_mem_nil,or_false] at hx;omega)
  refine ⟨_,rfl,(by show 12<=sizeLine;omega),fun p1 hp1=>⟨_,rfl,_,_,rfl,rfl,(by show (0:Int)<12;decide),p1,_,_,_,rfl,rfl,SqL.of upd_same,eL,?_⟩⟩
  have s1:=same_upd (o:=.lst [.int 1,.int 2,.int 3,.int 4,.int 5,.int 6,.int 7,.int 8,.int 0,.int 9,.int (F0:Nat),.int 24]) hp1
  generalize upd H p1 (.lst [.int 1,.int 2,.int 3,.int 4,.int 5,.int 6,.int 7,.int 8,.int 0,.int 9,.int (F0:Nat),.int 24])=H1 at s1 ⊢
  refine ⟨_,rfl,(by show 12<=sizeLine;omega),fun p2 hp2=>⟨_,rfl,_,_,rfl,rfl,⟨by decide,by decide⟩,_,_,rfl,rfl,(by show (0:Int)<12;decide),p2,_,_,_,rfl,rfl,SqL.of upd_same,ek,?_⟩⟩
  have s2:=same_upd (o:=.lst [.int 1,.int 2,.int 3,.int 4,.int 5,.int 6,.int 2,.int 2,.int 1,.int 0,.int 7,.int (F0:Nat)]) hp2
  generalize upd H1 p2 (.lst [.int 1,.int 2,.int 3,.int 4,.int 5,.int 6,.int 2,.int 2,.int 1,.int 0,.int 7,.int (F0:Nat)])=H2 at s2 ⊢
  refine ⟨n,F0,L,k,rfl,?_⟩
  have l1:=dg_len (k:=49) (m:=L) hL
  have l2:=dg_len (k:=49) (m:=k) hk
  refine ⟨_,rfl,_,rfl,lgb hL,_,rfl,_,rfl,(by show 4+_<=sizeLine;omega),_,rfl,_,rfl,(by rw [List.length_append];show 4+_+1<=sizeLine;omega),_,rfl,_,rfl,lgb hk,_,rfl,_,rfl,(by rw [List.length_append,List.length_append];show 4+_+1+_<=sizeLine;omega),(by show 1<=sizeLine;omega),fun R hR=>?_⟩
  rw [show [97,108,108,32]++dgI ((L:Nat):Int)++[32]++dgI ((k:Nat):Int)=jnS [32] [[97,108,108],dgI (L:Nat),dgI (k:Nat)] by show _=[97,108,108]++[32]++(dgI (L:Nat)++[32]++dgI (k:Nat));simp only [List.append_assoc];rfl]
  generalize jt:jnS [32] [[97,108,108],dgI (L:Nat),dgI (k:Nat)]=t0
  have s3:=same_upd (o:=.lst [T t0]) hR
  have hR3:upd H2 R (.lst [T t0]) R=some (.lst [T t0]):=upd_same
  generalize upd H2 R (.lst [T t0])=H3 at s3 hR3 ⊢
  have s03:=s1.trans (s2.trans s3)
  have hRn:H R=none:=by
   cases e:H R with
   | none=>rfl
   | some o=>rw [s2 _ _ (s1 _ _ e)] at hR;cases hR
  refine ⟨_,rfl,?_⟩
  refine ⟨_,rfl,_,_,rfl,rfl,⟨by decide,by decide⟩,_,_,rfl,rfl,(by show (0:Int)<2;decide),_,rfl,_,rfl,_,rfl,?_⟩
  (try dsimp only [gName,tSeq,tIfS,tNext])
  refine if_join2 (fun σ G=>∃ ob:Option Nat,(∀ b,ob=some b->b<6)∧σ=[some (.int (n:Nat)),some (.int (F0:Nat)),some (.int (L:Nat)),some (.int (k:Nat)),some (T (nameO (sizeO L k))),some (.ref R),some (.int (leftK k ob:Nat)),none]∧Same H G∧G R=some (.lst ((([[[97,108,108],dgI (L:Nat),dgI (k:Nat)]]++(barsO ob).map barRow).map (jnS [32])).map T))) (fun σ G hG=>?_) (fun _ hN=>?_) (fun _=>⟨none,fun b z=>(by cases z),rfl,s03,by rw [hR3,<- jt];rfl⟩)
  ·obtain ⟨ob,hob,rfl,sG,hRG⟩:=hG
   have pg:=all_pg hL hk hob
   have hle:leftK k ob<=k:=by cases ob with | none=>exact Nat.le_refl _ | some b=>show (if b<k then k-1 else k)<=k;split <;> omega
   refine ⟨_,rfl,_,rfl,_,rfl,_,rfl,?_⟩
   refine ite2 (fun h0=>?_) (fun h0=>?_)
   ·have h0:=of_decide_eq_true h0
    have ho:sizeO L k=0:=Classical.byContradiction fun z=>name_fine z h0
    obtain ⟨hk6,hL8,_⟩:=sizeO_ok ho
    rw [ho,if_neg (fun z=>z rfl)] at pg
    refine ⟨_,rfl,_,rfl,L,leftK k ob,rfl,⟨hL8.2,by omega⟩,?_⟩
    refine ⟨(by show 2<=sizeLine;omega),fun p4 hp4=>?_⟩
    have s4:=same_upd (o:=.lst [T [102,105,110,101],T [119,111,114,100]]) hp4
    refine ⟨_,rfl,_,rfl,_,rfl,_,rfl,p4,_,_,T (nameO (if leftK k ob ^ L=0 then 2 else 0)),rfl,rfl,SqL.of upd_same,?_,?_⟩
    ·by_cases z:leftK k ob ^ L=0
     ·rw [if_pos z,decide_eq_true (by rw [z];rfl)]
      rfl
     ·rw [if_neg z,decide_eq_false (by omega)]
      rfl
    refine ⟨_,rfl,_,rfl,_,rfl,(by show 3<=sizeLine;omega),fun tp htp=>?_⟩
    exact q tp R _ _ _ _ (sG.trans (s4.trans (same_upd htp))) upd_same (same_upd htp _ _ (s4 _ _ hRG)) pg
   ·have ho:sizeO L k≠0:=fun z=>h0 (decide_eq_true (by rw [z];rfl))
    rw [if_pos ho] at pg
    refine ⟨_,rfl,_,rfl,_,rfl,(by show 3<=sizeLine;omega),fun tp htp=>?_⟩
    exact q tp R _ _ 0 _ (sG.trans (same_upd htp)) upd_same (same_upd htp _ _ hRG) (pg.any ho)
  ·obtain ⟨b,eb,hb6,hab⟩:=six_ix ((n:Int)/288)
   refine ⟨_,rfl,.inl ⟨rfl,_,SqL.of hR3⟩,_,rfl,_,_,rfl,rfl,⟨by decide,by decide⟩,_,_,rfl,rfl,(by show (0:Int)<6;decide),_,rfl,_,rfl,(by show 6<=sizeLine;omega),_,hab,_,rfl,_,rfl,(by show 4+1<=sizeLine;omega),R,_,_,rfl,rfl,hR3,(by show 1<sizeLine;omega),?_⟩
   refine ⟨_,rfl,_,rfl,_,_,rfl,rfl,⟨by decide,by decide⟩,_,_,rfl,rfl,(by show (0:Int)<6;decide),_,rfl,_,_,rfl,rfl,_,rfl,_,_,rfl,rfl,?_⟩
   refine hN _ _ ⟨some b,fun c z=>(by cases z;exact hb6),?_,fun d o e=>?_,?_⟩
   ·show [some (.int (n:Nat)),some (.int (F0:Nat)),some (.int (L:Nat)),some (.int (k:Nat)),some (T (nameO (sizeO L k))),some (.ref R),some (.int ((k:Int)-if decide ((n:Int)/288 % 6<(k:Int))=true then 1 else 0)),none]=_
    have:(k:Int)-(if decide ((n:Int)/288 % 6<(k:Int))=true then 1 else 0)=((leftK k (some b):Nat):Int):=by
     rw [eb]
     show _=(((if b<k then k-1 else k):Nat):Int)
     by_cases z:b<k
     ·rw [if_pos (decide_eq_true (by omega)),if_pos z];omega
     ·rw [if_neg (fun y=>z (by have:=of_decide_eq_true y;omega)),if_neg z];omega
    rw [this]
   ·rw [upd_ne (fun z=>by rw [z,hRn] at e;cases e)]
    exact s03 _ _ e
   ·rw [upd_same,<- jt]
    rfl
def code9 (k:Nat):List Nat:=[97+k % 6,97+k/6 % 6,97+k/36 % 6]
def lst9 (m:Nat):List (List Nat):=(List.range m).map code9
def spListed:Sp:=fun vs H Q _=>∃ m:Nat,vs=[.int (m:Nat)]∧m<=200∧∀ (W:Addr) (H':Hp),H W=none->Same H H'->H' W=some (.lst ((lst9 m).map T))->Q (.ref W) H'
theorem ok__law_listed {f:Addr}{fd:FuncData}(F:Fun K "_law_listed" "_law_listed" s__law_listed f fd)(tt:Txt K mg ad):FnOk P w K mg base (CX2 P w) 1 f fd ["many"] spListed:=by
 refine F.okN2 sc__law_listed (fun vs H Q E h=>?_) (fun cdv A outer s H vs Q E hr h=>?_)
 ·obtain ⟨m,rfl,_⟩:=h
  rfl
 ·obtain ⟨m,rfl,hm,q⟩:=h
  have hs:sizeLine=16777216:=sizeLine_eq
  refine ⟨_,(pss_cons (ps_set (i:=1) sc__law_listed.nd rfl (Or.inl rfl) (pe_lst pa_nil))
   (pss_cons (ps_for PassesOwn.never rfl (pi_range1 (by rfl) tt.b_range (pa_cons (pv 0) pa_nil)) (pg_name (i:=2) sc__law_listed.nd rfl (Or.inl rfl)) (pss_one (ps_expr (pe_bm PySem.F.plainAttrs_list PySem.F.slot_list_append PySem.F.type_list_append mt_append (pv 1) (pa_cons (pe_bm PySem.F.plainAttrs_str PySem.F.slot_str_join PySem.F.type_str_join mt_join (pe_strT [] (by decide +kernel)) (pa_cons (pe_lst (pa_cons (pe_ix ix_T (pe_strT [97,98,99,100,101,102] (by decide +kernel)) (pe_op op_mod (pv 2) pe_int) (fun _ _=>rfl)) (pa_cons (pe_ix ix_T (pe_strT [97,98,99,100,101,102] (by decide +kernel)) (pe_op op_mod (pe_op op_fdiv (pv 2) pe_int) pe_int) (fun _ _=>rfl)) (pa_cons (pe_ix ix_T (pe_strT [97,98,99,100,101,102] (by decide +kernel)) (pe_op op_mod (pe_op op_fdiv (pv 2) pe_int) pe_int) (fun _ _=>rfl)) pa_nil)))) pa_nil)) pa_nil)))))
   (pss_one (ps_ret (pv 1))))),?_⟩
  (try rw [cxK2]);(try rw [cxK1])
  refine ⟨(by show 0<=sizeLine;omega),fun W hW=>?_⟩
  have s1:=same_upd (o:=.lst []) hW
  have hW1:upd H W (.lst []) W=some (.lst []):=upd_same
  generalize upd H W (.lst [])=H1 at s1 hW1 ⊢
  refine ⟨_,rfl,_,rfl,by omega,by omega,?_⟩
  rw [Int.toNat_natCast]
  refine for_range (fun i σ G=>Same H G∧G W=some (.lst ((lst9 i).map T))∧∃ v2:Option V,σ=[some (.int (m:Nat)),some (.ref W),v2]) ⟨s1,hW1,none,rfl⟩ ?_ ?_
  ·rintro i σ G hi ⟨sG,hWG,v2,rfl⟩
   obtain ⟨b1,e1,_,a1⟩:=six_ix (0+(i:Int))
   obtain ⟨b2,e2,_,a2⟩:=six_ix ((0+(i:Int))/6)
   obtain ⟨b3,e3,_,a3⟩:=six_ix ((0+(i:Int))/36)
   refine ⟨_,rfl,.inl ⟨rfl,_,SqL.of hWG⟩,rfl,_,rfl,_,_,rfl,rfl,(by show (0:Int)<6;decide),_,rfl,_,rfl,(by show 6<=sizeLine;omega),_,a1,_,rfl,_,_,rfl,rfl,⟨by decide,by decide⟩,_,_,rfl,rfl,(by show (0:Int)<6;decide),_,rfl,_,rfl,(by show 6<=sizeLine;omega),_,a2,_,rfl,_,_,rfl,rfl,⟨by decide,by decide⟩,_,_,rfl,rfl,(by show (0:Int)<6;decide),_,rfl,_,rfl,(by show 6<=sizeLine;omega),_,a3,(by show 3<=sizeLine;omega),fun p hp=>?_⟩
   have s2:=same_upd (o:=.lst [T [97+b1],T [97+b2],T [97+b3]]) hp
   have h2:upd G p (.lst [T [97+b1],T [97+b2],T [97+b3]]) p=some (.lst ([[97+b1],[97+b2],[97+b3]].map T)):=upd_same
   generalize upd G p (.lst [T [97+b1],T [97+b2],T [97+b3]])=G2 at s2 h2 ⊢
   refine ⟨rfl,p,_,rfl,SqL.of h2,(by show 3<=sizeLine;omega),W,_,_,rfl,rfl,s2 _ _ hWG,(by rw [List.length_map];unfold lst9;rw [List.length_map,List.length_range];omega),?_⟩
   refine ⟨fun d o e=>?_,?_,_,rfl⟩
   ·rw [upd_ne (fun z=>by rw [z,hW] at e;cases e)]
    exact s2 _ _ (sG _ _ e)
   ·rw [upd_same]
    unfold lst9
    rw [List.range_succ,List.map_append,List.map_append]
    have:code9 i=[97+b1,97+b2,97+b3]:=by
     unfold code9
     rw [show i % 6=b1 by omega,show i/6 % 6=b2 by omega,show i/36 % 6=b3 by omega]
    show _=some (HO.lst (_++[T (code9 i)]))
    rw [this]
    rfl
  ·rintro σ G ⟨sG,hWG,v2,rfl⟩
   exact ⟨_,rfl,q W G hW sG hWG⟩
theorem jn_words {us:List (List Nat)}(h:us≠[]):[119,111,114,100,115,32]++jnS [32] us=jnS [32] ([119,111,114,100,115]::us):=by
 cases us with
 | nil=>exact absurd rfl h
 | cons u us=>rfl
def spLaid (K:PySem.W.Frag):Sp:=fun vs H Q _=>∃ (W:Addr) (ws:List (List Nat)) (n:Int),vs=[.ref W,.int n]∧SqL K H W (ws.map T)∧ws≠[]∧ws.length<=67∧(∀ w∈ws,w.length<=9)∧∀ (R:Addr) (c:Nat) (H':Hp),Same H H'->(1<=c∧c<=ws.length)->H' R=some (.lst (((laidR ws c).map (jnS [32])).map T))->Q (.ref R) H'
theorem ok__law_laid {f:Addr}{fd:FuncData}(F:Fun K "_law_laid" "_law_laid" s__law_laid f fd)(tt:Txt K mg ad):FnOk P w K mg base (CX2 P w) 1 f fd ["words", "n"] (spLaid K):=by
 refine F.okN2 sc__law_laid (fun vs H Q E h=>?_) (fun cdv A outer s H vs Q E hr h=>?_)
 ·obtain ⟨W,ws,n,rfl,_⟩:=h
  rfl
 ·obtain ⟨W,ws,n,rfl,hW,hne,hl,h9,q⟩:=h
  have hs:sizeLine=16777216:=sizeLine_eq
  have hpos:0<ws.length:=List.length_pos_iff.mpr hne
  refine ⟨_,(pss_cons (ps_set (i:=2) sc__law_laid.nd rfl (Or.inl rfl) (pe_op op_add pe_int (pe_op op_mod (pe_op op_fdiv (pv 1) pe_int) (pe_callB call_len_seq (by rfl) tt.b_len PySem.boot_len (pa_cons (pv 0) pa_nil)))))
   (pss_cons (ps_set (i:=3) sc__law_laid.nd rfl (Or.inl rfl) (pe_lst (pa_cons (pe_op op_add_T (pe_strT [119,111,114,100,115,32] (by decide +kernel)) (pe_bm PySem.F.plainAttrs_str PySem.F.slot_str_join PySem.F.type_str_join mt_joinS (pe_strT [32] (by decide +kernel)) (pa_cons (pe_slice sl_list (pv 0) po_none (po_some (pv 2))) pa_nil))) pa_nil)))
   (pss_cons (ps_if (pt_cmpR op_lt (pv 2) (pe_callB call_len_seq (by rfl) tt.b_len PySem.boot_len (pa_cons (pv 0) pa_nil)) (nomark _)) (pss_one (ps_expr (pe_bm PySem.F.plainAttrs_list PySem.F.slot_list_append PySem.F.type_list_append mt_append (pv 3) (pa_cons (pe_op op_add_T (pe_strT [119,111,114,100,115,32] (by decide +kernel)) (pe_bm PySem.F.plainAttrs_str PySem.F.slot_str_join PySem.F.type_str_join mt_joinS (pe_strT [32] (by decide +kernel)) (pa_cons (pe_slice sl_list (pv 0) (po_some (pv 2)) po_none) pa_nil))) pa_nil)))) pss_nil)
   (pss_one (ps_ret (pv 3)))))),?_⟩
  (try rw [cxK2]);(try rw [cxK1])
  obtain ⟨j,ej,hj⟩:=mod_nat (n/5000) (ws.length:Nat) (by omega)
  refine ⟨_,rfl,_,_,rfl,rfl,⟨by decide,by decide⟩,_,rfl,W,_,rfl,.inl hW,_,_,rfl,rfl,(by rw [List.length_map];omega),_,_,rfl,rfl,?_⟩
  (try dsimp only)
  rw [List.length_map,ej,show (1:Int)+(j:Nat)=((j+1:Nat):Int) by omega]
  have hc:1<=j+1∧j+1<=ws.length:=by omega
  generalize j+1=c at hc ⊢
  have f9:∀ us:List (List Nat),(∀ u∈us,u∈ws)->us.length<=ws.length->us.flatten.length+us.length*1<=1000:=fun us hu hl2=>by
   have:=flat9 (ws:=us) fun u h=>h9 u (hu u h)
   omega
  have hF1:=f9 (ws.take c) (fun u h=>List.mem_of_mem_take h) (by rw [List.length_take];omega)
  have hF2:=f9 (ws.drop c) (fun u h=>List.mem_of_mem_drop h) (by rw [List.length_drop];omega)
  have j1:=jn_ln (c:=32) (ws.take c)
  have j2:=jn_ln (c:=32) (ws.drop c)
  refine ⟨rfl,_,rfl,_,rfl,_,rfl,W,_,rfl,hW,fun p1 hp1=>?_⟩
  rw [show cutV (ws.map T) none (some ((c:Nat):Int))=(ws.take c).map T from cutV_to (by omega)]
  have s1:=same_upd (o:=.lst ((ws.take c).map T)) hp1
  have h1:upd H p1 (.lst ((ws.take c).map T)) p1=some (.lst ((ws.take c).map T)):=upd_same
  generalize upd H p1 (.lst ((ws.take c).map T))=H1 at s1 h1 ⊢
  refine ⟨[32],p1,_,rfl,rfl,SqL.of h1,(by show _+_*1<=sizeLine;omega),_,rfl,_,rfl,(by show 6+_<=sizeLine;omega),(by show 1<=sizeLine;omega),fun R hR=>?_⟩
  rw [jn_words (fun z=>by have:=congrArg List.length z;rw [List.length_take,List.length_nil] at this;omega)]
  have s2:=same_upd (o:=.lst [T (jnS [32] ([119,111,114,100,115]::ws.take c))]) hR
  have hR2:upd H1 R (.lst [T (jnS [32] ([119,111,114,100,115]::ws.take c))]) R=some (.lst [T (jnS [32] ([119,111,114,100,115]::ws.take c))]):=upd_same
  generalize upd H1 R (.lst [T (jnS [32] ([119,111,114,100,115]::ws.take c))])=H2 at s2 hR2 ⊢
  have s12:=s1.trans s2
  have hRn:H R=none:=by
   cases e:H R with
   | none=>rfl
   | some o=>rw [s1 _ _ e] at hR;cases hR
  refine ⟨_,rfl,_,rfl,W,_,rfl,.inl (s12.seq hW),_,_,rfl,rfl,_,rfl,?_⟩
  rw [List.length_map]
  refine ite2 (fun h0=>?_) (fun h0=>?_)
  ·have h0:c<ws.length:=by have:=of_decide_eq_true h0;omega
   refine ⟨_,rfl,.inl ⟨rfl,_,SqL.of hR2⟩,rfl,_,rfl,_,rfl,_,rfl,W,_,rfl,s12.seq hW,fun p3 hp3=>?_⟩
   rw [show cutV (ws.map T) (some ((c:Nat):Int)) none=(ws.drop c).map T from cutV_from (by omega)]
   have s3:=same_upd (o:=.lst ((ws.drop c).map T)) hp3
   have h3:upd H2 p3 (.lst ((ws.drop c).map T)) p3=some (.lst ((ws.drop c).map T)):=upd_same
   generalize upd H2 p3 (.lst ((ws.drop c).map T))=H3 at s3 h3 ⊢
   refine ⟨[32],p3,_,rfl,rfl,SqL.of h3,(by show _+_*1<=sizeLine;omega),_,rfl,_,rfl,(by show 6+_<=sizeLine;omega),R,_,_,rfl,rfl,s3 _ _ hR2,(by show 1<sizeLine;omega),?_⟩
   refine ⟨_,rfl,q R c _ (fun d o e=>?_) hc ?_⟩
   ·rw [upd_ne (fun z=>by rw [z,hRn] at e;cases e)]
    exact s3 _ _ (s12 _ _ e)
   ·rw [upd_same,jn_words (fun z=>by have:=congrArg List.length z;rw [List.length_drop,List.length_nil] at this;omega)]
    unfold laidR
    rw [if_pos h0]
    rfl
  ·have h0:¬ c<ws.length:=fun z=>h0 (decide_eq_true (by omega))
   refine ⟨_,rfl,q R c _ s12 hc ?_⟩
   rw [hR2]
   unfold laidR
   rw [if_neg h0]
   rfl
def spIsW (K:PySem.W.Frag):Sp:=fun vs H Q _=>∃ (p:Addr) (ls:List (List Nat)),vs=[.ref p]∧SqL K H p (ls.map T)∧ls.length<=67∧(∀ x∈ls,x≠[]∧x.length<=9∧∀ c∈x,97<=c∧c<103)∧∀ (b:Bool) (H':Hp),Same H H'->(ls.length<=64->(b=true↔IsWeb ls))->Q (.bl b) H'
theorem ok__law_is_web {f:Addr}{fd:FuncData}(F:Fun K "_law_is_web" "_law_is_web" s__law_is_web f fd)(tt:Txt K mg ad):FnOk P w K mg base (CX2 P w) 1 f fd ["words"] (spIsW K):=by
 refine F.okN2 sc__law_is_web (fun vs H Q E h=>?_) (fun cdv A outer s H vs Q E hr h=>?_)
 ·obtain ⟨p,ls,rfl,_⟩:=h
  rfl
 ·obtain ⟨p,ls,rfl,hp,hl,hw,q⟩:=h
  have hs:sizeLine=16777216:=sizeLine_eq
  refine ⟨_,(pss_cons (ps_set (i:=1) sc__law_is_web.nd rfl (Or.inl rfl) (pe_callB (call_sortedN rfl) (by rfl) tt.b_sorted PyProof.Rows.boot_sorted (pa_cons (pe_callTy (call_setN rfl) (by rfl) tt.b_set (by decide +kernel) (pa_cons (pe_comp cs__law_is_web_0 rfl (pi_list (pv 0)) (fun cl C s' H' fp=>(pe_callB call_len_T (by rfl) tt.b_len PySem.boot_len (pa_cons (pv 0) pa_nil)))) pa_nil)) pa_nil)))
   (pss_one (ps_ret (pe_and (pe_cmpR op_eq_I (pe_callB call_len_seq (by rfl) tt.b_len PySem.boot_len (pa_cons (pv 1) pa_nil)) pe_int (nomark _)) (pe_and (pe_cmpR op_lt (pe_ix ix_list (pv 1) pe_int (fun _ _=>rfl)) pe_int (nomark _)) (pe_one (pe_cmpR op_eq_I (pe_callB call_lenS (by rfl) tt.b_len PySem.boot_len (pa_cons (pe_callTy (call_setT rfl) (by rfl) tt.b_set (by decide +kernel) (pa_cons (pv 0) pa_nil)) pa_nil)) (pe_callB call_len_seq (by rfl) tt.b_len PySem.boot_len (pa_cons (pv 0) pa_nil)) (nomark _)))))))),?_⟩
  (try rw [cxK2]);(try rw [cxK1])
  refine ⟨_,rfl,p,rfl,⟨_,hp⟩,comp_list (fun i=>V.int (((ls.getD i []).length:Nat):Int)) hp (by rw [List.length_map];omega) (fun i x G hx sG N hN=>?_) fun D1 H1 hD1 s1 hd1=>?_⟩
  ·rw [List.getElem?_map,Option.map_eq_some_iff] at hx
   obtain ⟨x,hx,rfl⟩:=hx
   have hxl:=(hw x (List.mem_of_getElem? hx)).2.1
   refine ⟨_,rfl,x,rfl,(by omega),?_⟩
   have:=hN G (Same.refl _)
   rw [List.getD_eq_getElem?_getD,hx] at this
   exact this
  have hd2:H1 D1=some (.lst ((ls.map fun x=>((x.length:Nat):Int)).map V.int)):=by
   rw [hd1,List.length_map]
   congr 2
   rw [List.map_map]
   refine List.ext_getElem (by simp) fun i h1 h2=>?_
   rw [List.length_map,List.length_range] at h1
   simp [List.getD_eq_getElem?_getD,List.getElem?_eq_getElem h1]
  refine ⟨D1,_,rfl,SqL.of hd2,(by rw [List.length_map];omega),fun S ms hSn hnd hml hmm=>?_⟩
  have s2:=same_upd (o:=SetN w S ms) hSn
  have hz:ms.length<64:=by
   have h9:∀ z∈ms,z∈(List.range 10).map fun i:Nat=>((i:Nat):Int):=fun z hz=>by
    obtain ⟨x,hx,rfl⟩:=List.mem_map.mp ((hmm z).mp hz)
    exact List.mem_map.mpr ⟨x.length,List.mem_range.mpr (by have:=(hw x hx).2.1;omega),rfl⟩
   have:=Hg.nd_len hnd h9
   rw [List.length_map,List.length_range] at this
   omega
  refine ⟨S,ms,rfl,upd_same,hz,fun so E hE hpm hpw=>?_⟩
  have s3:=same_upd (o:=.lst (so.map V.int)) hE
  have h3:upd (upd H1 S (SetN w S ms)) E (.lst (so.map V.int)) E=some (.lst (so.map V.int)):=upd_same
  have s13:=s1.trans (s2.trans s3)
  have hso:∀ z,z∈so↔∃ x∈ls,((x.length:Nat):Int)=z:=fun z=>by rw [hpm.mem_iff,hmm,List.mem_map]
  refine ⟨_,rfl,E,_,rfl,.inl (SqL.of h3),_,rfl,_,rfl,_,rfl,?_⟩
  rw [List.length_map]
  by_cases h1:((so.length:Nat):Int)=1
  case neg =>
   rw [if_neg (fun z=>h1 (of_decide_eq_true z))]
   refine q _ _ s13 fun _=>⟨fun z=>(by cases z),fun ⟨n,hn⟩=>absurd ?_ h1⟩
   obtain ⟨hne,_,_,hx,_⟩:=hn
   have hall:∀ z∈so,z=((n:Nat):Int):=fun z hz=>by
    obtain ⟨x,hx1,rfl⟩:=(hso z).mp hz
    rw [(hx x hx1).1]
   obtain ⟨x,hx1⟩:=List.exists_mem_of_ne_nil _ hne
   have hin:=(hso _).mpr ⟨x,hx1,rfl⟩
   have hn2:so.Nodup:=hpm.nodup_iff.mpr hnd
   match so,hin,hall,hn2 with
   | [a],_,_,_=>rfl
   | a::b::r,_,ha,hn2 =>
    have e1:=ha a (List.mem_cons_self ..)
    have e2:=ha b (List.mem_cons_of_mem _ (List.mem_cons_self ..))
    exact absurd (e1.trans e2.symm) ((List.nodup_cons.mp hn2).1 <| by rw [·];exact List.mem_cons_self ..)
  rw [if_pos (decide_eq_true h1)]
  obtain ⟨z0,rfl⟩:∃ z0,so=[z0]:=List.length_eq_one_iff.mp (by omega)
  obtain ⟨x0,hx0,ez⟩:=(hso z0).mp (List.mem_singleton.mpr rfl)
  have hlen:∀ x∈ls,x.length=x0.length:=fun x hx=>by
   have:=List.mem_singleton.mp ((hso _).mpr ⟨x,hx,rfl⟩)
   omega
  have hne:ls≠[]:=fun z=>by rw [z] at hx0;cases hx0
  have hx0':=hw x0 hx0
  have hx0p:0<x0.length:=List.length_pos_iff.mpr hx0'.1
  refine ⟨_,rfl,E,_,_,_,rfl,rfl,SqL.of h3,atI_nat (j:=0) rfl,_,_,rfl,rfl,_,rfl,?_⟩
  by_cases h2:z0<9
  case neg =>
   rw [if_neg (fun z=>h2 (of_decide_eq_true z))]
   refine q _ _ s13 fun _=>⟨fun z=>(by cases z),fun ⟨n,hn⟩=>absurd ?_ h2⟩
   have e1:=(hn.2.2.2.1 x0 hx0).1
   have e2:=hn.2.2.1
   omega
  rw [if_pos (decide_eq_true h2)]
  refine ⟨_,rfl,p,ls,rfl,s13.seq hp,(by omega),fun D4 hD4=>⟨D4,_,rfl,upd_same,_,rfl,p,_,rfl,.inl ((s13.trans (same_upd hD4)).seq hp),_,rfl,_,rfl,?_⟩⟩
  refine q _ _ (s13.trans (same_upd hD4)) fun h64=>⟨fun z=>?_,fun ⟨n,hn⟩=>decide_eq_true (by rw [List.length_map,uniq_len hn.2.2.2.2])⟩
  have z:=of_decide_eq_true z
  rw [List.length_map] at z
  exact ⟨x0.length,hne,h64,⟨hx0p,by omega⟩,fun x hx=>⟨hlen x hx,(hw x hx).2.2⟩,uniq_nd (by omega)⟩
def WdOk (w:List Nat):Prop:=w≠[]∧w.length<=9∧∀ d∈w,97<=d∧d<103
def barTx (b:List Nat):List Nat:=[98,97,114,32]++b
def TOk (ws bs:List (List Nat)):Prop:=(∀ w∈ws,WdOk w)∧ws≠[]∧ws.length<=67∧(∀ t∈bs,BarT t)∧bs.length<=1
def Fin9 (D:Ends)(H:Hp)(W R:Addr)(ws bs:List (List Nat))(o m:Nat):Prop :=
 TOk ws bs∧H W=some (.lst (ws.map T))∧H R=some (.lst ((bs.map barTx).map T))∧webO (noBar bs ws)=o∧(o=0->(noBar bs ws).length=m)∧∀ (tp R':Addr) (rs:List (List (List Nat))) (H':Hp),Same H H'->H' tp=some (.tup [.ref R',T (nameO o),.int (m:Nat)])->H' R'=some (.lst ((rs.map (jnS [32])).map T))->PgOk rs o m->D.rt (.ref tp) H'
theorem noBar_one (t:List Nat)(ws:List (List Nat)):noBar [t] ws=ws.filter fun w=>!sub t w:=by
 unfold noBar
 refine List.filter_congr fun w _=>?_
 show (!(sub t w||false))=_
 rw [Bool.or_false]
theorem bars_one {t:List Nat}(h:BarT t):(∀ u∈[t],BarT u)∧[t].length<=1:=⟨fun u hu=>by rw [List.mem_singleton.mp hu];exact h,Nat.le_refl _⟩
theorem lst9_ok {m:Nat}{w:List Nat}(h:w∈lst9 m):w.length=3∧WdOk w:=by
 obtain ⟨k,_,rfl⟩:=List.mem_map.mp h
 refine ⟨rfl,fun z=>(by cases z),by show 3<=9;decide,fun d hd=>?_⟩
 unfold code9 at hd
 simp only [List.mem_cons,List.not_mem_nil,or_false] at hd
 omega
theorem lst9_len (m:Nat):(lst9 m).length=m:=by unfold lst9;rw [List.length_map,List.length_range]
theorem chk_nd:∀ m∈[3,10,64,65,66,30],(lst9 m).Nodup:=by decide +kernel
theorem chk_c:∀ m∈[3,10,64,65,66,30],((lst9 m).filter fun w=>sub [99] w).length<=64:=by decide +kernel
theorem chk_c2:∀ m∈[3,10,64,65,66,30],(lst9 m).filter (fun w=>sub [99] w)≠[]:=by decide +kernel
theorem chk_f:sub [102,102] [102,102,97]=true:=by decide +kernel
theorem chk_a:sub [102,102] [97,97,97]=false:=by decide +kernel
theorem lst9_a {m:Nat}(h:0<m):[97,97,97]∈lst9 m:=List.mem_map.mpr ⟨0,List.mem_range.mpr h,rfl⟩
theorem web3 {ls:List (List Nat)}(h0:ls≠[])(h64:ls.length<=64)(h:∀ w∈ls,w.length=3∧WdOk w)(hn:ls.Nodup):webO ls=0:=webO_ok (n:=3) ⟨h0,h64,by decide,fun x hx=>⟨(h x hx).1,(h x hx).2.2.2⟩,hn⟩
theorem not_dup {ls:List (List Nat)}{x:List Nat}{i:Nat}(hx:x∈ls):¬ IsWeb (ls.take i++x::ls.drop i):=fun ⟨_,hn⟩=>by
 have h2:=(List.perm_middle (a:=x) (l₁:=ls.take i) (l₂:=ls.drop i)).nodup_iff.mp hn.2.2.2.2
 rw [List.take_append_drop] at h2
 exact (List.nodup_cons.mp h2).1 hx
theorem not_len {ls:List (List Nat)}{x y:List Nat}(hx:x∈ls)(hy:y∈ls)(h:x.length≠y.length):¬ IsWeb ls:=fun ⟨_,hn⟩=>h ((hn.2.2.2.1 x hx).1.trans (hn.2.2.2.1 y hy).1.symm)
theorem ins_mem {ls:List (List Nat)}{x y:List Nat}{i:Nat}:y∈ls.take i++x::ls.drop i↔y=x∨y∈ls:=by
 rw [(List.perm_middle (a:=x) (l₁:=ls.take i) (l₂:=ls.drop i)).mem_iff,List.take_append_drop,List.mem_cons]
theorem ins_len {ls:List (List Nat)}{x:List Nat}{i:Nat}:(ls.take i++x::ls.drop i).length=ls.length+1:=by
 rw [(List.perm_middle (a:=x) (l₁:=ls.take i) (l₂:=ls.drop i)).length_eq,List.take_append_drop,List.length_cons]
theorem pickM {xs:List Nat}{i:Nat}(hi:i<xs.length):∃ L:Nat,L∈xs∧atI (xs.map fun z:Nat=>V.int (z:Nat)) (i:Int)=some (.int (L:Nat)) :=
 ⟨xs[i],List.getElem_mem hi,atI_nat (by rw [List.getElem?_map,List.getElem?_eq_getElem hi];rfl)⟩
theorem pickT {xs:List (List Nat)}{i:Nat}(hi:i<xs.length):∃ x∈xs,atI (xs.map T) (i:Int)=some (T x) :=
 ⟨xs[i],List.getElem_mem hi,atI_nat (by rw [List.getElem?_map,List.getElem?_eq_getElem hi];rfl)⟩
def P1 (c:Prop)(m:Nat)(ws:List (List Nat))(o:Nat):Prop:=(∀ w∈ws,WdOk w)∧ws≠[]∧ws.length<=67∧(c->ws=lst9 m∧o=0)∧(ws.length<=64->webO ws=o)
theorem laid_catT (ws bs:List (List Nat))(c:Nat):((laidR ws c).map (jnS [32])).map T++(bs.map barTx).map T=((laidR ws c++bs.map barRow).map (jnS [32])).map T:=by
 rw [List.map_append,List.map_append]
 congr 1
 simp only [List.map_map]
 rfl
theorem laid_len (ws:List (List Nat))(c:Nat):(laidR ws c).length<=2:=by
 unfold laidR
 split <;> simp
theorem ok__law_told {f:Addr}{fd:FuncData}(F:Fun K "_law_told" "_law_told" s__law_told f fd)(tt:Txt K mg ad)(C__law_listed:Cal P w K mg base (CX2 P w) "_law_listed" 1 ["many"] spListed)(C__law_laid:Cal P w K mg base (CX2 P w) "_law_laid" 1 ["words", "n"] (spLaid K))(C__law_is_web:Cal P w K mg base (CX2 P w) "_law_is_web" 1 ["words"] (spIsW K)):FnOk P w K mg base (CX2 P w) 2 f fd ["n"] spPg9:=by
 refine F.okN2 sc__law_told (fun vs H Q E h=>?_) (fun cdv A outer s H vs Q E hr h=>?_)
 ·obtain ⟨n,rfl,_⟩:=h
  rfl
 ·obtain ⟨n,rfl,q⟩:=h
  have hs:sizeLine=16777216:=sizeLine_eq
  have hu:=Nat.lt_of_succ_lt (hu_of hr)
  refine ⟨_,(pss_cons (ps_set (i:=1) sc__law_told.nd rfl (Or.inl rfl) (pe_cal C__law_listed hr pass2 (pa_cons (pe_ix ix_list (pe_lst (pa_cons pe_int (pa_cons pe_int (pa_cons pe_int (pa_cons pe_int (pa_cons pe_int (pa_cons pe_int pa_nil))))))) (pe_op op_mod (pe_op op_fdiv (pv 0) pe_int) pe_int) (fun _ _=>rfl)) pa_nil)))
   (pss_cons (ps_set (i:=2) sc__law_told.nd rfl (Or.inl rfl) (pe_op op_mod (pv 0) pe_int))
   (pss_cons (ps_set (i:=3) sc__law_told.nd rfl (Or.inl rfl) (pe_strT [102,105,110,101] (by decide +kernel)))
   (pss_cons (ps_set (i:=4) sc__law_told.nd rfl (Or.inl rfl) (pe_op op_mod (pe_op op_fdiv (pv 0) pe_int) (pe_callB call_len_seq (by rfl) tt.b_len PySem.boot_len (pa_cons (pv 1) pa_nil))))
   (pss_cons (ps_set (i:=5) sc__law_told.nd rfl (Or.inl rfl) (pe_lst pa_nil))
   (pss_cons (ps_if (pt_cmpR op_eq_I (pv 2) pe_int (nomark _)) (pss_cons (ps_expr (pe_bm PySem.F.plainAttrs_list PySem.F.slot_list_insert PySem.F.type_list_insert mt_insert (pv 1) (pa_cons (pv 4) (pa_cons (pe_ix ix_list (pv 1) (pe_op op_mod (pe_op op_fdiv (pv 0) pe_int) (pe_callB call_len_seq (by rfl) tt.b_len PySem.boot_len (pa_cons (pv 1) pa_nil))) (fun _ _=>rfl)) pa_nil))))
   (pss_one (ps_set (i:=3) sc__law_told.nd rfl (Or.inl rfl) (pe_strT [119,111,114,100] (by decide +kernel))))) pss_nil)
   (pss_cons (ps_if (pt_cmpR op_eq_I (pv 2) pe_int (nomark _)) (pss_cons (ps_expr (pe_bm PySem.F.plainAttrs_list PySem.F.slot_list_insert PySem.F.type_list_insert mt_insert (pv 1) (pa_cons (pv 4) (pa_cons (pe_ix ix_list (pe_lst (pa_cons (pe_strT [97,98] (by decide +kernel)) (pa_cons (pe_strT [97,98,99,100] (by decide +kernel)) (pa_cons (pe_strT [97] (by decide +kernel)) (pa_cons (pe_strT [102,101,102,101] (by decide +kernel)) (pa_cons (pe_strT [102,101,102,102,101,102,101,102,102] (by decide +kernel)) pa_nil)))))) (pe_op op_mod (pe_op op_fdiv (pv 0) pe_int) pe_int) (fun _ _=>rfl)) pa_nil))))
   (pss_one (ps_set (i:=3) sc__law_told.nd rfl (Or.inl rfl) (pe_strT [119,111,114,100] (by decide +kernel))))) pss_nil)
   (pss_cons (ps_if (PW.pt (pw_and (pt_cmpR op_lt (pv 2) pe_int (nomark _)) (pw_and1 (pt_cmpR op_eq_I (pe_op op_mod (pe_op op_fdiv (pv 0) pe_int) pe_int) pe_int (nomark _))))) (pss_cons (ps_set (i:=5) sc__law_told.nd rfl (Or.inl rfl) (pe_lst (pa_cons (pe_strT [98,97,114,32,102,101] (by decide +kernel)) pa_nil)))
   (pss_cons (ps_setCompf (i:=6) cs__law_told_0 rfl (pi_list (pv 1)) (fun cl C s' H' fp=>(pt_cmpR op_notIn_str (pe_strT [102,101] (by decide +kernel)) (pv 0) (by with_unfolding_all rfl))) (fun cl C s' H' fp=>(pv 0)) sc__law_told.nd rfl rfl)
   (pss_cons (ps_set (i:=3) sc__law_told.nd rfl (Or.inl rfl) (pe_ix ix_list (pe_lst (pa_cons (pe_strT [119,111,114,100] (by decide +kernel)) (pa_cons (pe_strT [102,105,110,101] (by decide +kernel)) pa_nil))) (pe_callTy call_intB (by rfl) tt.b_int (by decide +kernel) (pa_cons (pe_cal C__law_is_web hr pass2 (pa_cons (pv 6) pa_nil)) pa_nil)) (fun _ _=>rfl)))
   (pss_cons (ps_if (pt_cmpR op_gt (pe_callB call_len_seq (by rfl) tt.b_len PySem.boot_len (pa_cons (pv 6) pa_nil)) pe_int (nomark _)) (pss_one (ps_set (i:=3) sc__law_told.nd rfl (Or.inl rfl) (pe_strT [109,97,110,121] (by decide +kernel)))) pss_nil)
   (pss_one (ps_wk (t':=(fun D σ H=>∃ (n:Nat) (W R U:Addr) (ws bs us:List (List Nat)) (o:Nat) (v2 v4 v7:Option V),σ=[some (.int (n:Nat)),some (.ref W),v2,some (T (nameO o)),v4,some (.ref R),some (.ref U),v7]∧H U=some (.lst (us.map T))∧Fin9 D H W R ws bs o us.length)) (ps_ret (pe_tup (pa_cons (pe_op op_catL (pe_cal C__law_laid hr pass2 (pa_cons (pv 1) (pa_cons (pv 0) pa_nil))) (pv 5)) (pa_cons (pv 3) (pa_cons (pe_callB call_len_seq (by rfl) tt.b_len PySem.boot_len (pa_cons (pv 6) pa_nil)) pa_nil))))) ?r1)))))) pss_nil)
   (pss_cons (ps_if (pt_cmpR op_eq_I (pv 2) pe_int (nomark _)) (pss_cons (ps_set (i:=1) sc__law_told.nd rfl (Or.inl rfl) (pe_op op_catL (pe_lst (pa_cons (pe_strT [97,98,99,97,98,99,97,98,99] (by decide +kernel)) pa_nil)) (pe_slice sl_list (pv 1) po_none (po_some pe_int))))
   (pss_one (ps_set (i:=3) sc__law_told.nd rfl (Or.inl rfl) (pe_strT [119,111,114,100] (by decide +kernel))))) pss_nil)
   (pss_cons (ps_if (pt_cmpR op_eq_I (pv 2) pe_int (nomark _)) (pss_cons (ps_setCompf (i:=1) cs__law_told_1 rfl (pi_list (pv 1)) (fun cl C s' H' fp=>(pt_cmpR op_in_str (pe_strT [99] (by decide +kernel)) (pv 0) (by with_unfolding_all rfl))) (fun cl C s' H' fp=>(pv 0)) sc__law_told.nd rfl rfl)
   (pss_cons (ps_set (i:=5) sc__law_told.nd rfl (Or.inl rfl) (pe_lst (pa_cons (pe_strT [98,97,114,32,99] (by decide +kernel)) pa_nil)))
   (pss_one (ps_set (i:=3) sc__law_told.nd rfl (Or.inl rfl) (pe_strT [119,111,114,100] (by decide +kernel)))))) pss_nil)
   (pss_cons (ps_if (pt_cmpR op_eq_I (pv 2) pe_int (nomark _)) (pss_cons (ps_expr (pe_bm PySem.F.plainAttrs_list PySem.F.slot_list_append PySem.F.type_list_append mt_append (pv 1) (pa_cons (pe_strT [102,102,97] (by decide +kernel)) pa_nil)))
   (pss_one (ps_set (i:=5) sc__law_told.nd rfl (Or.inl rfl) (pe_lst (pa_cons (pe_strT [98,97,114,32,102,102] (by decide +kernel)) pa_nil))))) pss_nil)
   (pss_cons (ps_if (PW.pt (pw_and (pt_cmpR op_gt (pe_callB call_len_seq (by rfl) tt.b_len PySem.boot_len (pa_cons (pv 1) pa_nil)) pe_int (nomark _)) (pw_and1 (pt_cmpR op_lt (pv 2) pe_int (nomark _))))) (pss_one (ps_set (i:=3) sc__law_told.nd rfl (Or.inl rfl) (pe_strT [109,97,110,121] (by decide +kernel)))) pss_nil)
   (pss_cons (ps_set (i:=7) sc__law_told.nd rfl (Or.inl rfl) (pe_callB call_len_seq (by rfl) tt.b_len PySem.boot_len (pa_cons (pv 1) pa_nil)))
   (pss_cons (ps_if (pt_cmpR op_eq_I (pv 2) pe_int (nomark _)) (pss_one (ps_set (i:=7) sc__law_told.nd rfl (Or.inl rfl) (pe_callB call_len_seq (by rfl) tt.b_len PySem.boot_len (pa_cons (pe_compf cs__law_told_2 rfl (pi_list (pv 1)) (fun cl C s' H' fp=>(pt_cmpR op_notIn_str (pe_strT [102,102] (by decide +kernel)) (pv 0) (by with_unfolding_all rfl))) (fun cl C s' H' fp=>(pv 0))) pa_nil)))) pss_nil)
   (pss_cons (ps_if (pt_cmpR op_gt (pv 7) pe_int (nomark _)) (pss_one (ps_set (i:=3) sc__law_told.nd rfl (Or.inl rfl) (pe_strT [109,97,110,121] (by decide +kernel)))) pss_nil)
   (pss_cons (ps_if (PW.pt (pw_and (pt_cmpR op_eq_I (pv 2) pe_int (nomark _)) (pw_and1 (pt_cmpR (op_eq_LT hu) (pv 1) (pe_lst pa_nil) (nomark _))))) (pss_one (ps_set (i:=1) sc__law_told.nd rfl (Or.inl rfl) (pe_lst (pa_cons (pe_strT [99,99] (by decide +kernel)) pa_nil)))) pss_nil)
   (pss_one (ps_wk (t':=(fun D σ H=>∃ (n:Nat) (W R:Addr) (ws bs:List (List Nat)) (o m:Nat) (v2 v4 v6:Option V),σ=[some (.int (n:Nat)),some (.ref W),v2,some (T (nameO o)),v4,some (.ref R),v6,some (.int (m:Nat))]∧Fin9 D H W R ws bs o m)) (ps_ret (pe_tup (pa_cons (pe_op op_catL (pe_cal C__law_laid hr pass2 (pa_cons (pv 1) (pa_cons (pv 0) pa_nil))) (pv 5)) (pa_cons (pv 3) (pa_cons (pv 7) pa_nil))))) ?r2)))))))))))))))))),?_⟩
  (try rw [cxK2]);(try rw [cxK1])
  case r1 =>
   rintro D σ H ⟨n,W,R,U,ws,bs,us,o,v2,v4,v7,rfl,hU,ht,hW,hR,ho,hm,q⟩
   refine ⟨_,rfl,_,rfl,W,ws,_,rfl,SqL.of hW,ht.2.1,ht.2.2.1,fun w hw=>(ht.1 w hw).2.1,fun R1 c H1 s1 hc hR1=>?_⟩
   refine ⟨_,rfl,R1,R,_,_,rfl,rfl,SqL.of hR1,SqL.of (s1 _ _ hR),(by have:=laid_len ws c;have:=ht.2.2.2.2;simp only [List.length_map];omega),fun R2 hR2=>?_⟩
   rw [laid_catT]
   have s2:=same_upd (o:=.lst (((laidR ws c++bs.map barRow).map (jnS [32])).map T)) hR2
   have h2:upd H1 R2 (.lst (((laidR ws c++bs.map barRow).map (jnS [32])).map T)) R2=some (.lst (((laidR ws c++bs.map barRow).map (jnS [32])).map T)):=upd_same
   generalize upd H1 R2 (.lst (((laidR ws c++bs.map barRow).map (jnS [32])).map T))=H2 at s2 h2 ⊢
   refine ⟨_,rfl,_,rfl,U,_,rfl,.inl (SqL.of (s2 _ _ (s1 _ _ hU))),(by show 3<=sizeLine;omega),fun tp htp=>?_⟩
   rw [List.length_map]
   have pg:=told_pg (c:=c) ht.1 ht.2.2.1 ht.2.2.2.1 ht.2.2.2.2 hc
   rw [ho] at pg
   refine q tp R2 _ _ (s1.trans (s2.trans (same_upd htp))) upd_same (same_upd htp _ _ h2) ?_
   by_cases z:o=0
   ·rw [<- hm z];exact pg
   ·exact pg.any z
  case r2 =>
   rintro D σ H ⟨n,W,R,ws,bs,o,m,v2,v4,v6,rfl,ht,hW,hR,ho,hm,q⟩
   refine ⟨_,rfl,_,rfl,W,ws,_,rfl,SqL.of hW,ht.2.1,ht.2.2.1,fun w hw=>(ht.1 w hw).2.1,fun R1 c H1 s1 hc hR1=>?_⟩
   refine ⟨_,rfl,R1,R,_,_,rfl,rfl,SqL.of hR1,SqL.of (s1 _ _ hR),(by have:=laid_len ws c;have:=ht.2.2.2.2;simp only [List.length_map];omega),fun R2 hR2=>?_⟩
   rw [laid_catT]
   have s2:=same_upd (o:=.lst (((laidR ws c++bs.map barRow).map (jnS [32])).map T)) hR2
   have h2:upd H1 R2 (.lst (((laidR ws c++bs.map barRow).map (jnS [32])).map T)) R2=some (.lst (((laidR ws c++bs.map barRow).map (jnS [32])).map T)):=upd_same
   generalize upd H1 R2 (.lst (((laidR ws c++bs.map barRow).map (jnS [32])).map T))=H2 at s2 h2 ⊢
   refine ⟨_,rfl,_,rfl,(by show 3<=sizeLine;omega),fun tp htp=>?_⟩
   have pg:=told_pg (c:=c) ht.1 ht.2.2.1 ht.2.2.2.1 ht.2.2.2.2 hc
   rw [ho] at pg
   refine q tp R2 _ _ (s1.trans (s2.trans (same_upd htp))) upd_same (same_upd htp _ _ h2) ?_
   by_cases z:o=0
   ·rw [<- hm z];exact pg
   ·exact pg.any z
  obtain ⟨m,hm,em⟩:=pickM (xs:=[3,10,64,65,66,30]) (i:=n/7 % 6) (Nat.mod_lt _ (by decide))
  have hm2:3<=m∧m<=66:=by simp only [List.mem_cons,List.not_mem_nil,or_false] at hm;omega
  refine ⟨(by show 6<=sizeLine;omega),fun p1 hp1=>⟨_,rfl,_,_,rfl,rfl,⟨by decide,by decide⟩,_,_,rfl,rfl,(by show (0:Int)<6;decide),p1,_,_,_,rfl,rfl,SqL.of upd_same,em,m,rfl,(by omega),fun W H2 hWn s2 hW=>?_⟩⟩
  have s02:=(same_upd hp1).trans s2
  have hWH:H W=none:=by
   cases e:H W with
   | none=>rfl
   | some o=>rw [same_upd hp1 _ _ e] at hWn;cases hWn
  clear hWn s2
  refine ⟨_,rfl,_,_,rfl,rfl,(by show (0:Int)<7;decide),?_⟩
  (try dsimp only)
  rw [show ((n:Nat):Int) % 7=((n % 7:Nat):Int) from rfl]
  generalize n % 7=wy
  obtain ⟨at_,eat,hat⟩:=mod_nat ((n:Int)/50) (m:Nat) (by omega)
  refine ⟨_,rfl,_,_,rfl,rfl,⟨by decide,by decide⟩,_,rfl,W,_,rfl,.inl (SqL.of hW),_,_,rfl,rfl,(by rw [List.length_map,lst9_len];omega),?_⟩
  (try dsimp only)
  rw [List.length_map,lst9_len,eat]
  refine ⟨(by show 0<=sizeLine;omega),fun R hR=>?_⟩
  have s3:=same_upd (o:=.lst []) hR
  have hR3:upd H2 R (.lst []) R=some (.lst []):=upd_same
  have hRW:R≠W:=fun z=>by rw [z,hW] at hR;cases hR
  generalize upd H2 R (.lst [])=H3 at s3 hR3 ⊢
  have hW3:=s3 _ _ hW
  have s03:=s02.trans s3
  have okW:∀ w∈lst9 m,WdOk w:=fun w h=>(lst9_ok h).2
  have ne9:lst9 m≠[]:=fun z=>by have:=lst9_len m;rw [z] at this;show False;simp at this;omega
  have p0:∀ c:Prop,P1 c m (lst9 m) 0:=fun c=>⟨okW,ne9,by rw [lst9_len];omega,fun _=>⟨rfl,rfl⟩,fun h=>web3 ne9 h (fun w=>lst9_ok) (chk_nd m hm)⟩
  have put:∀ (x:List Nat) (c:Prop) (G:Hp),WdOk x->¬ IsWeb ((lst9 m).take at_++x::(lst9 m).drop at_)->¬ c->Same H G->G R=some (.lst [])->P1 c m ((lst9 m).take at_++x::(lst9 m).drop at_) 2∧Same H (upd G W (.lst (((lst9 m).map T).take at_++T x::((lst9 m).map T).drop at_)))∧upd G W (.lst (((lst9 m).map T).take at_++T x::((lst9 m).map T).drop at_)) W=some (.lst (((lst9 m).take at_++x::(lst9 m).drop at_).map T))∧upd G W (.lst (((lst9 m).map T).take at_++T x::((lst9 m).map T).drop at_)) R=some (.lst []):=fun x c G hx hnw hc sG hRG=>by
   refine ⟨⟨fun w hw=>?_,fun z=>(by cases List.append_eq_nil_iff.mp z |>.2),by rw [ins_len,lst9_len];omega,fun z=>absurd z hc,fun h=>webO_no h hnw⟩,fun d o e=>?_,?_,?_⟩
   ·rcases ins_mem.mp hw with rfl | h
    ·exact hx
    ·exact okW w h
   ·rw [upd_ne (fun z=>by rw [z,hWH] at e;cases e)]
    exact sG _ _ e
   ·rw [upd_same,List.map_append,List.map_cons,List.map_take,List.map_drop]
   ·rw [upd_ne hRW]
    exact hRG
  refine ⟨_,rfl,_,rfl,_,rfl,_,rfl,?_⟩
  (try dsimp only [gName,tSeq,tNext])
  refine if_join2 (fun σ G=>∃ (ws:List (List Nat)) (o:Nat),σ=[some (.int (n:Nat)),some (.ref W),some (.int (wy:Nat)),some (T (nameO o)),some (.int (at_:Nat)),some (.ref R),none,none]∧Same H G∧G W=some (.lst (ws.map T))∧G R=some (.lst [])∧P1 (wy≠1) m ws o) (fun σ G hG=>?_) (fun h1 hN=>?_) (fun h1=>⟨_,0,rfl,s03,hW3,hR3,p0 _⟩)
  rotate_left
  ·have h1:(wy:Int)=1:=of_decide_eq_true h1
   obtain ⟨j,ej,hj⟩:=mod_nat ((n:Int)/500) (m:Nat) (by omega)
   obtain ⟨x,hx,ex⟩:=pickT (xs:=lst9 m) (i:=j) (by rw [lst9_len];omega)
   refine ⟨_,rfl,.inl ⟨rfl,_,SqL.of hW3⟩,_,rfl,_,rfl,_,rfl,_,_,rfl,rfl,⟨by decide,by decide⟩,_,rfl,W,_,rfl,.inl (SqL.of hW3),_,_,rfl,rfl,(by rw [List.length_map,lst9_len];omega),W,_,_,T x,rfl,rfl,SqL.of hW3,(by rw [List.length_map,lst9_len,ej];exact ex),W,_,at_,T x,rfl,rfl,hW3,(by rw [List.length_map,lst9_len];omega),(by rw [List.length_map,lst9_len];omega),?_⟩
   obtain ⟨a1,a2,a3,a4⟩:=put x (wy≠1) H3 (okW x hx) (not_dup hx) (fun z=>z (by omega)) s03 hR3
   exact hN _ _ ⟨_,2,rfl,a2,a3,a4,a1⟩
  obtain ⟨ws1,o1,rfl,s1,hW1,hR1,hP1⟩:=hG
  refine ⟨_,rfl,_,rfl,_,rfl,_,rfl,?_⟩
  (try dsimp only [gName,tSeq,tNext])
  refine if_join2 (fun σ G=>∃ (ws:List (List Nat)) (o:Nat),σ=[some (.int (n:Nat)),some (.ref W),some (.int (wy:Nat)),some (T (nameO o)),some (.int (at_:Nat)),some (.ref R),none,none]∧Same H G∧G W=some (.lst (ws.map T))∧G R=some (.lst [])∧P1 (3<=wy) m ws o) (fun σ G hG=>?_) (fun h1 hN=>?_) (fun h1=>⟨_,o1,rfl,s1,hW1,hR1,hP1.1,hP1.2.1,hP1.2.2.1,fun z=>hP1.2.2.2.1 (by omega),hP1.2.2.2.2⟩)
  rotate_left
  ·have h1:(wy:Int)=2:=of_decide_eq_true h1
   obtain ⟨rfl,rfl⟩:=hP1.2.2.2.1 (by omega)
   obtain ⟨x,hx,ex⟩:=pickT (xs:=[[97,98],[97,98,99,100],[97],[102,101,102,101],[102,101,102,102,101,102,101,102,102]]) (i:=n/500 % 5) (Nat.mod_lt _ (by decide))
   have hx2:∀ x∈[[97,98],[97,98,99,100],[97],[102,101,102,101],[102,101,102,102,101,102,101,102,102]],(x≠[]∧x.length<=9∧∀ d∈x,97<=d∧d<103)∧x.length≠3:=by decide
   refine ⟨_,rfl,.inl ⟨rfl,_,SqL.of hW1⟩,_,rfl,(by show 5<=sizeLine;omega),fun p4 hp4=>?_⟩
   have s4:=same_upd (o:=.lst [T [97,98],T [97,98,99,100],T [97],T [102,101,102,101],T [102,101,102,102,101,102,101,102,102]]) hp4
   have h4:upd G p4 (.lst [T [97,98],T [97,98,99,100],T [97],T [102,101,102,101],T [102,101,102,102,101,102,101,102,102]]) p4=some (.lst [T [97,98],T [97,98,99,100],T [97],T [102,101,102,101],T [102,101,102,102,101,102,101,102,102]]):=upd_same
   generalize upd G p4 (.lst [T [97,98],T [97,98,99,100],T [97],T [102,101,102,101],T [102,101,102,102,101,102,101,102,102]])=G4 at s4 h4 ⊢
   refine ⟨_,rfl,_,_,rfl,rfl,⟨by decide,by decide⟩,_,_,rfl,rfl,(by show (0:Int)<5;decide),p4,_,_,T x,rfl,rfl,SqL.of h4,ex,W,_,at_,T x,rfl,rfl,s4 _ _ hW1,(by rw [List.length_map,lst9_len];omega),(by rw [List.length_map,lst9_len];omega),?_⟩
   obtain ⟨y,hy⟩:=List.exists_mem_of_ne_nil _ ne9
   obtain ⟨a1,a2,a3,a4⟩:=put x (3<=wy) G4 (hx2 x hx).1 (not_len (ins_mem.mpr (.inl rfl)) (ins_mem.mpr (.inr hy)) (by rw [(lst9_ok hy).1];exact (hx2 x hx).2)) (fun z=>by omega) (s1.trans s4) (s4 _ _ hR1)
   exact hN _ _ ⟨_,2,rfl,a2,a3,a4,a1⟩
  clear hP1 hR1 hW1 s1
  obtain ⟨ws1,o1,rfl,s1,hW1,hR1,hw1,hne1,hl1,hP1,hO1⟩:=hG
  refine tAnd_is (decide ((wy:Int)<3)) (decide ((n:Int)/3000 % 2=1)) (fun N hN=>⟨_,rfl,_,_,rfl,rfl,_,rfl,hN⟩) (fun _ N hN=>⟨_,rfl,_,_,rfl,rfl,⟨by decide,by decide⟩,_,_,rfl,rfl,(by show (0:Int)<2;decide),_,rfl,_,rfl,_,rfl,hN⟩) ?_
  refine ite2 (fun hb=>?_) (fun hb=>?_)
  ·refine ⟨(by show 1<=sizeLine;omega),fun R2 hR2=>?_⟩
   have s4:=same_upd (o:=.lst [T [98,97,114,32,102,101]]) hR2
   have h4:upd G R2 (.lst [T [98,97,114,32,102,101]]) R2=some (.lst (([[102,101]].map barTx).map T)):=upd_same
   generalize upd G R2 (.lst [T [98,97,114,32,102,101]])=G4 at s4 h4 ⊢
   have hW4:=s4 _ _ hW1
   refine ⟨_,rfl,W,rfl,⟨_,SqL.of hW4⟩,compf_texts (fun x=>!sub [102,101] x) (SqL.of hW4) (by omega) (fun j x H5 hx s5 N hN=>⟨_,rfl,tx [102,101],tx x,rfl,rfl,_,rfl,hN H5 (Same.refl _)⟩) (fun x H5 N hN=>⟨_,rfl,hN⟩) fun U G5 hU s5 hU5=>?_⟩
   rw [<- noBar_one] at hU5
   have husub:∀ x∈noBar [[102,101]] ws1,x∈ws1:=fun x hx=>(List.mem_filter.mp hx).1
   have husl:(noBar [[102,101]] ws1).length<=67:=Nat.le_trans (List.length_filter_le ..) hl1
   refine ⟨(by show 2<=sizeLine;omega),fun p6 hp6=>?_⟩
   have s6:=same_upd (o:=.lst [T [119,111,114,100],T [102,105,110,101]]) hp6
   have h6:upd G5 p6 (.lst [T [119,111,114,100],T [102,105,110,101]]) p6=some (.lst [T [119,111,114,100],T [102,105,110,101]]):=upd_same
   generalize upd G5 p6 (.lst [T [119,111,114,100],T [102,105,110,101]])=G6 at s6 h6 ⊢
   refine ⟨_,rfl,U,_,rfl,SqL.of (s6 _ _ hU5),husl,fun x hx=>hw1 x (husub x hx),fun b G7 s7 hb7=>?_⟩
   refine ⟨b,rfl,p6,_,_,T (nameO (if b=true then 0 else 2)),rfl,rfl,SqL.of (s7 _ _ h6),(by cases b <;> rfl),?_⟩
   have hU7:=s7 _ _ (s6 _ _ hU5)
   refine ⟨_,rfl,U,_,rfl,.inl (SqL.of hU7),_,_,rfl,rfl,_,rfl,?_⟩
   rw [List.length_map]
   have s47:=s5.trans (s6.trans s7)
   have tok:TOk ws1 [[102,101]]:=⟨hw1,hne1,hl1,bars_one ⟨by decide,by decide,by decide⟩⟩
   refine ite2 (fun h8=>?_) (fun h8=>?_)
   ·exact ⟨n,W,R2,U,ws1,[[102,101]],_,3,_,_,_,rfl,hU7,tok,s47 _ _ hW4,s47 _ _ h4,webO_many (by have:=of_decide_eq_true h8;omega),fun z=>(by cases z),fun tp R' rs H' sH h1 h2 h3=>q tp R' rs _ _ H' (s1.trans (s4.trans (s47.trans sH))) h1 h2 h3⟩
   ·have h64:(noBar [[102,101]] ws1).length<=64:=Nat.le_of_not_lt fun z=>h8 (decide_eq_true (by omega))
    have ho:webO (noBar [[102,101]] ws1)=if b=true then 0 else 2:=by
     cases b with
     | true =>
      obtain ⟨k,hk⟩:=(hb7 h64).mp rfl
      exact webO_ok hk
     | false=>exact webO_no h64 fun z=>by have:=(hb7 h64).mpr z;cases this
    exact ⟨n,W,R2,U,ws1,[[102,101]],_,_,_,_,_,rfl,hU7,tok,s47 _ _ hW4,s47 _ _ h4,ho,fun _=>rfl,fun tp R' rs H' sH h1 h2 h3=>q tp R' rs _ _ H' (s1.trans (s4.trans (s47.trans sH))) h1 h2 h3⟩
  refine ⟨_,rfl,_,rfl,_,rfl,_,rfl,?_⟩
  (try dsimp only [gName,tSeq,tNext])
  refine if_join2 (fun σ G=>∃ (W':Addr) (ws:List (List Nat)) (o:Nat),σ=[some (.int (n:Nat)),some (.ref W'),some (.int (wy:Nat)),some (T (nameO o)),some (.int (at_:Nat)),some (.ref R),none,none]∧Same H G∧G W'=some (.lst (ws.map T))∧G R=some (.lst [])∧(∀ w∈ws,WdOk w)∧ws≠[]∧ws.length<=67∧(4<=wy->W'=W∧ws=lst9 m∧o=0)∧(ws.length<=64->webO ws=o)) (fun σ G hG=>?_) (fun h3 hN=>?_) (fun h3=>⟨W,ws1,o1,rfl,s1,hW1,hR1,hw1,hne1,hl1,fun z=>⟨rfl,hP1 (by omega)⟩,hO1⟩)
  rotate_left
  ·have h3:(wy:Int)=3:=of_decide_eq_true h3
   refine ⟨(by show 1<=sizeLine;omega),fun p4 hp4=>?_⟩
   have s4:=same_upd (o:=.lst [T [97,98,99,97,98,99,97,98,99]]) hp4
   have h4:upd G p4 (.lst [T [97,98,99,97,98,99,97,98,99]]) p4=some (.lst [T [97,98,99,97,98,99,97,98,99]]):=upd_same
   generalize upd G p4 (.lst [T [97,98,99,97,98,99,97,98,99]])=G4 at s4 h4 ⊢
   refine ⟨_,rfl,_,rfl,W,_,rfl,SqL.of (s4 _ _ hW1),fun p5 hp5=>?_⟩
   rw [show cutV (ws1.map T) none (some 0)=[] from cutV_to (ls:=ws1) (k:=0) (Nat.zero_le _)]
   have s5:=same_upd (o:=.lst []) hp5
   have h5:upd G4 p5 (.lst []) p5=some (.lst []):=upd_same
   generalize upd G4 p5 (.lst [])=G5 at s5 h5 ⊢
   refine ⟨p4,p5,_,_,rfl,rfl,SqL.of (s5 _ _ h4),SqL.of h5,(by show 1+0<=sizeLine;omega),fun p6 hp6=>?_⟩
   have s6:=same_upd (o:=.lst [T [97,98,99,97,98,99,97,98,99]]) hp6
   exact hN _ _ ⟨p6,[[97,98,99,97,98,99,97,98,99]],2,rfl,s1.trans (s4.trans (s5.trans s6)),upd_same,s6 _ _ (s5 _ _ (s4 _ _ hR1)),fun w hw=>(by rw [List.mem_singleton.mp hw];exact ⟨by decide,by decide,by decide⟩),(by decide),(by decide),fun z=>(by omega),fun _=>webO_no (by decide) fun ⟨k,hk⟩=>(by have e1:9=k:=(hk.2.2.2.1 _ (List.mem_singleton.mpr rfl)).1;have:=hk.2.2.1;omega)⟩
  clear hP1 hO1 hR1 hW1 s1 hw1 hl1 hne1
  obtain ⟨W2,ws2,o2,rfl,s2,hW2,hR2,hw2,hne2,hl2,hP2,hO2⟩:=hG
  refine ⟨_,rfl,_,rfl,_,rfl,_,rfl,?_⟩
  (try dsimp only [gName,tSeq,tNext])
  refine if_join2 (fun σ G=>∃ (W' R':Addr) (ws bs:List (List Nat)) (o:Nat),σ=[some (.int (n:Nat)),some (.ref W'),some (.int (wy:Nat)),some (T (nameO o)),some (.int (at_:Nat)),some (.ref R'),none,none]∧Same H G∧G W'=some (.lst (ws.map T))∧G R'=some (.lst ((bs.map barTx).map T))∧TOk ws bs∧(wy=4->ws.length<=64∧o=2)∧(wy≠4->bs=[])∧(wy=5->W'=W∧ws=lst9 m∧o=0)∧((noBar bs ws).length<=64->webO (noBar bs ws)=o)) (fun σ G hG=>?_) (fun h3 hN=>?_) (fun h3=>⟨W2,R,ws2,[],o2,rfl,s2,hW2,hR2,⟨hw2,hne2,hl2,fun t z=>(by cases z),Nat.zero_le _⟩,fun z=>absurd (decide_eq_true (by omega)) h3,fun _=>rfl,fun z=>hP2 (by omega),by rw [noBar_nil];exact hO2⟩)
  rotate_left
  ·have h3:(wy:Int)=4:=of_decide_eq_true h3
   obtain ⟨rfl,rfl,rfl⟩:=hP2 (by omega)
   refine ⟨_,rfl,W2,rfl,⟨_,SqL.of hW2⟩,compf_texts (fun x=>sub [99] x) (SqL.of hW2) (by omega) (fun j x H5 hx s5 N hN=>⟨_,rfl,tx [99],tx x,rfl,rfl,_,rfl,hN H5 (Same.refl _)⟩) (fun x H5 N hN=>⟨_,rfl,hN⟩) fun U G5 hU s5 hU5=>?_⟩
   refine ⟨(by show 1<=sizeLine;omega),fun R6 hR6=>?_⟩
   have s6:=same_upd (o:=.lst [T [98,97,114,32,99]]) hR6
   have hnil:noBar [[99]] ((lst9 m).filter fun w=>sub [99] w)=[]:=by
    rw [noBar_one]
    refine List.filter_eq_nil_iff.mpr fun w hw=>?_
    rw [(List.mem_filter.mp hw).2]
    decide
   exact hN _ _ ⟨U,R6,_,[[99]],2,rfl,s2.trans (s5.trans s6),s6 _ _ hU5,upd_same,⟨fun w hw=>hw2 w (List.mem_filter.mp hw).1,chk_c2 m hm,Nat.le_trans (chk_c m hm) (by decide),bars_one ⟨by decide,by decide,by decide⟩⟩,fun _=>⟨chk_c m hm,rfl⟩,fun z=>absurd (by omega) z,fun z=>(by omega),fun _=>(by rw [hnil];exact webO_no (by decide) fun ⟨k,hk⟩=>hk.1 rfl)⟩
  clear hP2 hO2 hR2 hW2 s2 hw2 hl2 hne2
  obtain ⟨W2,R2,ws2,bs2,o2,rfl,s2,hW2,hR2,tok2,hf2,hb2,hP2,hO2⟩:=hG
  refine ⟨_,rfl,_,rfl,_,rfl,_,rfl,?_⟩
  (try dsimp only [gName,tSeq,tNext])
  refine if_join2 (fun σ G=>∃ (W' R':Addr) (ws bs:List (List Nat)) (o:Nat),σ=[some (.int (n:Nat)),some (.ref W'),some (.int (wy:Nat)),some (T (nameO o)),some (.int (at_:Nat)),some (.ref R'),none,none]∧Same H G∧G W'=some (.lst (ws.map T))∧G R'=some (.lst ((bs.map barTx).map T))∧TOk ws bs∧(wy=4->ws.length<=64∧o=2)∧(wy=5->bs=[[102,102]])∧(wy≠4->wy≠5->bs=[])∧((noBar bs ws).length<=64->webO (noBar bs ws)=o)) (fun σ G hG=>?_) (fun h3 hN=>?_) (fun h3=>⟨W2,R2,ws2,bs2,o2,rfl,s2,hW2,hR2,tok2,hf2,fun z=>absurd (decide_eq_true (by omega)) h3,fun z _=>hb2 z,hO2⟩)
  rotate_left
  ·have h3:(wy:Int)=5:=of_decide_eq_true h3
   obtain ⟨rfl,rfl,rfl⟩:=hP2 (by omega)
   obtain rfl:=hb2 (by omega)
   refine ⟨_,rfl,.inl ⟨rfl,_,SqL.of hW2⟩,W2,_,_,rfl,rfl,hW2,(by rw [List.length_map,lst9_len];omega),?_⟩
   have sa:Same H (upd G W2 (.lst ((lst9 m).map T++[T [102,102,97]]))):=fun d o e=>by
    rw [upd_ne (fun z=>by rw [z,hWH] at e;cases e)]
    exact s2 _ _ e
   have ha:upd G W2 (.lst ((lst9 m).map T++[T [102,102,97]])) W2=some (.lst ((lst9 m++[[102,102,97]]).map T)):=by rw [upd_same,List.map_append];rfl
   generalize upd G W2 (.lst ((lst9 m).map T++[T [102,102,97]]))=G4 at sa ha ⊢
   refine ⟨(by show 1<=sizeLine;omega),fun R6 hR6=>?_⟩
   have s6:=same_upd (o:=.lst [T [98,97,114,32,102,102]]) hR6
   have hk:noBar [[102,102]] (lst9 m++[[102,102,97]])=(lst9 m).filter fun w=>!sub [102,102] w:=by
    rw [noBar_one,List.filter_append,show ([[102,102,97]].filter fun w=>!sub [102,102] w)=[] from List.filter_eq_nil_iff.mpr fun w hw=>by rw [List.mem_singleton.mp hw,chk_f];decide,List.append_nil]
   refine hN _ _ ⟨W2,R6,_,[[102,102]],0,rfl,sa.trans s6,s6 _ _ ha,upd_same,⟨fun w hw=>?_,fun z=>(by cases (List.append_eq_nil_iff.mp z).2),by rw [List.length_append,lst9_len];show m+1<=67;omega,bars_one ⟨by decide,by decide,by decide⟩⟩,fun z=>(by omega),fun _=>rfl,fun _ z=>absurd (by omega) z,fun h=>?_⟩
   ·rcases List.mem_append.mp hw with h | h
    ·exact okW w h
    ·rw [List.mem_singleton.mp h]
     exact ⟨by decide,by decide,by decide⟩
   ·rw [hk] at h ⊢
    refine web3 (fun z=>?_) h (fun w hw=>lst9_ok (List.mem_filter.mp hw).1) ((chk_nd m hm).filter _)
    have:[97,97,97]∈(lst9 m).filter fun w=>!sub [102,102] w:=List.mem_filter.mpr ⟨lst9_a (by omega),by rw [chk_a];rfl⟩
    rw [z] at this
    cases this
  clear hP2 hO2 hR2 hW2 s2 hf2 hb2 tok2
  obtain ⟨W2,R2,ws2,bs2,o2,rfl,s2,hW2,hR2,tok2,hf2,hb2,hc2,hO2⟩:=hG
  refine tAnd_is (decide (64<(((ws2.map T).length:Nat):Int))) (decide ((wy:Int)<4)) (fun N hN=>⟨_,rfl,W2,_,rfl,.inl (SqL.of hW2),_,_,rfl,rfl,_,rfl,hN⟩) (fun _ N hN=>⟨_,rfl,_,_,rfl,rfl,_,rfl,hN⟩) ?_
  (try dsimp only [gName,tSeq,tNext])
  refine if_join2 (fun σ G'=>∃ o:Nat,σ=[some (.int (n:Nat)),some (.ref W2),some (.int (wy:Nat)),some (T (nameO o)),some (.int (at_:Nat)),some (.ref R2),none,none]∧G'=G∧(wy=4->ws2.length<=64∧o=2)∧((noBar bs2 ws2).length<=64->webO (noBar bs2 ws2)=o)) (fun σ G hG=>?_) (fun h3 hN=>?_) (fun h3=>⟨o2,rfl,rfl,hf2,hO2⟩)
  rotate_left
  ·rw [Bool.and_eq_true,decide_eq_true_iff,decide_eq_true_iff,List.length_map] at h3
   refine hN _ _ ⟨3,rfl,rfl,fun z=>(by omega),fun z=>?_⟩
   rw [hc2 (by omega) (by omega),noBar_nil] at z
   omega
  clear hf2 hO2
  obtain ⟨o2,rfl,rfl,hf2,hO2⟩:=hG
  refine ⟨_,rfl,W2,_,rfl,.inl (SqL.of hW2),?_⟩
  (try dsimp only [gName,tSeq,tNext])
  rw [List.length_map]
  refine ⟨_,rfl,_,rfl,_,rfl,_,rfl,?_⟩
  (try dsimp only [gName,tSeq,tNext])
  refine if_join2 (fun σ G'=>∃ l:Nat,σ=[some (.int (n:Nat)),some (.ref W2),some (.int (wy:Nat)),some (T (nameO o2)),some (.int (at_:Nat)),some (.ref R2),none,some (.int (l:Nat))]∧Same G G'∧(wy=4->l=ws2.length)∧(wy≠4->l=(noBar bs2 ws2).length)) (fun σ G' hG=>?_) (fun h3 hN=>?_) (fun h3=>⟨ws2.length,rfl,Same.refl _,fun _=>rfl,fun z=>by rw [hc2 z (fun y=>h3 (decide_eq_true (by omega))),noBar_nil]⟩)
  rotate_left
  ·have h3:(wy:Int)=5:=of_decide_eq_true h3
   refine ⟨_,rfl,W2,rfl,⟨_,SqL.of hW2⟩,compf_texts (fun x=>!sub [102,102] x) (SqL.of hW2) (by have:=tok2.2.2.1;omega) (fun j x H5 hx s5 N hN=>⟨_,rfl,tx [102,102],tx x,rfl,rfl,_,rfl,hN H5 (Same.refl _)⟩) (fun x H5 N hN=>⟨_,rfl,hN⟩) fun U G5 hU s5 hU5=>⟨U,_,rfl,.inl (SqL.of hU5),?_⟩⟩
   rw [<- noBar_one,List.length_map]
   exact hN _ _ ⟨_,rfl,s5,fun z=>(by omega),fun _=>by rw [hb2 (by omega)]⟩
  obtain ⟨l,rfl,sG,hl4,hl5⟩:=hG
  have hKl:(noBar bs2 ws2).length<=ws2.length:=List.length_filter_le ..
  refine ⟨_,rfl,_,_,rfl,rfl,_,rfl,?_⟩
  (try dsimp only [gName,tSeq,tNext])
  refine if_join2 (fun σ H'=>∃ o:Nat,σ=[some (.int (n:Nat)),some (.ref W2),some (.int (wy:Nat)),some (T (nameO o)),some (.int (at_:Nat)),some (.ref R2),none,some (.int (l:Nat))]∧H'=G'∧webO (noBar bs2 ws2)=o∧(o=0->(noBar bs2 ws2).length=l)) (fun σ G hG=>?_) (fun h3 hN=>?_) (fun h3=>⟨o2,rfl,rfl,?_⟩)
  rotate_left
  ·have h3:64<l:=by have:=of_decide_eq_true h3;omega
   have h4:wy≠4:=fun z=>by have:=hl4 z;have:=(hf2 z).1;omega
   exact hN _ _ ⟨3,rfl,rfl,webO_many (by rw [<- hl5 h4];exact h3),fun z=>by cases z⟩
  ·have h3:l<=64:=Nat.le_of_not_lt fun z=>h3 (decide_eq_true (by omega))
   by_cases h4:wy=4
   ·have e:=hl4 h4
    refine ⟨hO2 (by omega),fun z=>?_⟩
    have:=(hf2 h4).2
    omega
   ·exact ⟨hO2 (by rw [<- hl5 h4];exact h3),fun _=>(hl5 h4).symm⟩
  obtain ⟨o3,rfl,rfl,ho3,hm3⟩:=hG
  have hW3:=sG _ _ hW2
  have hR3:=sG _ _ hR2
  have fin:∀ G',Same G G'->_:=fun (G':Hp) (s':Same G G')=>(⟨n,W2,R2,ws2,bs2,o3,l,some (.int (wy:Nat)),some (.int (at_:Nat)),none,rfl,tok2,s' _ _ hW3,s' _ _ hR3,ho3,hm3,fun tp R' rs H' sH h1 h2 h3=>q tp R' rs _ _ H' (s2.trans (sG.trans (s'.trans sH))) h1 h2 h3⟩:(fun D σ H=>∃ (n:Nat) (W R:Addr) (ws bs:List (List Nat)) (o m:Nat) (v2 v4 v6:Option V),σ=[some (.int (n:Nat)),some (.ref W),v2,some (T (nameO o)),v4,some (.ref R),v6,some (.int (m:Nat))]∧Fin9 D H W R ws bs o m) { nx:=fun x H'=>Q V.non H',rt:=Q } [some (.int (n:Nat)),some (.ref W2),some (.int (wy:Nat)),some (T (nameO o3)),some (.int (at_:Nat)),some (.ref R2),none,some (.int (l:Nat))] G')
  refine ⟨_,rfl,_,rfl,_,rfl,_,rfl,?_⟩
  refine ite2 (fun h4=>?_) (fun h4=>?_)
  ·refine ⟨_,rfl,(by show 0<=sizeLine;omega),fun e he=>⟨W2,e,ws2,[],rfl,rfl,SqL.of (same_upd he _ _ hW3),SqL.of upd_same,_,rfl,?_⟩⟩
   refine itN (fun z=>tok2.2.1 (of_decide_eq_true z)) ?_
   exact fin _ (same_upd he)
  ·refine itN Bool.false_ne_true ?_
   exact fin _ (Same.refl _)
def spFine9:Sp:=fun vs H Q _=>∃ c:Int,vs=[.int c]∧∀ H',Same H H'->Q (.bl true) H'
theorem ok__law_fine {f:Addr}{fd:FuncData}(F:Fun K "_law_fine" "_law_fine" s__law_fine f fd)(tt:Txt K mg ad)(C__law_stir:Cal P w K mg base (CX2 P w) "_law_stir" 1 ["cell", "k"] spStir)(C__law_all:Cal P w K mg base (CX2 P w) "_law_all" 2 ["n"] spPg9)(C__law_told:Cal P w K mg base (CX2 P w) "_law_told" 2 ["n"] spPg9)(C__law_heard:Cal P w K mg base (CX2 P w) "_law_heard" 8 ["text"] spHeard9):FnOk P w K mg base (CX2 P w) 9 f fd ["cell"] spFine9:=by
 refine F.okX2 sc__law_fine (fun vs H Q E h=>?_) (fun cdv A outer s H vs Q E hr h=>?_)
 ·obtain ⟨c,rfl,_⟩:=h
  rfl
 ·obtain ⟨c,rfl,q⟩:=h
  have hu:=Nat.lt_of_succ_lt (hu_of hr)
  have hs:sizeLine=16777216:=sizeLine_eq
  refine ⟨_,(pss_cons (ps_set (i:=1) sc__law_fine.nd rfl (Or.inl rfl) (pe_op op_fdiv (pe_cal C__law_stir hr pass2 (pa_cons (pv 0) (pa_cons pe_int pa_nil))) pe_int))
   (pss_cons (ps_wk (t':=(fun D σ H=>∃ (c:Int) (n:Nat),σ=[some (.int c),some (.int (n:Nat)),none,none,none]∧∀ (R:Addr) (rs:List (List (List Nat))) (o m:Nat) (H':Hp),Same H H'->H' R=some (.lst ((rs.map (jnS [32])).map T))->PgOk rs o m->D.nx [some (.int c),some (.int (n:Nat)),some (.ref R),some (T (nameO o)),some (.int (m:Nat))] H')) (ps_if (pt_cmpR op_eq_I (pe_op op_mod (pv 1) pe_int) pe_int (nomark _)) (pss_one (ps_asg (pe_cal C__law_all hr pass2 (pa_cons (pe_op op_fdiv (pv 1) pe_int) pa_nil)) (pg_tup rfl (pgs_cons (pg_name (i:=2) sc__law_fine.nd rfl (Or.inl rfl)) (pgs_cons (pg_name (i:=3) sc__law_fine.nd rfl (Or.inl rfl)) (pgs_cons (pg_name (i:=4) sc__law_fine.nd rfl (Or.inl rfl)) pgs_nil)))))) (pss_one (ps_asg (pe_cal C__law_told hr pass2 (pa_cons (pe_op op_fdiv (pv 1) pe_int) pa_nil)) (pg_tup rfl (pgs_cons (pg_name (i:=2) sc__law_fine.nd rfl (Or.inl rfl)) (pgs_cons (pg_name (i:=3) sc__law_fine.nd rfl (Or.inl rfl)) (pgs_cons (pg_name (i:=4) sc__law_fine.nd rfl (Or.inl rfl)) pgs_nil))))))) ?r3)
   (pss_cons (ps_if (pt_cmpR op_ne_T (pv 3) (pe_strT [102,105,110,101] (by decide +kernel)) (nomark _)) (pss_one (ps_set (i:=4) sc__law_fine.nd rfl (Or.inl rfl) pe_int)) pss_nil)
   (pss_cons (ps_if (pt_cmpR op_eq_I (pe_op op_mod (pe_op op_fdiv (pv 1) pe_int) pe_int) pe_int (nomark _)) (pss_one (ps_ret (pe_cmpR (op_eq_SI hu) (pe_cal C__law_heard hr pass2 (pa_cons (pe_bm PySem.F.plainAttrs_str PySem.F.slot_str_join PySem.F.type_str_join mt_joinS (pe_strT [10] (by decide +kernel)) (pa_cons (pe_op op_catL (pv 2) (pe_lst (pa_cons (pe_strT [114,105,110,103] (by decide +kernel)) (pa_cons (pe_strT [114,105,110,113] (by decide +kernel)) pa_nil)))) pa_nil)) pa_nil)) (pe_tup (pa_cons (pe_strT [116,101,120,116] (by decide +kernel)) (pa_cons pe_int pa_nil))) (nomark _)))) pss_nil)
   (pss_one (ps_ret (pe_cmpR (op_eq_SI hu) (pe_cal C__law_heard hr pass2 (pa_cons (pe_bm PySem.F.plainAttrs_str PySem.F.slot_str_join PySem.F.type_str_join mt_joinS (pe_strT [10] (by decide +kernel)) (pa_cons (pe_op op_catL (pv 2) (pe_lst (pa_cons (pe_strT [114,105,110,103,115] (by decide +kernel)) pa_nil))) pa_nil)) pa_nil)) (pe_tup (pa_cons (pv 3) (pa_cons (pv 4) pa_nil))) (nomark _)))))))),?_⟩
  (try rw [cxK2]);(try rw [cxK1])
  case r3 =>
   rintro D σ H ⟨c,n,rfl,q⟩
   refine ⟨_,rfl,_,_,rfl,rfl,(by show (0:Int)<2;decide),_,rfl,_,rfl,_,rfl,?_⟩
   refine ite2 (fun h0=>?_) (fun h0=>?_)
   ·refine ⟨_,rfl,_,_,rfl,rfl,⟨by decide,by decide⟩,n/2,rfl,fun tp R rs o m H1 s1 htp hR pg=>?_⟩
    exact ⟨tp,_,rfl,SqT.of htp,rfl,_,_,rfl,_,_,rfl,_,_,rfl,rfl,q R rs o m H1 s1 hR pg⟩
   ·refine ⟨_,rfl,_,_,rfl,rfl,⟨by decide,by decide⟩,n/2,rfl,fun tp R rs o m H1 s1 htp hR pg=>?_⟩
    exact ⟨tp,_,rfl,SqT.of htp,rfl,_,_,rfl,_,_,rfl,_,_,rfl,rfl,q R rs o m H1 s1 hR pg⟩
  refine ⟨_,rfl,c,3,rfl,⟨by decide,by decide⟩,_,_,rfl,rfl,⟨by decide,by decide⟩,?_⟩
  dsimp only
  obtain ⟨n,en⟩:∃ n:Nat,stirZ c 3/7=(n:Nat):=⟨(stirZ c 3/7).toNat,(Int.toNat_of_nonneg (Int.ediv_nonneg (Int.emod_nonneg _ (by decide)) (by decide))).symm⟩
  rw [en]
  refine ⟨c,n,rfl,fun R rs o m H1 s1 hR pg=>?_⟩
  refine ⟨_,rfl,_,rfl,_,rfl,_,rfl,?_⟩
  (try dsimp only [gName,tSeq,tNext])
  refine if_join2 (fun σ G=>G=H1∧σ=[some (.int c),some (.int (n:Nat)),some (.ref R),some (T (nameO o)),some (.int (((if o=0 then m else 0):Nat):Int))]) (fun σ G hG=>?_) (fun h0 hN=>?_) (fun h0=>⟨rfl,?_⟩)
  rotate_left
  ·have h0:nameO o≠[102,105,110,101]:=fun z=>by rw [decide_eq_true z] at h0;cases h0
   refine hN _ _ ⟨rfl,?_⟩
   rw [if_neg (fun z=>h0 (by rw [z];rfl))]
   rfl
  ·have h0:o=0:=Classical.byContradiction fun z=>h0 (by rw [decide_eq_false (name_fine z)];rfl)
   rw [if_pos h0]
  obtain ⟨rfl,rfl⟩:=hG
  have hfl:=pg.2.2.1
  refine ⟨_,rfl,_,_,rfl,rfl,⟨by decide,by decide⟩,_,_,rfl,rfl,(by show (0:Int)<3;decide),_,rfl,_,rfl,_,rfl,?_⟩
  refine ite2 (fun h0=>?_) (fun h0=>?_)
  ·obtain ⟨a1,a2,a3⟩:=pg.spoilt
   refine ⟨rfl,_,rfl,(by show 2<=sizeLine;omega),fun p2 hp2=>?_⟩
   have s2:=same_upd (o:=.lst [T [114,105,110,103],T [114,105,110,113]]) hp2
   have h2:upd G p2 (.lst [T [114,105,110,103],T [114,105,110,113]]) p2=some (.lst [T [114,105,110,103],T [114,105,110,113]]):=upd_same
   generalize upd G p2 (.lst [T [114,105,110,103],T [114,105,110,113]])=G2 at s2 h2 ⊢
   refine ⟨R,p2,_,_,rfl,rfl,SqL.of (s2 _ _ hR),SqL.of h2,(by rw [List.length_map,List.length_map];show _+2<=sizeLine;omega),fun p3 hp3=>?_⟩
   rw [show (rs.map (jnS [32])).map T++[T [114,105,110,103],T [114,105,110,113]]=((rs++[[[114,105,110,103]],[[114,105,110,113]]]).map (jnS [32])).map T by rw [List.map_append,List.map_append];rfl]
   have s3:=same_upd (o:=.lst (((rs++[[[114,105,110,103]],[[114,105,110,113]]]).map (jnS [32])).map T)) hp3
   have h3:upd G2 p3 (.lst (((rs++[[[114,105,110,103]],[[114,105,110,113]]]).map (jnS [32])).map T)) p3=some (.lst (((rs++[[[114,105,110,103]],[[114,105,110,113]]]).map (jnS [32])).map T)):=upd_same
   generalize upd G2 p3 (.lst (((rs++[[[114,105,110,103]],[[114,105,110,113]]]).map (jnS [32])).map T))=G3 at s3 h3 ⊢
   refine ⟨[10],p3,_,rfl,rfl,SqL.of h3,(by rw [List.map_append,List.flatten_append,List.length_append,List.length_append,List.length_map];show _+8+(_+2)*1<=sizeLine;omega),_,rfl,a1,fun p4 H4 s4 h4=>?_⟩
   rw [a2,a3] at h4
   refine ⟨(by show 2<=sizeLine;omega),fun p5 hp5=>?_⟩
   refine ⟨p4,p5,[116,101,120,116],0,rfl,rfl,SqT.of (same_upd hp5 _ _ h4),SqT.of upd_same,?_⟩
   exact q _ (s1.trans (s2.trans (s3.trans (s4.trans (same_upd hp5)))))
  ·obtain ⟨a1,a2,a3⟩:=pg.fine
   refine ⟨rfl,_,rfl,(by show 1<=sizeLine;omega),fun p2 hp2=>?_⟩
   have s2:=same_upd (o:=.lst [T [114,105,110,103,115]]) hp2
   have h2:upd G p2 (.lst [T [114,105,110,103,115]]) p2=some (.lst [T [114,105,110,103,115]]):=upd_same
   generalize upd G p2 (.lst [T [114,105,110,103,115]])=G2 at s2 h2 ⊢
   refine ⟨R,p2,_,_,rfl,rfl,SqL.of (s2 _ _ hR),SqL.of h2,(by rw [List.length_map,List.length_map];show _+1<=sizeLine;omega),fun p3 hp3=>?_⟩
   rw [show (rs.map (jnS [32])).map T++[T [114,105,110,103,115]]=((rs++[[[114,105,110,103,115]]]).map (jnS [32])).map T by rw [List.map_append,List.map_append];rfl]
   have s3:=same_upd (o:=.lst (((rs++[[[114,105,110,103,115]]]).map (jnS [32])).map T)) hp3
   have h3:upd G2 p3 (.lst (((rs++[[[114,105,110,103,115]]]).map (jnS [32])).map T)) p3=some (.lst (((rs++[[[114,105,110,103,115]]]).map (jnS [32])).map T)):=upd_same
   generalize upd G2 p3 (.lst (((rs++[[[114,105,110,103,115]]]).map (jnS [32])).map T))=G3 at s3 h3 ⊢
   refine ⟨[10],p3,_,rfl,rfl,SqL.of h3,(by rw [List.map_append,List.flatten_append,List.length_append,List.length_append,List.length_map];show _+5+(_+1)*1<=sizeLine;omega),_,rfl,a1,fun p4 H4 s4 h4=>?_⟩
   rw [a2,a3] at h4
   refine ⟨_,rfl,_,rfl,(by show 2<=sizeLine;omega),fun p5 hp5=>?_⟩
   refine ⟨p4,p5,_,_,rfl,rfl,SqT.of (same_upd hp5 _ _ h4),SqT.of upd_same,?_⟩
   exact q _ (s1.trans (s2.trans (s3.trans (s4.trans (same_upd hp5)))))
def spLaw (K:PySem.W.Frag):Sp:=fun vs H Q _=>∃ (a:Addr) (ns:List Int),vs=[.ref a]∧SqL K H a (ns.map V.int)∧ns.length<=63∧∀ H',Q (.bl true) H'
theorem ok_law {f:Addr}{fd:FuncData}(F:Fun K "law" "law" s_law f fd)(tt:Txt K mg ad)(C__law_fine:Cal P w K mg base (CX2 P w) "_law_fine" 9 ["cell"] spFine9):FnOk P w K mg base (CX2 P w) 10 f fd ["script"] (spLaw K):=by
 refine F.okN2 sc_law (fun vs H Q E h=>?_) (fun cdv A outer s H vs Q E hr h=>?_)
 ·obtain ⟨a,ns,rfl,_⟩:=h
  rfl
 ·obtain ⟨a,ns,rfl,hS,hlen,q⟩:=h
  have hs:sizeLine=16777216:=sizeLine_eq
  refine ⟨_,(pss_cons (ps_for PassesOwn.never rfl (pi_list (pe_op op_catL (pe_slice sl_list (pv 0) po_none (po_some pe_int)) (pe_lst (pa_cons (pe_callB (call_sumX rfl) (by rfl) tt.b_sum PyProof.Rows.boot_sum (pa_cons (pv 0) pa_nil)) pa_nil)))) (pg_name (i:=1) sc_law.nd rfl (Or.inl rfl)) (pss_one (ps_if (pt_not (pt_val (pe_cal C__law_fine hr pass2 (pa_cons (pv 1) pa_nil)))) (pss_one (ps_ret pe_bl)) pss_nil)))
   (pss_one (ps_ret pe_bl))),?_⟩
  (try rw [cxK2]);(try rw [cxK1])
  refine ⟨_,rfl,_,rfl,a,_,rfl,hS,fun p1 hp1=>?_⟩
  have hcut:∃ ns2:List Int,cutV (ns.map V.int) none (some 20)=ns2.map V.int∧ns2.length<=63:=by
   unfold cutV
   rw [<- List.map_drop,<- List.map_take]
   exact ⟨_,rfl,Nat.le_trans (List.length_take_le' ..) (Nat.le_trans (by rw [List.length_drop];exact Nat.sub_le ..) hlen)⟩
  obtain ⟨ns2,ecut,hn2⟩:=hcut
  rw [ecut]
  have s1:=same_upd (o:=.lst (ns2.map V.int)) hp1
  have h1:upd H p1 (.lst (ns2.map V.int)) p1=some (.lst (ns2.map V.int)):=upd_same
  generalize upd H p1 (.lst (ns2.map V.int))=H1 at s1 h1 ⊢
  refine ⟨_,rfl,a,ns,rfl,s1.seq hS,(by show 1<=sizeLine;omega),fun p2 hp2=>?_⟩
  have s2:=same_upd (o:=.lst [.int ns.sum]) hp2
  have h2:upd H1 p2 (.lst [.int ns.sum]) p2=some (.lst [.int ns.sum]):=upd_same
  generalize upd H1 p2 (.lst [.int ns.sum])=H2 at s2 h2 ⊢
  refine ⟨p1,p2,_,_,rfl,rfl,SqL.of (s2 _ _ h1),SqL.of h2,(by rw [List.length_map];show _+1<=sizeLine;omega),fun p3 hp3=>?_⟩
  rw [show ns2.map V.int++[V.int ns.sum]=(ns2++[ns.sum]).map V.int by rw [List.map_append];rfl]
  have h3:upd H2 p3 (.lst ((ns2++[ns.sum]).map V.int)) p3=some (.lst ((ns2++[ns.sum]).map V.int)):=upd_same
  generalize upd H2 p3 (.lst ((ns2++[ns.sum]).map V.int))=H3 at h3 ⊢
  generalize ns2++[ns.sum]=cs at h3 ⊢
  refine ⟨p3,rfl,⟨_,SqL.of h3⟩,?_⟩
  refine for_list (K:=K) (a:=p3) (xs:=cs.map V.int) (fun i σ G=>Same H3 G∧∃ v1:Option V,σ=[some (.ref a),v1]) ⟨Same.refl _,none,rfl⟩ (fun i σ G _ h=>SqL.of (h.1 _ _ h3)) ?_ ?_
  ·rintro i y σ G hy ⟨sG,v1,rfl⟩
   rw [List.getElem?_map,Option.map_eq_some_iff] at hy
   obtain ⟨c,_,rfl⟩:=hy
   refine ⟨_,rfl,c,rfl,fun G2 s2=>⟨_,rfl,itN Bool.false_ne_true ?_⟩⟩
   exact ⟨sG.trans s2,_,rfl⟩
  ·rintro σ G ⟨sG,v1,rfl⟩
   exact q _
end
def HF (K:PySem.W.Frag)(f:Addr)(nm:Str)(st:Stmt):Prop:=∃ (oc:Value) (od:Option Addr) (kV dc pm:Value) (an:Option Addr) (cd ct:Value) (sl:Array (Option Value)),PySem.W.nsIn K mainGlobals nm=some (some (.ref f))∧K.lookup f=some ⟨oc,od,.func (PySem.W.fnOf nm nm (defArgs st) (defBody st) (defScope st) .none kV dc pm an cd ct),sl⟩∧PySem.W.codeIn K cd nm=true∧PySem.W.keepIn K (.ref f)=true
theorem HF.go {K:PySem.W.Frag}{f:Addr}{nm:Str}{st:Stmt}(h:HF K f nm st):∃ fd,Fun K nm nm st f fd∧PySem.W.nsIn K mainGlobals nm=some (some (.ref f)):=by
 obtain ⟨oc,od,kV,dc,pm,an,cd,ct,sl,a,l,c,k⟩:=h
 exact ⟨_,fun_mk (st:=st) l c k,a⟩
theorem hf_mk {K:PySem.W.Frag}{f:Addr}{nm:Str}{st:Stmt}{oc:Value}{od:Option Addr}{kV dc pm:Value}{an:Option Addr}{cd ct:Value}{sl:Array (Option Value)}(a:PySem.W.nsIn K mainGlobals nm=some (some (.ref f)))(l:K.lookup f=some ⟨oc,od,.func (PySem.W.fnOf nm nm (defArgs st) (defBody st) (defScope st) .none kV dc pm an cd ct),sl⟩)(c:PySem.W.codeIn K cd nm=true)(k:PySem.W.keepIn K (.ref f)=true):HF K f nm st:=⟨oc,od,kV,dc,pm,an,cd,ct,sl,a,l,c,k⟩
theorem mkC (P:Program)(w:World){K:PySem.W.Frag}{mg:Str->Option Value}{h:Heap}(base:Heap)(X:K.In h)(G:h.Ns mainGlobals mg){nm:Str}{st:Stmt}{f:Addr}{fd:FuncData}{k:Nat}{ps:List Str}{sp:Sp}(a:PySem.W.nsIn K mainGlobals nm=some (some (.ref f)))(F:Fun K nm nm st f fd)(ok:FnOk P w K mg base (CX2 P w) k f fd ps sp)(b:Binds K fd ps []):Cal P w K mg base (CX2 P w) nm k ps sp:=⟨⟨_,_,ok,PySem.W.mg_of X G a,F.kp,b⟩⟩
def HM (K:PySem.W.Frag)(C f:Addr)(nm qual:Str)(st:Stmt):Prop:=∃ (oc:Value) (od:Option Addr) (kV dc pm:Value) (an:Option Addr) (cd ct:Value) (sl:Array (Option Value)),PySem.W.findIn K (.ref C) nm=some (some (.ref f))∧K.lookup f=some ⟨oc,od,.func (PySem.W.fnOf nm qual (defArgs st) (defBody st) (defScope st) .none kV dc pm an cd ct),sl⟩∧PySem.W.codeIn K cd qual=true∧PySem.W.keepIn K (.ref f)=true∧PySem.W.isFn K (.ref f)=true
theorem HM.go {K:PySem.W.Frag}{C f:Addr}{nm qual:Str}{st:Stmt}(h:HM K C f nm qual st):∃ fd,Fun K nm qual st f fd∧Meth K C nm f:=by
 obtain ⟨oc,od,kV,dc,pm,an,cd,ct,sl,a,l,c,k,i⟩:=h
 exact ⟨_,fun_mk (st:=st) l c k,⟨a,i,k⟩⟩
theorem hm_mk {K:PySem.W.Frag}{C f:Addr}{nm qual:Str}{st:Stmt}{oc:Value}{od:Option Addr}{kV dc pm:Value}{an:Option Addr}{cd ct:Value}{sl:Array (Option Value)}(a:PySem.W.findIn K (.ref C) nm=some (some (.ref f)))(l:K.lookup f=some ⟨oc,od,.func (PySem.W.fnOf nm qual (defArgs st) (defBody st) (defScope st) .none kV dc pm an cd ct),sl⟩)(c:PySem.W.codeIn K cd qual=true)(k:PySem.W.keepIn K (.ref f)=true)(i:PySem.W.isFn K (.ref f)=true):HM K C f nm qual st:=⟨oc,od,kV,dc,pm,an,cd,ct,sl,a,l,c,k,i⟩
theorem bd1 {K:PySem.W.Frag}{x qual:Str}{S:Stmt}{f:Addr}{fd:FuncData}{p:Str}(F:Fun K x qual S f fd)(h:∀ (v w z:Value) (n:Option Addr) (g i a:Value),bindArgs (PySem.W.fnOf x qual (defArgs S) (defBody S) (defScope S) .none v w z n g i) ⟨[a],[]⟩=pure (List.zip [p] [a]):=by intros;rfl):Binds K fd [p] []:=F.binds fun v w z n g i us hl=>L2.on1 (C:=fun us=>bindArgs _ ⟨us,[]⟩=pure (List.zip _ us)) hl (h v w z n g i)
theorem bd2 {K:PySem.W.Frag}{x qual:Str}{S:Stmt}{f:Addr}{fd:FuncData}{p q:Str}(F:Fun K x qual S f fd)(h:∀ (v w z:Value) (n:Option Addr) (g i a b:Value),bindArgs (PySem.W.fnOf x qual (defArgs S) (defBody S) (defScope S) .none v w z n g i) ⟨[a,b],[]⟩=pure (List.zip [p,q] [a,b]):=by intros;rfl):Binds K fd [p,q] []:=F.binds fun v w z n g i us hl=>L2.on2 (C:=fun us=>bindArgs _ ⟨us,[]⟩=pure (List.zip _ us)) hl (h v w z n g i)
theorem bd3 {K:PySem.W.Frag}{x qual:Str}{S:Stmt}{f:Addr}{fd:FuncData}{p q r:Str}(F:Fun K x qual S f fd)(h:∀ (v w z:Value) (n:Option Addr) (g i a b c:Value),bindArgs (PySem.W.fnOf x qual (defArgs S) (defBody S) (defScope S) .none v w z n g i) ⟨[a,b,c],[]⟩=pure (List.zip [p,q,r] [a,b,c]):=by intros;rfl):Binds K fd [p,q,r] []:=F.binds fun v w z n g i us hl=>L2.on3 (C:=fun us=>bindArgs _ ⟨us,[]⟩=pure (List.zip _ us)) hl (h v w z n g i)
theorem all_mk {l:PySem.W.OpenLaw}{w:World}{K:PySem.W.Frag}{h:Heap}{mg:Str->Option Value}{fa:Addr}(X:K.In h)(G:h.Ns mainGlobals mg)(hfa:mg "law" = some (.ref fa))
  {f_0 f_1 f_2 f_3 f_4 f_5 f_6 f_7 f_8 f_9 f_10 f_11 f_12 f_13 f_14 f_15 f_16 f_17 f_18 f_19 f_20 f_21 f_22 f_23 f_24 f_25 f_26 f_27:Addr}
  {f_28:Addr} {od_28 an_28:Option Addr} {sl_28:Array (Option Value)} {oc_28 kV_28 dc_28 pm_28 cd_28 ct_28:Value}
  {c_BadKinds c_BadWord c_TooMany c_NotOne c_NoSuch c_NoRing c_BadRule c_BadDeed c_BadText c_OnceError c_Web c_ASKS c_AHEAD:Addr} {u_LETTERS u_LONGEST u_MOST_WORDS u_MOST_OF_A_WEB u_LONGEST_OF_A_WEB u_MOST_OF_A_RULE u_LONGEST_OF_A_RULE u_FIGURES u_MOST_FIGURES u_MOST_LETTERS:Value}
  (h_0:HF K f_0 "looked_kinds" s_looked_kinds)
  (h_1:HF K f_1 "looked_length" s_looked_length)
  (h_2:HF K f_2 "letters" s_letters)
  (h_3:HF K f_3 "looked" s_looked)
  (h_4:HF K f_4 "word_total" s_word_total)
  (h_5:HF K f_5 "spelled" s_spelled)
  (h_6:HF K f_6 "all_words" s_all_words)
  (h_7:HF K f_7 "looked_web" s_looked_web)
  (h_8:HM K c_Web f_8 "__init__" "Web.__init__" s_Web_init)
  (h_9:HF K f_9 "looked_size" s_looked_size)
  (h_10:HM K c_BadText f_10 "__init__" "BadText.__init__" s_BadText_init)
  (h_11:HF K f_11 "is_made_of" s_is_made_of)
  (h_12:HF K f_12 "is_number" s_is_number)
  (h_13:HF K f_13 "is_text" s_is_text)
  (h_14:HF K f_14 "form_of" s_form_of)
  (h_15:HF K f_15 "kind_of" s_kind_of)
  (h_16:HF K f_16 "looked_rows" s_looked_rows)
  (h_17:HF K f_17 "told_words" s_told_words)
  (h_18:HF K f_18 "read_page" s_read_page)
  (h_19:HF K f_19 "_law_stir" s__law_stir)
  (h_20:HF K f_20 "_law_count" s__law_count)
  (h_21:HF K f_21 "_law_all" s__law_all)
  (h_22:HF K f_22 "_law_listed" s__law_listed)
  (h_23:HF K f_23 "_law_laid" s__law_laid)
  (h_24:HF K f_24 "_law_is_web" s__law_is_web)
  (h_25:HF K f_25 "_law_told" s__law_told)
  (h_26:HF K f_26 "_law_heard" s__law_heard)
  (h_27:HF K f_27 "_law_fine" s__law_fine)
  (a_28:PySem.W.nsIn K mainGlobals "law" = some (some (.ref f_28))) (l_28:K.lookup f_28=some ⟨oc_28,od_28,.func (PySem.W.fnOf "law" "law" (defArgs s_law) (defBody s_law) (defScope s_law) .none kV_28 dc_28 pm_28 an_28 cd_28 ct_28),sl_28⟩) (c_28:PySem.W.codeIn K cd_28 "law" = true) (k_28:PySem.W.keepIn K (.ref f_28)=true)
  (z_all:PySem.W.nsIn K mainGlobals "all" = some none)
  (z_any:PySem.W.nsIn K mainGlobals "any" = some none)
  (z_enumerate:PySem.W.nsIn K mainGlobals "enumerate" = some none)
  (z_int:PySem.W.nsIn K mainGlobals "int" = some none)
  (z_isinstance:PySem.W.nsIn K mainGlobals "isinstance" = some none)
  (z_len:PySem.W.nsIn K mainGlobals "len" = some none)
  (z_range:PySem.W.nsIn K mainGlobals "range" = some none)
  (z_reversed:PySem.W.nsIn K mainGlobals "reversed" = some none)
  (z_set:PySem.W.nsIn K mainGlobals "set" = some none)
  (z_sorted:PySem.W.nsIn K mainGlobals "sorted" = some none)
  (z_str:PySem.W.nsIn K mainGlobals "str" = some none)
  (z_sum:PySem.W.nsIn K mainGlobals "sum" = some none)
  (z_tuple:PySem.W.nsIn K mainGlobals "tuple" = some none)
  (y_BadKinds:PySem.W.nsIn K mainGlobals "BadKinds" = some (some (.ref c_BadKinds)))
  (y_BadWord:PySem.W.nsIn K mainGlobals "BadWord" = some (some (.ref c_BadWord)))
  (y_TooMany:PySem.W.nsIn K mainGlobals "TooMany" = some (some (.ref c_TooMany)))
  (y_NotOne:PySem.W.nsIn K mainGlobals "NotOne" = some (some (.ref c_NotOne)))
  (y_NoSuch:PySem.W.nsIn K mainGlobals "NoSuch" = some (some (.ref c_NoSuch)))
  (y_NoRing:PySem.W.nsIn K mainGlobals "NoRing" = some (some (.ref c_NoRing)))
  (y_BadRule:PySem.W.nsIn K mainGlobals "BadRule" = some (some (.ref c_BadRule)))
  (y_BadDeed:PySem.W.nsIn K mainGlobals "BadDeed" = some (some (.ref c_BadDeed)))
  (y_BadText:PySem.W.nsIn K mainGlobals "BadText" = some (some (.ref c_BadText)))
  (y_OnceError:PySem.W.nsIn K mainGlobals "OnceError" = some (some (.ref c_OnceError)))
  (y_Web:PySem.W.nsIn K mainGlobals "Web" = some (some (.ref c_Web)))
  (y_ASKS:PySem.W.nsIn K mainGlobals "ASKS" = some (some (.ref c_ASKS)))
  (y_AHEAD:PySem.W.nsIn K mainGlobals "AHEAD" = some (some (.ref c_AHEAD)))
  (e_BadKinds:PySem.W.excIn K c_BadKinds bmVE "ValueError.__new__" = true)
  (e_BadWord:PySem.W.excIn K c_BadWord bmVE "ValueError.__new__" = true)
  (e_TooMany:PySem.W.excIn K c_TooMany bmVE "ValueError.__new__" = true)
  (n1_BadText:PySem.W.findIn K (.ref c_BadText) "__getattribute__" = some (some (.builtin "BaseException.__getattribute__")))
  (n2_BadText:PySem.W.findIn K (.ref c_BadText) "__getattr__" = some none)
  (n3_BadText:PySem.W.findIn K (.ref c_BadText) "__class__" = some (some (.builtin "object.__class__")))
  (n4_BadText:PySem.W.specialIn K (.builtin "object.__class__") "__get__" = some (some (.builtin "getset_descriptor.__get__")))
  (n5_BadText:PySem.W.takesIn K (.builtin "object.__class__")=some true)
  (n6_BadText:PySem.W.mroIn K c_BadText (.type "object")=some true)
  (n7_BadText:PySem.W.mroIn K c_BadText (.type "BaseException")=some true)
  (n8_BadText:(PySem.W.clsIn K c_BadText).isSome=true)
  (n1_BadKinds:PySem.W.findIn K (.ref c_BadKinds) "__getattribute__" = some (some (.builtin "BaseException.__getattribute__")))
  (n2_BadKinds:PySem.W.findIn K (.ref c_BadKinds) "__getattr__" = some none)
  (n3_BadKinds:PySem.W.findIn K (.ref c_BadKinds) "__class__" = some (some (.builtin "object.__class__")))
  (n4_BadKinds:PySem.W.specialIn K (.builtin "object.__class__") "__get__" = some (some (.builtin "getset_descriptor.__get__")))
  (n5_BadKinds:PySem.W.takesIn K (.builtin "object.__class__")=some true)
  (n6_BadKinds:PySem.W.mroIn K c_BadKinds (.type "object")=some true)
  (n7_BadKinds:PySem.W.mroIn K c_BadKinds (.type "BaseException")=some true)
  (n8_BadKinds:(PySem.W.clsIn K c_BadKinds).isSome=true)
  (n1_BadWord:PySem.W.findIn K (.ref c_BadWord) "__getattribute__" = some (some (.builtin "BaseException.__getattribute__")))
  (n2_BadWord:PySem.W.findIn K (.ref c_BadWord) "__getattr__" = some none)
  (n3_BadWord:PySem.W.findIn K (.ref c_BadWord) "__class__" = some (some (.builtin "object.__class__")))
  (n4_BadWord:PySem.W.specialIn K (.builtin "object.__class__") "__get__" = some (some (.builtin "getset_descriptor.__get__")))
  (n5_BadWord:PySem.W.takesIn K (.builtin "object.__class__")=some true)
  (n6_BadWord:PySem.W.mroIn K c_BadWord (.type "object")=some true)
  (n7_BadWord:PySem.W.mroIn K c_BadWord (.type "BaseException")=some true)
  (n8_BadWord:(PySem.W.clsIn K c_BadWord).isSome=true)
  (n1_TooMany:PySem.W.findIn K (.ref c_TooMany) "__getattribute__" = some (some (.builtin "BaseException.__getattribute__")))
  (n2_TooMany:PySem.W.findIn K (.ref c_TooMany) "__getattr__" = some none)
  (n3_TooMany:PySem.W.findIn K (.ref c_TooMany) "__class__" = some (some (.builtin "object.__class__")))
  (n4_TooMany:PySem.W.specialIn K (.builtin "object.__class__") "__get__" = some (some (.builtin "getset_descriptor.__get__")))
  (n5_TooMany:PySem.W.takesIn K (.builtin "object.__class__")=some true)
  (n6_TooMany:PySem.W.mroIn K c_TooMany (.type "object")=some true)
  (n7_TooMany:PySem.W.mroIn K c_TooMany (.type "BaseException")=some true)
  (n8_TooMany:(PySem.W.clsIn K c_TooMany).isSome=true)
  (g_LETTERS:PySem.W.nsIn K mainGlobals "LETTERS" = some (some u_LETTERS)) (r_LETTERS:RelV (T [97,98,99,100,101,102]) u_LETTERS)
  (g_LONGEST:PySem.W.nsIn K mainGlobals "LONGEST" = some (some u_LONGEST)) (r_LONGEST:RelV (.int 24) u_LONGEST)
  (g_MOST_WORDS:PySem.W.nsIn K mainGlobals "MOST_WORDS" = some (some u_MOST_WORDS)) (r_MOST_WORDS:RelV (.int 4096) u_MOST_WORDS)
  (g_MOST_OF_A_WEB:PySem.W.nsIn K mainGlobals "MOST_OF_A_WEB" = some (some u_MOST_OF_A_WEB)) (r_MOST_OF_A_WEB:RelV (.int 64) u_MOST_OF_A_WEB)
  (g_LONGEST_OF_A_WEB:PySem.W.nsIn K mainGlobals "LONGEST_OF_A_WEB" = some (some u_LONGEST_OF_A_WEB)) (r_LONGEST_OF_A_WEB:RelV (.int 8) u_LONGEST_OF_A_WEB)
  (g_MOST_OF_A_RULE:PySem.W.nsIn K mainGlobals "MOST_OF_A_RULE" = some (some u_MOST_OF_A_RULE)) (r_MOST_OF_A_RULE:RelV (.int 64) u_MOST_OF_A_RULE)
  (g_LONGEST_OF_A_RULE:PySem.W.nsIn K mainGlobals "LONGEST_OF_A_RULE" = some (some u_LONGEST_OF_A_RULE)) (r_LONGEST_OF_A_RULE:RelV (.int 8) u_LONGEST_OF_A_RULE)
  (g_FIGURES:PySem.W.nsIn K mainGlobals "FIGURES" = some (some u_FIGURES)) (r_FIGURES:RelV (T [48,49,50,51,52,53,54,55,56,57]) u_FIGURES)
  (g_MOST_FIGURES:PySem.W.nsIn K mainGlobals "MOST_FIGURES" = some (some u_MOST_FIGURES)) (r_MOST_FIGURES:RelV (.int 60) u_MOST_FIGURES)
  (g_MOST_LETTERS:PySem.W.nsIn K mainGlobals "MOST_LETTERS" = some (some u_MOST_LETTERS)) (r_MOST_LETTERS:RelV (.int 200) u_MOST_LETTERS)
  (k_asks:tabIs K c_ASKS asksD=true)
  (k_ahead:tabIs K c_AHEAD aheadD=true)
  (o_T:PySem.W.exmOne K (.ref c_BadText) (.ref c_OnceError)=some true)
  (a_T:PySem.W.kitAny K (.ref c_BadText) [.ref c_NotOne,.ref c_NoSuch,.ref c_NoRing,.ref c_BadRule,.ref c_BadDeed]=some false)
  (c_TT:PySem.W.kitOne K (.ref c_BadText) (.ref c_BadText)=some true)
  (c_TK:PySem.W.kitOne K (.ref c_BadText) (.ref c_BadKinds)=some false)
  (c_TW:PySem.W.kitOne K (.ref c_BadText) (.ref c_BadWord)=some false)
  (c_TM:PySem.W.kitOne K (.ref c_BadText) (.ref c_TooMany)=some false)
  (o_K:PySem.W.exmOne K (.ref c_BadKinds) (.ref c_OnceError)=some true)
  (a_K:PySem.W.kitAny K (.ref c_BadKinds) [.ref c_NotOne,.ref c_NoSuch,.ref c_NoRing,.ref c_BadRule,.ref c_BadDeed]=some false)
  (c_KT:PySem.W.kitOne K (.ref c_BadKinds) (.ref c_BadText)=some false)
  (c_KK:PySem.W.kitOne K (.ref c_BadKinds) (.ref c_BadKinds)=some true)
  (c_KW:PySem.W.kitOne K (.ref c_BadKinds) (.ref c_BadWord)=some false)
  (c_KM:PySem.W.kitOne K (.ref c_BadKinds) (.ref c_TooMany)=some false)
  (o_W:PySem.W.exmOne K (.ref c_BadWord) (.ref c_OnceError)=some true)
  (a_W:PySem.W.kitAny K (.ref c_BadWord) [.ref c_NotOne,.ref c_NoSuch,.ref c_NoRing,.ref c_BadRule,.ref c_BadDeed]=some false)
  (c_WT:PySem.W.kitOne K (.ref c_BadWord) (.ref c_BadText)=some false)
  (c_WK:PySem.W.kitOne K (.ref c_BadWord) (.ref c_BadKinds)=some false)
  (c_WW:PySem.W.kitOne K (.ref c_BadWord) (.ref c_BadWord)=some true)
  (c_WM:PySem.W.kitOne K (.ref c_BadWord) (.ref c_TooMany)=some false)
  (o_M:PySem.W.exmOne K (.ref c_TooMany) (.ref c_OnceError)=some true)
  (a_M:PySem.W.kitAny K (.ref c_TooMany) [.ref c_NotOne,.ref c_NoSuch,.ref c_NoRing,.ref c_BadRule,.ref c_BadDeed]=some false)
  (c_MT:PySem.W.kitOne K (.ref c_TooMany) (.ref c_BadText)=some false)
  (c_MK:PySem.W.kitOne K (.ref c_TooMany) (.ref c_BadKinds)=some false)
  (c_MW:PySem.W.kitOne K (.ref c_TooMany) (.ref c_BadWord)=some false)
  (c_MM:PySem.W.kitOne K (.ref c_TooMany) (.ref c_TooMany)=some true)
  (pg_Web:PySem.W.plainGet K c_Web Str.empty=true) (hd_Web:PySem.W.hasDictIn K c_Web=true) (po_Web:PySem.W.plainOver K c_Web=true) (sa_Web:PySem.W.findIn K (.ref c_Web) "__setattr__" = some (some (.builtin "object.__setattr__"))) (mk_Web:PySem.W.makesIn K c_Web=true) (kc_Web:PySem.W.keepIn K (.ref c_Web)=true)
  (na_Web_words:PySem.W.findIn K (.ref c_Web) "words" = some none)
  (na_Web_length:PySem.W.findIn K (.ref c_Web) "length" = some none)
  (ei_BadText:excIIn K c_BadText f_10=true) (sa_BadText:PySem.W.findIn K (.ref c_BadText) "__setattr__" = some (some (.builtin "object.__setattr__"))) (kc_BadText:PySem.W.keepIn K (.ref c_BadText)=true) (hd_BadText:PySem.W.hasDictIn K c_BadText=true) (na_BadText_at:PySem.W.findIn K (.ref c_BadText) "at" = some none)
  (bg_OnceError:PySem.W.specialIn K (.ref c_OnceError) "__getattribute__" = some (some (.builtin "type.__getattribute__"))) (br_OnceError:PySem.W.readsIn K c_OnceError (.type "type")=true) (bf_OnceError:PySem.W.findCls K (.ref c_OnceError) (.type "type") "__init__" = some (.val (.builtin "ValueError.__init__"))) :
  ∃ fd:FuncData,(∀ (s:Shared) (v:Value),BindsTo s fd ⟨[v],[]⟩ [("script",v)])∧∀ base:Heap,K.In base->base.Ns mainGlobals mg->FnOk l.prog w K mg base (CX2 l.prog w) 10 fa fd ["script"] (spLaw K):=by
 have e:=hfa.symm.trans (PySem.W.mg_of X G a_28)
 cases e
 obtain ⟨_,F_8,M_Web_init⟩:=h_8.go
 obtain ⟨_,F_10,M_BadText_init⟩:=h_10.go
 have tt:Txt K mg ⟨c_BadKinds,c_BadWord,c_TooMany,c_NotOne,c_NoSuch,c_NoRing,c_BadRule,c_BadDeed,c_BadText,c_OnceError,c_Web,c_ASKS,c_AHEAD,u_LETTERS,u_LONGEST,u_MOST_WORDS,u_MOST_OF_A_WEB,u_LONGEST_OF_A_WEB,u_MOST_OF_A_RULE,u_LONGEST_OF_A_RULE,u_FIGURES,u_MOST_FIGURES,u_MOST_LETTERS⟩:=⟨PySem.W.mg_none_of X G z_all,PySem.W.mg_none_of X G z_any,PySem.W.mg_none_of X G z_enumerate,PySem.W.mg_none_of X G z_int,PySem.W.mg_none_of X G z_isinstance,PySem.W.mg_none_of X G z_len,PySem.W.mg_none_of X G z_range,PySem.W.mg_none_of X G z_reversed,PySem.W.mg_none_of X G z_set,PySem.W.mg_none_of X G z_sorted,PySem.W.mg_none_of X G z_str,PySem.W.mg_none_of X G z_sum,PySem.W.mg_none_of X G z_tuple,PySem.W.mg_of X G y_BadKinds,PySem.W.mg_of X G y_BadWord,PySem.W.mg_of X G y_TooMany,PySem.W.mg_of X G y_NotOne,PySem.W.mg_of X G y_NoSuch,PySem.W.mg_of X G y_NoRing,PySem.W.mg_of X G y_BadRule,PySem.W.mg_of X G y_BadDeed,PySem.W.mg_of X G y_BadText,PySem.W.mg_of X G y_OnceError,PySem.W.mg_of X G y_Web,PySem.W.mg_of X G y_ASKS,PySem.W.mg_of X G y_AHEAD,⟨PySem.W.mg_of X G y_BadKinds,e_BadKinds⟩,⟨PySem.W.mg_of X G y_BadWord,e_BadWord⟩,⟨PySem.W.mg_of X G y_TooMany,e_TooMany⟩,⟨n1_BadText,n2_BadText,n3_BadText,n4_BadText,n5_BadText,n6_BadText,n7_BadText,n8_BadText⟩,⟨n1_BadKinds,n2_BadKinds,n3_BadKinds,n4_BadKinds,n5_BadKinds,n6_BadKinds,n7_BadKinds,n8_BadKinds⟩,⟨n1_BadWord,n2_BadWord,n3_BadWord,n4_BadWord,n5_BadWord,n6_BadWord,n7_BadWord,n8_BadWord⟩,⟨n1_TooMany,n2_TooMany,n3_TooMany,n4_TooMany,n5_TooMany,n6_TooMany,n7_TooMany,n8_TooMany⟩,PySem.W.mg_of X G g_LETTERS,r_LETTERS,PySem.W.mg_of X G g_LONGEST,r_LONGEST,PySem.W.mg_of X G g_MOST_WORDS,r_MOST_WORDS,PySem.W.mg_of X G g_MOST_OF_A_WEB,r_MOST_OF_A_WEB,PySem.W.mg_of X G g_LONGEST_OF_A_WEB,r_LONGEST_OF_A_WEB,PySem.W.mg_of X G g_MOST_OF_A_RULE,r_MOST_OF_A_RULE,PySem.W.mg_of X G g_LONGEST_OF_A_RULE,r_LONGEST_OF_A_RULE,PySem.W.mg_of X G g_FIGURES,r_FIGURES,PySem.W.mg_of X G g_MOST_FIGURES,r_MOST_FIGURES,PySem.W.mg_of X G g_MOST_LETTERS,r_MOST_LETTERS,k_asks,k_ahead,o_T,a_T,c_TT,c_TK,c_TW,c_TM,o_K,a_K,c_KT,c_KK,c_KW,c_KM,o_W,a_W,c_WT,c_WK,c_WW,c_WM,o_M,a_M,c_MT,c_MK,c_MW,c_MM,⟨pg_Web,hd_Web,po_Web,sa_Web⟩,na_Web_words,na_Web_length,⟨_,ei_BadText,M_BadText_init.fn,sa_BadText⟩,hd_BadText,na_BadText_at,⟨PySem.W.mg_of X G y_OnceError,bg_OnceError,br_OnceError,bf_OnceError⟩⟩
 obtain ⟨_,F_0,a_0⟩:=h_0.go
 obtain ⟨_,F_1,a_1⟩:=h_1.go
 obtain ⟨_,F_2,a_2⟩:=h_2.go
 obtain ⟨_,F_3,a_3⟩:=h_3.go
 obtain ⟨_,F_4,a_4⟩:=h_4.go
 obtain ⟨_,F_5,a_5⟩:=h_5.go
 obtain ⟨_,F_6,a_6⟩:=h_6.go
 obtain ⟨_,F_7,a_7⟩:=h_7.go
 obtain ⟨_,F_9,a_9⟩:=h_9.go
 obtain ⟨_,F_11,a_11⟩:=h_11.go
 obtain ⟨_,F_12,a_12⟩:=h_12.go
 obtain ⟨_,F_13,a_13⟩:=h_13.go
 obtain ⟨_,F_14,a_14⟩:=h_14.go
 obtain ⟨_,F_15,a_15⟩:=h_15.go
 obtain ⟨_,F_16,a_16⟩:=h_16.go
 obtain ⟨_,F_17,a_17⟩:=h_17.go
 obtain ⟨_,F_18,a_18⟩:=h_18.go
 obtain ⟨_,F_19,a_19⟩:=h_19.go
 obtain ⟨_,F_20,a_20⟩:=h_20.go
 obtain ⟨_,F_21,a_21⟩:=h_21.go
 obtain ⟨_,F_22,a_22⟩:=h_22.go
 obtain ⟨_,F_23,a_23⟩:=h_23.go
 obtain ⟨_,F_24,a_24⟩:=h_24.go
 obtain ⟨_,F_25,a_25⟩:=h_25.go
 obtain ⟨_,F_26,a_26⟩:=h_26.go
 obtain ⟨_,F_27,a_27⟩:=h_27.go
 have F_28:=fun_mk (st:=s_law) l_28 c_28 k_28
 refine ⟨PySem.W.fnOf "law" "law" (defArgs s_law) (defBody s_law) (defScope s_law) .none kV_28 dc_28 pm_28 an_28 cd_28 ct_28,fun s v=>.of_eq rfl,fun base _ _=>?_⟩
 have C_0:=mkC l.prog w base X G a_0 F_0 (ok_looked_kinds F_0 tt) (bd1 F_0)
 have C_1:=mkC l.prog w base X G a_1 F_1 (ok_looked_length F_1 tt C_0) (bd2 F_1)
 have C_2:=mkC l.prog w base X G a_2 F_2 (ok_letters F_2 tt C_0) (bd1 F_2)
 have C_3:=mkC l.prog w base X G a_3 F_3 (ok_looked F_3 tt C_1 C_2) (bd2 F_3)
 have C_4:=mkC l.prog w base X G a_4 F_4 (ok_word_total F_4 tt) (bd2 F_4)
 have C_5:=mkC l.prog w base X G a_5 F_5 (ok_spelled F_5 tt) (bd3 F_5)
 have C_6:=mkC l.prog w base X G a_6 F_6 (ok_all_words F_6 tt C_1 C_4 C_5) (bd2 F_6)
 have C_7:=mkC l.prog w base X G a_7 F_7 (ok_looked_web F_7 tt C_3) (bd1 F_7)
 have C_8:Cam l.prog w K mg base (CX2 l.prog w) "Web" c_Web 5 ["self", "words"] (spWebI K c_Web _):=⟨⟨_,_,ok_Web_init F_8 tt C_7,⟨mk_Web,M_Web_init.at_,M_Web_init.fn,kc_Web⟩,PySem.W.mg_of X G y_Web,(bd2 F_8)⟩⟩
 have C_9:=mkC l.prog w base X G a_9 F_9 (ok_looked_size F_9 tt C_0 C_4) (bd2 F_9)
 have C_10:Cxi l.prog w K mg base "BadText" c_BadText "at" 1 ["self", "words", "at"]:=⟨⟨_,_,ok_BadText_init F_10 tt,⟨ei_BadText,M_BadText_init.fn,sa_BadText⟩,PySem.W.mg_of X G y_BadText,kc_BadText,(bd3 F_10)⟩⟩
 have C_11:=mkC l.prog w base X G a_11 F_11 (ok_is_made_of F_11 tt) (bd3 F_11)
 have C_12:=mkC l.prog w base X G a_12 F_12 (ok_is_number F_12 tt C_11) (bd1 F_12)
 have C_13:=mkC l.prog w base X G a_13 F_13 (ok_is_text F_13 tt C_11) (bd1 F_13)
 have C_14:=mkC l.prog w base X G a_14 F_14 (ok_form_of F_14 tt C_12 C_13) (bd1 F_14)
 have C_15:=mkC l.prog w base X G a_15 F_15 (ok_kind_of F_15 tt C_14) (bd1 F_15)
 have C_16:=mkC l.prog w base X G a_16 F_16 (ok_looked_rows F_16 tt C_10 C_15) (bd1 F_16)
 have C_17:=mkC l.prog w base X G a_17 F_17 (ok_told_words F_17 tt C_9 C_6) (bd1 F_17)
 have C_18:=mkC l.prog w base X G a_18 F_18 (ok_read_page F_18 tt C_16 C_17 C_8) (bd1 F_18)
 have C_19:=mkC l.prog w base X G a_19 F_19 (ok__law_stir F_19 tt) (bd2 F_19)
 have C_20:=mkC l.prog w base X G a_20 F_20 (ok__law_count F_20 tt) (bd2 F_20)
 have C_21:=mkC l.prog w base X G a_21 F_21 (ok__law_all F_21 tt C_20) (bd1 F_21)
 have C_22:=mkC l.prog w base X G a_22 F_22 (ok__law_listed F_22 tt) (bd1 F_22)
 have C_23:=mkC l.prog w base X G a_23 F_23 (ok__law_laid F_23 tt) (bd2 F_23)
 have C_24:=mkC l.prog w base X G a_24 F_24 (ok__law_is_web F_24 tt) (bd1 F_24)
 have C_25:=mkC l.prog w base X G a_25 F_25 (ok__law_told F_25 tt C_22 C_23 C_24) (bd1 F_25)
 have C_26:=mkC l.prog w base X G a_26 F_26 (ok__law_heard F_26 tt C_18) (bd1 F_26)
 have C_27:=mkC l.prog w base X G a_27 F_27 (ok__law_fine F_27 tt C_19 C_21 C_25 C_26) (bd1 F_27)
 exact ok_law F_28 tt C_27
theorem walk {l : PySem.W.OpenLaw} {q : Program} {loose : List Str} {XP : (Str → Option Value) → Heap → Prop} {YP : World → Heap → Prop} {d : DefRec} {K : Params → PySem.W.Frag} (hn : l.most = some 63) (hdf : d.params.defaults = [])
  (hY : ∀ (w : World) (h : Heap), YP w h → (K w.params).In h)
  (F : ∀ (w : World) (mg : Str → Option Value) (fa : Addr) (h : Heap), (K w.params).In h → h.Ns mainGlobals mg → mg d.name = some (.ref fa) →
   ∃ fd : FuncData, (∀ (s : Shared) (u : Value), BindsTo s fd ⟨[u], []⟩ [("script", u)]) ∧ ∀ base : Heap, (K w.params).In base → base.Ns mainGlobals mg → FnOk l.prog w (K w.params) mg base (CX2 l.prog w) 10 fa fd ["script"] (spLaw (K w.params))) :
  PySem.W.WalkO q loose XP YP l.row.toRowW d [] (fun f vs => PySem.call f vs) :=
 L2.walk_of (n := 63) (k := 10) (x := "script") (CX := fun w => CX2 l.prog w) (sp := fun w => spLaw (K w.params)) hn (by decide) hdf ⟨rfl, by decide, by decide⟩ hY F (fun _ _ a ns hl _ hS => ⟨a, ns, rfl, hS, hl, fun _ => rfl⟩) fun _ _ _ _ _ ⟨_, _, _, _, _, _, _, z⟩ => z
end K79
theorem PySem.W.Fast.tw14011615904644740608:True:=trivial
theorem PySem.W.Fast.tw9094150822074691104:True:=trivial
theorem PySem.W.Fast.tw18057907448267790016:True:=trivial
theorem PySem.W.Fast.tw3882115087436540800:True:=trivial
theorem PySem.W.Fast.tw9923124190072704928:True:=trivial
theorem PySem.W.Fast.tw5029955772069630944:True:=trivial
theorem PySem.W.Fast.tw1822617072841519105:True:=trivial
theorem PySem.W.Fast.tw6435989737302534305:True:=trivial
theorem PySem.W.Fast.tw14978816733792591105:True:=trivial
theorem PySem.W.Fast.tw10782316717805339041:True:=trivial
theorem PySem.W.Fast.tw14612817634462116513:True:=trivial
theorem PySem.W.Fast.tw16552948239418643361:True:=trivial
theorem PySem.W.Fast.tw10843858019328200866:True:=trivial
theorem PySem.W.Fast.tw514533713028073858:True:=trivial
theorem PySem.W.Fast.tw15602584757385089794:True:=trivial
theorem PySem.W.Fast.tw12833519019367674722:True:=trivial
theorem PySem.W.Fast.tw13858885751609255139:True:=trivial
theorem PySem.W.Fast.tw12583638103361570467:True:=trivial
theorem PySem.W.Fast.tw12132750440219580195:True:=trivial
theorem PySem.W.Fast.tw320989213720198979:True:=trivial
theorem PySem.W.Fast.tw5406958873893979075:True:=trivial
theorem PySem.W.Fast.tw14247220222679775364:True:=trivial
theorem PySem.W.Fast.tw17921303925375442628:True:=trivial
theorem PySem.W.Fast.tw12638772207161389125:True:=trivial
theorem PySem.W.Fast.tw5164201450994382117:True:=trivial
theorem PySem.W.Fast.tw8623778236680410853:True:=trivial
theorem PySem.W.Fast.tw16974001737388658694:True:=trivial
theorem PySem.W.Fast.tw1401177172130848838:True:=trivial
theorem PySem.W.Fast.tw5771490278307544326:True:=trivial
theorem PySem.W.Fast.tw14172590600023253446:True:=trivial
theorem PySem.W.Fast.tw17973696523827613158:True:=trivial
theorem PySem.W.Fast.tw515568294216829446:True:=trivial
theorem PySem.W.Fast.tw17569637108466496166:True:=trivial
theorem PySem.W.Fast.tw6122280487076636486:True:=trivial
theorem PySem.W.Fast.tw14295297845739340678:True:=trivial
theorem PySem.W.Fast.tw16203668126221294534:True:=trivial
theorem PySem.W.Fast.tw8934837629701383110:True:=trivial
theorem PySem.W.Fast.tw4382880631845136615:True:=trivial
theorem PySem.W.Fast.tw6906281727888396647:True:=trivial
theorem PySem.W.Fast.tw2925260104455269895:True:=trivial
theorem PySem.W.Fast.tw6596128275422235271:True:=trivial
theorem PySem.W.Fast.tw13967178641524660007:True:=trivial
theorem PySem.W.Fast.tw7691015405285471304:True:=trivial
theorem PySem.W.Fast.tw15286552375074682024:True:=trivial
theorem PySem.W.Fast.tw3866008795401246984:True:=trivial
theorem PySem.W.Fast.tw10580680039748967752:True:=trivial
theorem PySem.W.Fast.tw10326184490493555112:True:=trivial
theorem PySem.W.Fast.tw6267091145796957608:True:=trivial
theorem PySem.W.Fast.tw12522962121224036968:True:=trivial
theorem PySem.W.Fast.tw580869924670677768:True:=trivial
theorem PySem.W.Fast.tw6666654604624814952:True:=trivial
theorem PySem.W.Fast.tw902133769760674728:True:=trivial
theorem PySem.W.Fast.tw11531156098868760681:True:=trivial
theorem PySem.W.Fast.tw16551871983713327305:True:=trivial
theorem PySem.W.Fast.tw11595299090942653769:True:=trivial
theorem PySem.W.Fast.tw6735499697605105385:True:=trivial
theorem PySem.W.Fast.tw9215574407727836937:True:=trivial
theorem PySem.W.Fast.tw2237308344459242345:True:=trivial
theorem PySem.W.Fast.tw11786133188020283273:True:=trivial
theorem PySem.W.Fast.tw12027414601008225257:True:=trivial
theorem PySem.W.Fast.tw5172540598758629450:True:=trivial
theorem PySem.W.Fast.tw6459072569604527210:True:=trivial
theorem PySem.W.Fast.tw5582827759183570218:True:=trivial
theorem PySem.W.Fast.tw125887341816628842:True:=trivial
theorem PySem.W.Fast.tw15915528941303311050:True:=trivial
theorem PySem.W.Fast.tw6891381262240216842:True:=trivial
theorem PySem.W.Fast.tw17989892770097463178:True:=trivial
theorem PySem.W.Fast.tw2584662628341424042:True:=trivial
theorem PySem.W.Fast.tw5747645600311462826:True:=trivial
theorem PySem.W.Fast.tw9643929248074459179:True:=trivial
theorem PySem.W.Fast.tw1835066184130573547:True:=trivial
theorem PySem.W.Fast.tw4825357802232397099:True:=trivial
theorem PySem.W.Fast.tw16618446984035995979:True:=trivial
theorem PySem.W.Fast.tw13437685318931722603:True:=trivial
theorem PySem.W.Fast.tw5408268188328800779:True:=trivial
theorem PySem.W.Fast.tw15348909629459670603:True:=trivial
theorem PySem.W.Fast.tw13444493584266681931:True:=trivial
theorem PySem.W.Fast.tw15900019267269777035:True:=trivial
theorem PySem.W.Fast.tw488061472957416267:True:=trivial
theorem PySem.W.Fast.tw12158855327487725451:True:=trivial
theorem PySem.W.Fast.tw5458281635221078987:True:=trivial
theorem PySem.W.Fast.tw269741765844699115:True:=trivial
theorem PySem.W.Fast.tw11237068421769276460:True:=trivial
theorem PySem.W.Fast.tw4368735485153390892:True:=trivial
theorem PySem.W.Fast.tw11902681758271232300:True:=trivial
theorem PySem.W.Fast.tw11392473268655744300:True:=trivial
theorem PySem.W.Fast.tw5851178697452516684:True:=trivial
theorem PySem.W.Fast.tw14106501820764415340:True:=trivial
theorem PySem.W.Fast.tw5866501271541747180:True:=trivial
theorem PySem.W.Fast.tw2574532330359477740:True:=trivial
theorem PySem.W.Fast.tw11117242934748060556:True:=trivial
theorem PySem.W.Fast.tw16091264058768841644:True:=trivial
theorem PySem.W.Fast.tw13211879076070655916:True:=trivial
theorem PySem.W.Fast.te1257462517648650285:True:=trivial
theorem PySem.W.Fast.tw907300318482638957:True:=trivial
theorem PySem.W.Fast.tw5432013831383885485:True:=trivial
theorem PySem.W.Fast.tw10020608303978692301:True:=trivial
theorem PySem.W.Fast.tw12217376511333321421:True:=trivial
theorem PySem.W.Fast.tw7649432795625922541:True:=trivial
theorem PySem.W.Fast.tw6117357246734352750:True:=trivial
theorem PySem.W.Fast.tw8799788922194609742:True:=trivial
theorem PySem.W.Fast.tw5219414011839773358:True:=trivial
theorem PySem.W.Fast.tw4232232463406768271:True:=trivial
theorem PySem.W.Fast.tw704789135792981199:True:=trivial
theorem PySem.W.Fast.tw15515154393196394703:True:=trivial
theorem PySem.W.Fast.tw17663079065410669807:True:=trivial
theorem PySem.W.Fast.tw4922873539540068687:True:=trivial
theorem PySem.W.Fast.tw17201715608804135407:True:=trivial
theorem PySem.W.Fast.tw1648920574786978543:True:=trivial
theorem PySem.W.Fast.tw15796228389453396815:True:=trivial
theorem PySem.W.Fast.tw11473479453640155280:True:=trivial
theorem PySem.W.Fast.tw11629022340807526576:True:=trivial
theorem PySem.W.Fast.tw3656135409432817008:True:=trivial
theorem PySem.W.Fast.tw6862308003806500240:True:=trivial
theorem PySem.W.Fast.tw5139914193645704944:True:=trivial
theorem PySem.W.Fast.tw12089973431269952336:True:=trivial
theorem PySem.W.Fast.tw2637643333329090641:True:=trivial
theorem PySem.W.Fast.tw7462617557553177745:True:=trivial
theorem PySem.W.Fast.tw12270542214100777137:True:=trivial
theorem PySem.W.Fast.tw11929760193540476337:True:=trivial
theorem PySem.W.Fast.tw9546498703730850481:True:=trivial
theorem PySem.W.Fast.tw8783297890800328401:True:=trivial
theorem PySem.W.Fast.tw6183480658272422673:True:=trivial
theorem PySem.W.Fast.tw3168771508063845233:True:=trivial
theorem PySem.W.Fast.tw15519355822012225842:True:=trivial
theorem PySem.W.Fast.tw7984374472545454386:True:=trivial
theorem PySem.W.Fast.tw3567093064272930578:True:=trivial
theorem PySem.W.Fast.tw14992611003405748082:True:=trivial
theorem PySem.W.Fast.tw17420285582496278482:True:=trivial
theorem PySem.W.Fast.tw667003824932428754:True:=trivial
theorem PySem.W.Fast.tw5887469862130694643:True:=trivial
theorem PySem.W.Fast.tw15099391953684479699:True:=trivial
theorem PySem.W.Fast.tw6179839537846664115:True:=trivial
theorem PySem.W.Fast.tw5883858930129748979:True:=trivial
theorem PySem.W.Fast.tw11021809070062721492:True:=trivial
theorem PySem.W.Fast.tw1160054943745726260:True:=trivial
theorem PySem.W.Fast.tw6951419344288560084:True:=trivial
theorem PySem.W.Fast.tw16465022484297795605:True:=trivial
theorem PySem.W.Fast.tw17319240408243215029:True:=trivial
theorem PySem.W.Fast.tw17623407850599865366:True:=trivial
theorem PySem.W.Fast.tw11205840696350047318:True:=trivial
theorem PySem.W.Fast.tw3895978336701615222:True:=trivial
theorem PySem.W.Fast.tw5849571997399706902:True:=trivial
theorem PySem.W.Fast.tw35492090599177622:True:=trivial
theorem PySem.W.Fast.tw6354194272090775190:True:=trivial
theorem PySem.W.Fast.tw2729720663906240374:True:=trivial
theorem PySem.W.Fast.tw4954974513056649431:True:=trivial
theorem PySem.W.Fast.tw8134799463587717783:True:=trivial
theorem PySem.W.Fast.tw8329439785585190679:True:=trivial
theorem PySem.W.Fast.tw15180232341888741175:True:=trivial
theorem PySem.W.Fast.tw10471829580885036056:True:=trivial
theorem PySem.W.Fast.tw10419320535534074936:True:=trivial
theorem PySem.W.Fast.tw3716836380181172376:True:=trivial
theorem PySem.W.Fast.tw17270691913286169880:True:=trivial
theorem PySem.W.Fast.tw12526660851691645432:True:=trivial
theorem PySem.W.Fast.tw8829154996817299960:True:=trivial
theorem PySem.W.Fast.tw651964751345019448:True:=trivial
theorem PySem.W.Fast.tw5466362073662580344:True:=trivial
theorem PySem.W.Fast.tw14281719951545007896:True:=trivial
theorem PySem.W.Fast.tw3410714803159217976:True:=trivial
theorem PySem.W.Fast.tw8641121733916150584:True:=trivial
theorem PySem.W.Fast.tw9691719169645738840:True:=trivial
theorem PySem.W.Fast.tw6553090550411493272:True:=trivial
theorem PySem.W.Fast.tw3842653407495378137:True:=trivial
theorem PySem.W.Fast.tw14737793492491526457:True:=trivial
theorem PySem.W.Fast.tw15970017206306473369:True:=trivial
theorem PySem.W.Fast.tw13408490686196294073:True:=trivial
theorem PySem.W.Fast.tw10755813097118168665:True:=trivial
theorem PySem.W.Fast.tw16852884641376691961:True:=trivial
theorem PySem.W.Fast.tw16496678468621465497:True:=trivial
theorem PySem.W.Fast.tw4664680130986613818:True:=trivial
theorem PySem.W.Fast.tw8932075248503177402:True:=trivial
theorem PySem.W.Fast.tw4183876755385189914:True:=trivial
theorem PySem.W.Fast.tw17456911642673252890:True:=trivial
theorem PySem.W.Fast.tw389376640528782874:True:=trivial
theorem PySem.W.Fast.tw12845273985689110683:True:=trivial
theorem PySem.W.Fast.tw16861927512740370939:True:=trivial
theorem PySem.W.Fast.tw10390877268565851899:True:=trivial
theorem PySem.W.Fast.tw1881451146695180828:True:=trivial
theorem PySem.W.Fast.tw14198832241326865052:True:=trivial
theorem PySem.W.Fast.tw10901130672754305788:True:=trivial
theorem PySem.W.Fast.tw12140169285465337021:True:=trivial
theorem PySem.W.Fast.tw15536920798312253757:True:=trivial
theorem PySem.W.Fast.tw8300427362971425245:True:=trivial
theorem PySem.W.Fast.tw15181835624732705373:True:=trivial
theorem PySem.W.Fast.tw6733184595036071549:True:=trivial
theorem PySem.W.Fast.tw4563973853889347485:True:=trivial
theorem PySem.W.Fast.tw5349202508623366526:True:=trivial
theorem PySem.W.Fast.tw13713948007168943870:True:=trivial
theorem PySem.W.Fast.tw455904969448945502:True:=trivial
theorem PySem.W.Fast.tw12205573039082285918:True:=trivial
theorem PySem.W.Fast.tw6441652662109927551:True:=trivial
theorem PySem.W.Fast.tw15962246711769481759:True:=trivial
theorem PySem.W.Fast.tw10499991735162871359:True:=trivial
theorem PySem.W.Fast.tw14843157330595754623:True:=trivial
theorem PySem.W.Fast.tw1597132645091547071:True:=trivial
theorem PySem.W.Fast.tw2258292369575057375:True:=trivial
def PySem.W.Fast.tw4278108972027705000:=PySem.Challenge.pw_onceround_k79_webs_of_pages_refused
theorem PySem.W.Fast.te4278108972027705000:PySem.Challenge.pw_onceround_k79_webs_of_pages_refused=PySem.W.Fast.tw4278108972027705000:=rfl
end
open PySem PySem.W PyProof.Rows
set_option maxRecDepth 100000 in
set_option maxHeartbeats 0 in
theorem PySem.Challenge.cw_onceround_k79_webs_of_pages_refused_holds : PySem.Challenge.rw_onceround_k79_webs_of_pages_refused.Holds := by
  w_on; o_law; k_head; (case hw => w_witness2)
  k_fill
  refine K79.walk (l := PySem.Challenge.rw_onceround_k79_webs_of_pages_refused) rfl rfl (fun w h Y => PySem.W.kIn_of Y) ?F
  case F =>
    intro w mg fa h KX G hmg
    refine' K79.all_mk KX G hmg ?h_0 ?h_1 ?h_2 ?h_3 ?h_4 ?h_5 ?h_6 ?h_7 ?h_8 ?h_9 ?h_10 ?h_11 ?h_12 ?h_13 ?h_14 ?h_15 ?h_16 ?h_17 ?h_18 ?h_19 ?h_20 ?h_21 ?h_22 ?h_23 ?h_24 ?h_25 ?h_26 ?h_27 ?a_28 ?l_28 ?c_28 ?k_28 ?z_all ?z_any ?z_enumerate ?z_int ?z_isinstance ?z_len ?z_range ?z_reversed ?z_set ?z_sorted ?z_str ?z_sum ?z_tuple ?y_BadKinds ?y_BadWord ?y_TooMany ?y_NotOne ?y_NoSuch ?y_NoRing ?y_BadRule ?y_BadDeed ?y_BadText ?y_OnceError ?y_Web ?y_ASKS ?y_AHEAD ?e_BadKinds ?e_BadWord ?e_TooMany ?n1_BadText ?n2_BadText ?n3_BadText ?n4_BadText ?n5_BadText ?n6_BadText ?n7_BadText ?n8_BadText ?n1_BadKinds ?n2_BadKinds ?n3_BadKinds ?n4_BadKinds ?n5_BadKinds ?n6_BadKinds ?n7_BadKinds ?n8_BadKinds ?n1_BadWord ?n2_BadWord ?n3_BadWord ?n4_BadWord ?n5_BadWord ?n6_BadWord ?n7_BadWord ?n8_BadWord ?n1_TooMany ?n2_TooMany ?n3_TooMany ?n4_TooMany ?n5_TooMany ?n6_TooMany ?n7_TooMany ?n8_TooMany ?g_LETTERS ?r_LETTERS ?g_LONGEST ?r_LONGEST ?g_MOST_WORDS ?r_MOST_WORDS ?g_MOST_OF_A_WEB ?r_MOST_OF_A_WEB ?g_LONGEST_OF_A_WEB ?r_LONGEST_OF_A_WEB ?g_MOST_OF_A_RULE ?r_MOST_OF_A_RULE ?g_LONGEST_OF_A_RULE ?r_LONGEST_OF_A_RULE ?g_FIGURES ?r_FIGURES ?g_MOST_FIGURES ?r_MOST_FIGURES ?g_MOST_LETTERS ?r_MOST_LETTERS ?k_asks ?k_ahead ?o_T ?a_T ?c_TT ?c_TK ?c_TW ?c_TM ?o_K ?a_K ?c_KT ?c_KK ?c_KW ?c_KM ?o_W ?a_W ?c_WT ?c_WK ?c_WW ?c_WM ?o_M ?a_M ?c_MT ?c_MK ?c_MW ?c_MM ?pg_Web ?hd_Web ?po_Web ?sa_Web ?mk_Web ?kc_Web ?na_Web_words ?na_Web_length ?ei_BadText ?sa_BadText ?kc_BadText ?hd_BadText ?na_BadText_at ?bg_OnceError ?br_OnceError ?bf_OnceError
    (case y_OnceError => k_is)
    (all_goals try (apply K79.hf_mk <;> k_is))
    (case y_BadText => k_is)
    (case y_Web => k_is)
    (case h_8 => apply K79.hm_mk <;> k_is)
    (case h_10 => apply K79.hm_mk <;> k_is)
    (case a_28 => k_is)
    (case l_28 => k_is)
    (case c_28 => k_is)
    (case k_28 => k_is)
    (case z_all => k_is)
    (case z_any => k_is)
    (case z_enumerate => k_is)
    (case z_int => k_is)
    (case z_isinstance => k_is)
    (case z_len => k_is)
    (case z_range => k_is)
    (case z_reversed => k_is)
    (case z_set => k_is)
    (case z_sorted => k_is)
    (case z_str => k_is)
    (case z_sum => k_is)
    (case z_tuple => k_is)
    (case y_BadKinds => k_is)
    (case y_BadWord => k_is)
    (case y_TooMany => k_is)
    (case y_NotOne => k_is)
    (case y_NoSuch => k_is)
    (case y_NoRing => k_is)
    (case y_BadRule => k_is)
    (case y_BadDeed => k_is)
    (case y_ASKS => k_is)
    (case y_AHEAD => k_is)
    (case e_BadKinds => kernel_rfl)
    (case e_BadWord => kernel_rfl)
    (case e_TooMany => kernel_rfl)
    (case n1_BadText => k_is)
    (case n2_BadText => k_is)
    (case n3_BadText => k_is)
    (case n4_BadText => k_is)
    (case n5_BadText => k_is)
    (case n6_BadText => k_is)
    (case n7_BadText => k_is)
    (case n8_BadText => kernel_rfl)
    (case n1_BadKinds => k_is)
    (case n2_BadKinds => k_is)
    (case n3_BadKinds => k_is)
    (case n4_BadKinds => k_is)
    (case n5_BadKinds => k_is)
    (case n6_BadKinds => k_is)
    (case n7_BadKinds => k_is)
    (case n8_BadKinds => kernel_rfl)
    (case n1_BadWord => k_is)
    (case n2_BadWord => k_is)
    (case n3_BadWord => k_is)
    (case n4_BadWord => k_is)
    (case n5_BadWord => k_is)
    (case n6_BadWord => k_is)
    (case n7_BadWord => k_is)
    (case n8_BadWord => kernel_rfl)
    (case n1_TooMany => k_is)
    (case n2_TooMany => k_is)
    (case n3_TooMany => k_is)
    (case n4_TooMany => k_is)
    (case n5_TooMany => k_is)
    (case n6_TooMany => k_is)
    (case n7_TooMany => k_is)
    (case n8_TooMany => kernel_rfl)
    (case g_LETTERS => k_is)
    (case r_LETTERS => exact ⟨_, rfl⟩)
    (case g_LONGEST => k_is)
    (case r_LONGEST => exact ⟨_, rfl⟩)
    (case g_MOST_WORDS => k_is)
    (case r_MOST_WORDS => exact ⟨_, rfl⟩)
    (case g_MOST_OF_A_WEB => k_is)
    (case r_MOST_OF_A_WEB => exact ⟨_, rfl⟩)
    (case g_LONGEST_OF_A_WEB => k_is)
    (case r_LONGEST_OF_A_WEB => exact ⟨_, rfl⟩)
    (case g_MOST_OF_A_RULE => k_is)
    (case r_MOST_OF_A_RULE => exact ⟨_, rfl⟩)
    (case g_LONGEST_OF_A_RULE => k_is)
    (case r_LONGEST_OF_A_RULE => exact ⟨_, rfl⟩)
    (case g_FIGURES => k_is)
    (case r_FIGURES => exact ⟨_, rfl⟩)
    (case g_MOST_FIGURES => k_is)
    (case r_MOST_FIGURES => exact ⟨_, rfl⟩)
    (case g_MOST_LETTERS => k_is)
    (case r_MOST_LETTERS => exact ⟨_, rfl⟩)
    (case k_asks => kernel_rfl)
    (case k_ahead => kernel_rfl)
    (case o_T => kts_exm)
    (case a_T => kit_is)
    (case c_TT => kit_is)
    (case c_TK => kit_is)
    (case c_TW => kit_is)
    (case c_TM => kit_is)
    (case o_K => kts_exm)
    (case a_K => kit_is)
    (case c_KT => kit_is)
    (case c_KK => kit_is)
    (case c_KW => kit_is)
    (case c_KM => kit_is)
    (case o_W => kts_exm)
    (case a_W => kit_is)
    (case c_WT => kit_is)
    (case c_WK => kit_is)
    (case c_WW => kit_is)
    (case c_WM => kit_is)
    (case o_M => kts_exm)
    (case a_M => kit_is)
    (case c_MT => kit_is)
    (case c_MK => kit_is)
    (case c_MW => kit_is)
    (case c_MM => kit_is)
    (case pg_Web => k_is)
    (case hd_Web => k_is)
    (case po_Web => k_is)
    (case sa_Web => k_is)
    (case mk_Web => k_is)
    (case kc_Web => k_is)
    (case na_Web_words => k_is)
    (case na_Web_length => k_is)
    (case ei_BadText => kernel_rfl)
    (case sa_BadText => k_is)
    (case kc_BadText => k_is)
    (case hd_BadText => k_is)
    (case na_BadText_at => k_is)
    (case bg_OnceError => kernel_rfl)
    (case br_OnceError => kernel_rfl)
    (case bf_OnceError => kernel_rfl)
#print axioms PySem.Challenge.cw_onceround_k79_webs_of_pages_refused_holds
